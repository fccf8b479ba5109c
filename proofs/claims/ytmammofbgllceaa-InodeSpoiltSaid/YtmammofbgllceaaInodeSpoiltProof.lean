/- A node's sector with bytes that are others: read as the document says: InodeSpoilt returns true, for every node and all fields. No condition. -/
import Derived.Test.YtmammofbgllceaaRows
import Derived.Test.YtmammofbgllceaaNodH
import Derived.Test.YtmammofbgllceaaNodK
import Derived.Test.YtmammofbgllceaaNodG
import Derived.WalkKit
import Derived.ProofKit
import Derived.OpenShut
import Derived.ChangeMaps5
import Derived.Carry
import Derived.Test.YtmammofbgllceaaNodO
import Derived.Test.YtmammofbgllceaaNodP
import Derived.Test.YtmammofbgllceaaNodQ
import Derived.Test.YtmammofbgllceaaByt
namespace Go.Proofs.Ytmammofbgllceaa.inodeSpoilt
open Go.ChangeShapes Go.WideShapes Go.ChangeAt Go.RowKit Go.ChangeMaps
open Go.Proofs.Ytmammofbgllceaa Go.Proofs.Ytmammofbgllceaa.Nod
open Go.Proofs.Ytmammofbgllceaa.Sym Go.Proofs.Ytmammofbgllceaa.Mem
open Go.Proofs.Ytmammofbgllceaa.Sx hiding Mm m_alloc m_store m_put m_call m_callx m_make m_append r_string r_ixS
set_option linter.unusedVariables false

theorem own : ownKnob Try.prog.godebug = none := by kernel_rfl
attribute [local irreducible] wpList Oper.wp
theorem lvw {P : Program} {ops : Array Oper} {Q : Exit → Act → World → Prop} {oi : Oper} {rest : List Oper} {a : Act} {w : World} (d : Tmp) (v : Value) (hg : Region.wanted oi (yielded ops a.tmps) = true) (hd : oi.dst = some d) (hrun : (execOp a.eval oi).run P w = .ok (.value v) w)
    (h : wpList P ops Q rest { a with tmps := a.tmps.setIfInBounds d v } w) : wpList P ops Q (oi :: rest) a w :=
  Sym.lst hg (Sym.w_value d v hd hrun h)
theorem z_eqlt {P : Program} {o : Oper} {a : Act} {w : World} {x y : Operand} {T T' : TypeId} {k : IntKind} (n m : Int) (h : n = m) (ho : o.op = .binOp .eql T x y T') (hx : a.eval x = .int k n) (hy : a.eval y = .int k m) : (execOp a.eval o).run P w = .ok (.value (.bool true)) w := by
  have := z_eql (P := P) (w := w) n m ho hx hy
  rw [decide_eq_true h] at this
  exact this
theorem t_eqt {P : Program} {o : Oper} {a : Act} {w : World} {x y : Operand} {T T' : TypeId} (s t : List UInt8) (h : s = t) (ho : o.op = .binOp .eql T x y T') (hx : a.eval x = .string (tx s)) (hy : a.eval y = .string (tx t)) : (execOp a.eval o).run P w = .ok (.value (.bool true)) w := by
  have := t_eql (P := P) (w := w) s t ho hx hy
  rw [decide_eq_true h] at this
  exact this
theorem good_of {l : List UInt8} (h : errRd l = 0) : goodR l := by
  by_cases hg : goodR l
  · exact hg
  · rw [errRd, if_neg hg] at h; cases h
theorem good_err {l : List UInt8} (h : goodR l) : errR (readN l) = 0 := by rw [readN, if_pos h, errR, if_pos h.2.2.1]
theorem good_back {l : List UInt8} (h : goodR l) : bytesR (readN l) = l := by rw [readN, if_pos h, bytesR, if_pos h.2.2.1, h.2.2.2]
theorem read_few (l : List UInt8) : (readN l).blocks.length ≤ 57 := by
  by_cases h : goodR l
  · have := check_len h.2.2.1
    rwa [readN, if_pos h]
  · rw [readN, if_neg h]; decide
theorem laidOut : laidOutB Try.prog = true := by kernel_rfl
theorem b_eqlt {o : Oper} {a : Act} {w : World} {x y : Operand} (p : Bool) (ho : o.op = .binOp .eql 4 x y 4) (hx : a.eval x = .bool p) (hy : a.eval y = .bool p) : (execOp a.eval o).run Try.prog w = .ok (.value (.bool true)) w := by
  unfold execOp
  simp only [ho, hx, hy]
  generalize a.eval = f at *
  cases p <;> go_simp
theorem rsame_eq (x y : Nd) (h : y = x) (v v' : Value) (w : World) (hb : Rd w v x.blocks.length 1 (x.blocks.map iv)) (hb' : Rd w v' y.blocks.length 1 (y.blocks.map iv)) (hsz : x.blocks.length ≤ 1000000000000) :
    Calls Try.prog 33 #[.agg #[.int .i64 x.kind, .int .i64 x.mode, .int .i64 x.uid, .int .i64 x.gid, .int .i64 x.time, .int .i64 x.links, .int .i64 x.size, v], .agg #[.int .i64 y.kind, .int .i64 y.mode, .int .i64 y.uid, .int .i64 y.gid, .int .i64 y.time, .int .i64 y.links, .int .i64 y.size, v']] w (fun e w' => e = .returned (.bool true) ∧ Below w.heap.size w w') := by
  subst h
  exact rsame_self y v v' w hb hb' hsz
set_option maxHeartbeats 4000000 in
set_option maxRecDepth 100000 in
theorem walk (x : Nd) (v : Value) (l : List (Int × UInt8)) (vl : Value) (w : World) (hb : Rd w v x.blocks.length 1 (x.blocks.map iv)) (hl : Rd w vl l.length 2 (l.flatMap fv)) (hlen : l.length ≤ maxLen) : Calls Try.prog 10 #[.agg #[.int .i64 (x.kind), .int .i64 (x.mode), .int .i64 (x.uid), .int .i64 (x.gid), .int .i64 (x.time), .int .i64 (x.links), .int .i64 (x.size), v], vl] w (fun e w' => e = .returned (.bool true) ∧ Below w.heap.size w w') := by
  go_enter Try.func10, Try.ntmps10
  have hm0 := Mm.nil none w
  refine wp_seq_k (fun K1 hK1 => ?_)
  refine wp_region_lit ?_
  refine lst (wanted_none rfl) (m_alloc (c := #[.int .i64 (x.kind), .int .i64 (x.mode), .int .i64 (x.uid), .int .i64 (x.gid), .int .i64 (x.time), .int .i64 (x.links), .int .i64 (x.size), v]) (T := 48) hm0 2 rfl (run_box rfl rfl) (fun g4 w2 (hm3 : Mm none w w2 [.blk g4 #[.int .i64 (x.kind), .int .i64 (x.mode), .int .i64 (x.uid), .int .i64 (x.gid), .int .i64 (x.time), .int .i64 (x.links), .int .i64 (x.size), v] 48]) => ?_))
  simp only [nz1, nz2, nz3]
  refine lv 4 (.bool false) rfl rfl (run_as rfl rfl) ?_
  simp only [nz1, nz2, nz3]
  refine wpList_nil ?_
  refine then_n (hK1 _ _ ?_)
  refine wp_seq_k (fun K5 hK5 => ?_)
  refine wp_region_lit ?_
  refine lv 14 (.agg #[.int .i64 (x.kind), .int .i64 (x.mode), .int .i64 (x.uid), .int .i64 (x.gid), .int .i64 (x.time), .int .i64 (x.links), .int .i64 (x.size), v]) rfl rfl (r_whole (hm3.at 0 rfl) Try.underlying48 rfl (by exact sz_node) rfl rfl) ?_
  simp only [nz1, nz2, nz3]
  refine lst (wanted_none rfl) (m_call hm3 15 (.tuple #[.string (tx (bytesR x)), .int .i64 (errR x)]) rfl (run_Bytes rfl rfl) (bytes_any x v _ (hb.below hm3.below)) (fun w6 (hm7 : Mm none w w6 [.blk g4 #[.int .i64 (x.kind), .int .i64 (x.mode), .int .i64 (x.uid), .int .i64 (x.gid), .int .i64 (x.time), .int .i64 (x.links), .int .i64 (x.size), v] 48]) => ?_))
  simp only [nz1, nz2, nz3]
  refine lv 13 (.tuple #[.string (tx (bytesR x)), .int .i64 (errR x)]) rfl rfl (run_mv rfl rfl) ?_
  simp only [nz1, nz2, nz3]
  refine lv 16 (.string (tx (bytesR x))) rfl rfl (run_ex rfl rfl rfl) ?_
  simp only [nz1, nz2, nz3]
  refine lv 17 (.int .i64 (errR x)) rfl rfl (run_ex rfl rfl rfl) ?_
  simp only [nz1, nz2, nz3]
  refine lv 5 (.string (tx (bytesR x))) rfl rfl (run_as rfl rfl) ?_
  simp only [nz1, nz2, nz3]
  refine lv 6 (.int .i64 (errR x)) rfl rfl (run_as rfl rfl) ?_
  simp only [nz1, nz2, nz3]
  refine wpList_nil ?_
  refine then_n (hK5 _ _ ?_)
  refine wp_seq_k (fun K8 hK8 => ?_)
  refine wp_seq_k (fun K9 hK9 => ?_)
  refine wp_region_lit ?_
  refine lv 18 (.int .i64 (errR x)) rfl rfl (run_mv rfl rfl) ?_
  simp only [nz1, nz2, nz3]
  refine lv 19 (.bool (decide (¬ errR x = ((0 : Nat) : Int)))) rfl rfl (z_neq (errR x) ((0 : Nat) : Int) rfl rfl rfl) ?_
  simp only [nz1, nz2, nz3]
  refine wpList_nil ?_
  refine then_n (hK9 _ _ ?_)
  refine cond_d (¬ errR x = ((0 : Nat) : Int)) rfl (fun hc10 => ?_) (fun hc10 => ?_)
  · rw [decide_eq_true hc10]
    have hnil : bytesR x = [] := if_neg (fun hc => hc10 (if_pos hc))
    refine wp_seq_k (fun K11 hK11 => ?_)
    refine wp_region_lit ?_
    refine lst (wanted_none rfl) (m_call hm7 20 (.bool true) rfl (run_awake rfl) (awake_any _) (fun w12 (hm13 : Mm none w w12 [.blk g4 #[.int .i64 (x.kind), .int .i64 (x.mode), .int .i64 (x.uid), .int .i64 (x.gid), .int .i64 (x.time), .int .i64 (x.links), .int .i64 (x.size), v] 48]) => ?_))
    simp only [nz1, nz2, nz3]
    refine lv 21 (.bool true) rfl rfl (run_mv rfl rfl) ?_
    simp only [nz1, nz2, nz3]
    refine lvw 22 (.string (tx (bytesR x))) rfl rfl (run_mv rfl rfl) ?_
    simp only [nz1, nz2, nz3]
    refine lvw 23 (.bool true) rfl rfl (t_eqt (bytesR x) [] hnil rfl rfl rfl) ?_
    simp only [nz1, nz2, nz3]
    refine lv 24 (.bool true) rfl rfl (run_pick rfl rfl rfl) ?_
    simp only [nz1, nz2, nz3]
    refine lv 4 (.bool true) rfl rfl (run_as rfl rfl) ?_
    simp only [nz1, nz2, nz3]
    refine wpList_nil ?_
    refine then_n (hK11 _ _ ?_)
    refine wp_ret ?_
    refine then_r ?_
    exact ⟨rfl, .bool true, res_t rfl rfl, ⟨rfl, hm13.below⟩⟩
  rw [decide_eq_false hc10]
  have hck : CheckP x := errR_ok (Classical.not_not.1 hc10)
  have hl256 : (bytesR x).length = 256 := by rw [bytesR, if_pos hck]; exact bytes_256 (check_len hck)
  refine wp_skip ?_
  refine then_n (hK8 _ _ ?_)
  refine wp_seq_k (fun K14 hK14 => ?_)
  refine wp_region_lit ?_
  refine lv 25 (.string (tx (bytesR x))) rfl rfl (run_mv rfl rfl) ?_
  simp only [nz1, nz2, nz3]
  refine lst (wanted_none rfl) (m_bytes (tx (bytesR x)) hm7 26 rfl Try.underlying9 Try.underlying37 Try.underlying5 rfl rfl (fun g17 n w15 (hm16 : Mm none w w15 [.blk g4 #[.int .i64 (x.kind), .int .i64 (x.mode), .int .i64 (x.uid), .int .i64 (x.gid), .int .i64 (x.time), .int .i64 (x.links), .int .i64 (x.size), v] 48, .blk g17 (bcells (tx (bytesR x)) n) 5]) => ?_))
  rw [bb_start] at hm16
  rw [tx_size, hl256]
  simp only [nz1, nz2, nz3]
  refine lv 7 (.slice (some ⟨g17, 0, none⟩) 256 (256 + n)) rfl rfl (run_as rfl rfl) ?_
  simp only [nz1, nz2, nz3]
  refine wpList_nil ?_
  refine then_n (hK14 _ _ ?_)
  refine wp_seq_k (fun K18 hK18 => ?_)
  refine wp_seq_k (fun K19 hK19 => ?_)
  refine wp_region_lit ?_
  refine lv 8 (.int .i64 0) rfl rfl (run_as rfl rfl) ?_
  simp only [nz1, nz2, nz3]
  refine wpList_nil ?_
  refine then_n (hK19 _ _ ?_)
  refine wp_block ?_
  refine wp_loop_n (fun n' a' w' => ∃ (i : Nat) (q : List UInt8) (u0 : Nat → Value), n' = l.length - i ∧ (i ≤ l.length) ∧ (q.length = 256) ∧ a' = ⟨#[.agg #[.int .i64 (x.kind), .int .i64 (x.mode), .int .i64 (x.uid), .int .i64 (x.gid), .int .i64 (x.time), .int .i64 (x.links), .int .i64 (x.size), v], vl, .pointer (some ⟨g4, 0, none⟩), undef, .bool false, .string (tx (bytesR x)), .int .i64 (errR x), .slice (some ⟨g17, 0, none⟩) 256 (256 + n), .int .i64 ((i : Nat) : Int), undef, undef, undef, undef, .tuple #[.string (tx (bytesR x)), .int .i64 (errR x)], .agg #[.int .i64 (x.kind), .int .i64 (x.mode), .int .i64 (x.uid), .int .i64 (x.gid), .int .i64 (x.time), .int .i64 (x.links), .int .i64 (x.size), v], .tuple #[.string (tx (bytesR x)), .int .i64 (errR x)], .string (tx (bytesR x)), .int .i64 (errR x), .int .i64 (errR x), .bool false, undef, undef, undef, undef, undef, .string (tx (bytesR x)), .slice (some ⟨g17, 0, none⟩) 256 (256 + n), u0 0, u0 1, u0 2, u0 3, u0 4, u0 5, u0 6, u0 7, u0 8, u0 9, u0 10, u0 11, u0 12, u0 13, u0 14, u0 15, u0 16, u0 17, u0 18, u0 19, u0 20, u0 21, u0 22, u0 23, u0 24, u0 25, undef, undef, undef, undef, undef, undef, undef, undef, undef, undef, undef, undef, undef, undef, undef, undef, undef, undef, undef, undef, undef, undef, undef], []⟩ ∧ Mm none w w' [.blk g4 #[.int .i64 (x.kind), .int .i64 (x.mode), .int .i64 (x.uid), .int .i64 (x.gid), .int .i64 (x.time), .int .i64 (x.links), .int .i64 (x.size), v] 48, .blk g17 (bb q n) 5]) ⟨0, (bytesR x), (fun qq => bif Nat.blt qq 24 then List.getD [undef, undef, undef, undef, undef, undef, undef, undef, undef, undef, undef, undef, undef, undef, undef, undef, undef, undef, undef, undef, undef, undef, undef, undef] qq undef else List.getD [undef, undef] (qq - 24) undef), rfl, (Nat.zero_le _), hl256, rfl, hm16⟩ ?_
  clear hm16
  rintro _ _ w20 ⟨i, q, u0, hn0, hi, hq, rfl, hm21⟩ R22 hR22
  refine wp_seq_k (fun K23 hK23 => ?_)
  refine wp_seq_k (fun K24 hK24 => ?_)
  refine wp_region_lit ?_
  refine lv 27 (.int .i64 ((i : Nat) : Int)) rfl rfl (run_mv rfl rfl) ?_
  simp only [nz1, nz2, nz3]
  refine lv 28 (vl) rfl rfl (run_mv rfl rfl) ?_
  simp only [nz1, nz2, nz3]
  refine lv 29 (.int .i64 ((l.length : Nat) : Int)) rfl rfl (s_len hl rfl Try.underlying55 rfl) ?_
  simp only [nz1, nz2, nz3]
  refine lvb 30 (i < l.length) rfl rfl (r_lss i l.length rfl rfl rfl) (fun hs25 => ?_) (fun hs25 => ?_)
  · simp only [nz1, nz2, nz3]
    refine lv 31 (.bool true) rfl rfl (run_mv rfl rfl) ?_
    simp only [nz1, nz2, nz3]
    refine lvw 32 (.slice (some ⟨g17, 0, none⟩) 256 (256 + n)) rfl rfl (run_mv rfl rfl) ?_
    simp only [nz1, nz2, nz3]
    refine lvw 33 (.int .i64 256) rfl rfl (Sx.r_lenS rfl Try.underlying37 rfl) ?_
    simp only [nz1, nz2, nz3]
    refine lvw 34 (.bool true) rfl rfl (n_eqt 256 256 rfl rfl rfl rfl) ?_
    simp only [nz1, nz2, nz3]
    refine lv 35 (.bool true) rfl rfl (run_pick rfl rfl rfl) ?_
    simp only [nz1, nz2, nz3]
    refine wpList_nil ?_
    refine then_n (hK24 _ _ ?_)
    refine cond_t rfl ?_
    refine wp_skip ?_
    refine then_n (hK23 _ _ ?_)
    refine wp_seq_k (fun K26 hK26 => ?_)
    refine wp_block ?_
    have hm27 := hm21.drew
    refine wp_region_held_drew (S := fun w' => Rd w' vl l.length 2 (l.flatMap fv)) (by kernel_rfl) (hl.below hm27.below) (fun _ => ?_)
    generalize w20.drew = w28 at *
    refine tk 0 38 (.slice (some ⟨g17, 0, none⟩) 256 (256 + n)) rfl rfl (fun _ hw => run_mv rfl rfl) (hl.below hm27.below) ?_
    simp only [nz1, nz2, nz3]
    refine tk 1 39 (vl) rfl rfl (fun _ hw => run_mv rfl rfl) (hl.below hm27.below) ?_
    simp only [nz1, nz2, nz3]
    refine tk 2 40 (.int .i64 ((i : Nat) : Int)) rfl rfl (fun _ hw => run_mv rfl rfl) (hl.below hm27.below) ?_
    simp only [nz1, nz2, nz3]
    obtain ⟨ge29, oe30, ce31, rfl⟩ := Rd.openz (hl.below hm27.below) (by omega)
    refine tk 3 41 (.pointer (some ⟨ge29, (oe30 + i * 2), none⟩)) rfl rfl (fun _ hw => r_ixS ge29 oe30 i l.length ce31 2 (by omega) Try.underlying55 (by exact sz_f) rfl rfl rfl) (hl.below hm27.below) ?_
    simp only [nz1, nz2, nz3]
    refine tk 4 42 (.pointer (some ⟨ge29, (oe30 + i * 2) + 0, none⟩)) rfl rfl (fun _ hw => r_fa57_0 ge29 (oe30 + i * 2) rfl rfl) (hl.below hm27.below) ?_
    simp only [nz1, nz2, nz3]
    refine tk 5 43 (.int .i64 ((l.getD i fd).1)) rfl rfl (fun _ hw => r_cellw (cell_el (Rd.cells hw) (fv_0 l i (by omega))) Try.underlying3 rfl rfl rfl) (hl.below hm27.below) ?_
    simp only [nz1, nz2, nz3]
    refine tk 6 44 (.int .u64 ((((l.getD i fd).1 % 18446744073709551616).toNat : Nat) : Int)) rfl rfl (fun _ hw => z_conv (k' := .u64) ((l.getD i fd).1) ((((l.getD i fd).1 % 18446744073709551616).toNat : Nat) : Int) some_i64 Try.underlying58 (by rw [IntKind.wrap_u64]; omega) rfl rfl) (hl.below hm27.below) ?_
    simp only [nz1, nz2, nz3]
    refine tk 7 45 (.int .u64 ((((((l.getD i fd).1 % 18446744073709551616).toNat) % 256) : Nat) : Int)) rfl rfl (fun _ hw => r_rem (((l.getD i fd).1 % 18446744073709551616).toNat) 256 (show (((l.getD i fd).1 % 18446744073709551616).toNat) < 18446744073709551616 from by omega) (by decide) rfl rfl rfl) (hl.below hm27.below) ?_
    simp only [nz1, nz2, nz3]
    refine tk 8 46 (.int .i64 ((((((l.getD i fd).1 % 18446744073709551616).toNat) % 256) : Nat) : Int)) rfl rfl (fun _ hw => r_conv (k' := .i64) ((((l.getD i fd).1 % 18446744073709551616).toNat) % 256) ((((l.getD i fd).1 % 18446744073709551616).toNat) % 256) some_u64 Try.underlying3 (wrap_nat (show ((((l.getD i fd).1 % 18446744073709551616).toNat) % 256) < 9223372036854775808 from by omega)) rfl rfl) (hl.below hm27.below) ?_
    simp only [nz1, nz2, nz3]
    refine tk 9 47 (.slice (some ⟨ge29, oe30, none⟩) l.length ce31) rfl rfl (fun _ hw => run_mv rfl rfl) (hl.below hm27.below) ?_
    simp only [nz1, nz2, nz3]
    refine tk 10 48 (.int .i64 ((i : Nat) : Int)) rfl rfl (fun _ hw => run_mv rfl rfl) (hl.below hm27.below) ?_
    simp only [nz1, nz2, nz3]
    refine tk 11 49 (.pointer (some ⟨ge29, (oe30 + i * 2), none⟩)) rfl rfl (fun _ hw => r_ixS ge29 oe30 i l.length ce31 2 (by omega) Try.underlying55 (by exact sz_f) rfl rfl rfl) (hl.below hm27.below) ?_
    simp only [nz1, nz2, nz3]
    refine tk 12 50 (.pointer (some ⟨ge29, (oe30 + i * 2) + 1, none⟩)) rfl rfl (fun _ hw => r_fa57_1 ge29 (oe30 + i * 2) rfl rfl) (hl.below hm27.below) ?_
    simp only [nz1, nz2, nz3]
    refine tk 13 51 (.int .u8 (((l.getD i fd).2.toNat : Nat) : Int)) rfl rfl (fun _ hw => r_cellw (cell_el (Rd.cells hw) (fv_1 l i (by omega))) Try.underlying5 rfl rfl rfl) (hl.below hm27.below) ?_
    simp only [nz1, nz2, nz3]
    refine tk 14 52 (.pointer (some ⟨g17, (0 + (((l.getD i fd).1 % 18446744073709551616).toNat % 256) * 1), none⟩)) rfl rfl (fun _ hw => r_ixS g17 0 (((l.getD i fd).1 % 18446744073709551616).toNat % 256) 256 (256 + n) 1 (by omega) Try.underlying37 sz_u8 rfl rfl rfl) (hl.below hm27.below) ?_
    simp only [nz1, nz2, nz3]
    refine one_ready 15 (by kernel_rfl) ?_
    refine opd rfl (wanted_none rfl) (m_store 1 5 _ _ (0 + (((l.getD i fd).1 % 18446744073709551616).toNat % 256) * 1) (.int .u8 (((l.getD i fd).2.toNat : Nat) : Int)) (old := bb q n) (new := bb (q.set (((l.getD i fd).1 % 18446744073709551616).toNat % 256) (l.getD i fd).2) n) hm27 rfl rfl rfl rfl rfl (by exact sz_u8) (by rw [bb_size, hq]; show 0 + (((l.getD i fd).1 % 18446744073709551616).toNat % 256) * 1 + 1 ≤ _; omega) (one_all rfl) (by rw [show 0 + (((l.getD i fd).1 % 18446744073709551616).toNat % 256) * 1 = (((l.getD i fd).1 % 18446744073709551616).toNat % 256) by omega]; exact bb_set q n _ _ (by rw [hq]; omega)) (fun w32 (hm33 : Mm none w w32 [.blk g4 #[.int .i64 (x.kind), .int .i64 (x.mode), .int .i64 (x.uid), .int .i64 (x.gid), .int .i64 (x.time), .int .i64 (x.links), .int .i64 (x.size), v] 48, .blk g17 (bb (q.set (((l.getD i fd).1 % 18446744073709551616).toNat % 256) (l.getD i fd).2) n) 5]) => ?_))
    refine ⟨hl.below hm33.below, ?_⟩
    refine wpAnyH_done (by kernel_rfl) ?_ _
    refine blk_n ?_
    refine then_n (hK26 _ _ ?_)
    refine wp_region_lit ?_
    refine lv 36 (.int .i64 ((i : Nat) : Int)) rfl rfl (run_mv rfl rfl) ?_
    simp only [nz1, nz2, nz3]
    refine lv 37 (.int .i64 (((i + 1) : Nat) : Int)) rfl rfl (r_add i 1 (by unfold maxLen at hlen; show _ < 9223372036854775808; omega) rfl rfl rfl) ?_
    simp only [nz1, nz2, nz3]
    refine lv 8 (.int .i64 (((i + 1) : Nat) : Int)) rfl rfl (run_as rfl rfl) ?_
    simp only [nz1, nz2, nz3]
    refine wpList_nil ?_
    refine then_n (hR22 _ _ _ ⟨(i + 1), (q.set (((l.getD i fd).1 % 18446744073709551616).toNat % 256) (l.getD i fd).2), (fun qq => bif Nat.blt qq 24 then List.getD [.int .i64 ((i : Nat) : Int), .slice (some ⟨ge29, oe30, none⟩) l.length ce31, .int .i64 ((l.length : Nat) : Int), .bool true, .bool true, .slice (some ⟨g17, 0, none⟩) 256 (256 + n), .int .i64 256, .bool true, .bool true, .int .i64 ((i : Nat) : Int), .int .i64 (((i + 1) : Nat) : Int), .slice (some ⟨g17, 0, none⟩) 256 (256 + n), .slice (some ⟨ge29, oe30, none⟩) l.length ce31, .int .i64 ((i : Nat) : Int), .pointer (some ⟨ge29, (oe30 + i * 2), none⟩), .pointer (some ⟨ge29, (oe30 + i * 2) + 0, none⟩), .int .i64 ((l.getD i fd).1), .int .u64 ((((l.getD i fd).1 % 18446744073709551616).toNat : Nat) : Int), .int .u64 ((((((l.getD i fd).1 % 18446744073709551616).toNat) % 256) : Nat) : Int), .int .i64 ((((((l.getD i fd).1 % 18446744073709551616).toNat) % 256) : Nat) : Int), .slice (some ⟨ge29, oe30, none⟩) l.length ce31, .int .i64 ((i : Nat) : Int), .pointer (some ⟨ge29, (oe30 + i * 2), none⟩), .pointer (some ⟨ge29, (oe30 + i * 2) + 1, none⟩)] qq undef else List.getD [.int .u8 (((l.getD i fd).2.toNat : Nat) : Int), .pointer (some ⟨g17, (0 + (((l.getD i fd).1 % 18446744073709551616).toNat % 256) * 1), none⟩)] (qq - 24) undef), rfl, (by omega), (by rw [List.length_set]; exact hq), rfl, hm33⟩ ?_)
    omega
  simp only [nz1, nz2, nz3]
  refine lv 31 (.bool false) rfl rfl (run_mv rfl rfl) ?_
  simp only [nz1, nz2, nz3]
  refine lst_skip 32 rfl rfl ?_
  simp only [nz1, nz2, nz3]
  refine lst_skip 33 rfl rfl ?_
  simp only [nz1, nz2, nz3]
  refine lst_skip 34 rfl rfl ?_
  simp only [nz1, nz2, nz3]
  refine lv 35 (.bool false) rfl rfl (run_pickf rfl rfl rfl) ?_
  simp only [nz1, nz2, nz3]
  refine wpList_nil ?_
  refine then_n (hK24 _ _ ?_)
  refine cond_f rfl ?_
  refine wp_exit ?_
  refine then_x ?_
  refine then_x ?_
  refine blk_x ?_
  refine then_n (hK18 _ _ ?_)
  refine wp_seq_k (fun K34 hK34 => ?_)
  refine wp_region_lit ?_
  refine lv 54 (.slice (some ⟨g17, 0, none⟩) 256 (256 + n)) rfl rfl (run_mv rfl rfl) ?_
  simp only [nz1, nz2, nz3]
  refine lv 55 (.string (tx q)) rfl rfl (r_stringR q (by have h := Rd_bb (c := 256 + n) (hm21.at 1 rfl); rw [hq] at h; exact h) Try.underlying37 Try.underlying5 Try.underlying9 rfl rfl) ?_
  simp only [nz1, nz2, nz3]
  refine lst (wanted_none rfl) (m_callx hm21 56 rfl (run_Read rfl rfl) (calls_row (F := fun v => .tuple #[.agg #[.int .i64 (readN q).kind, .int .i64 (readN q).mode, .int .i64 (readN q).uid, .int .i64 (readN q).gid, .int .i64 (readN q).time, .int .i64 (readN q).links, .int .i64 (readN q).size, v], .int .i64 (errRd q)]) (read_any q _)) (fun vv40 w35 hR38 hb39 hm36 => ?_))
  obtain ⟨q37, rfl, hq41⟩ := hR38
  have hm42 : Mm none w w35 [.blk g4 #[.int .i64 (x.kind), .int .i64 (x.mode), .int .i64 (x.uid), .int .i64 (x.gid), .int .i64 (x.time), .int .i64 (x.links), .int .i64 (x.size), v] 48, .blk g17 (bb q n) 5, .row q37 ((readN q).blocks.length) ((readN q).blocks.map iv) 3 1] := hm21.gained hb39 hq41
  clear hm36
  simp only [nz1, nz2, nz3]
  refine lv 53 (.tuple #[.agg #[.int .i64 ((readN q).kind), .int .i64 ((readN q).mode), .int .i64 ((readN q).uid), .int .i64 ((readN q).gid), .int .i64 ((readN q).time), .int .i64 ((readN q).links), .int .i64 ((readN q).size), q37], .int .i64 (errRd q)]) rfl rfl (run_mv rfl rfl) ?_
  simp only [nz1, nz2, nz3]
  refine lv 57 (.agg #[.int .i64 ((readN q).kind), .int .i64 ((readN q).mode), .int .i64 ((readN q).uid), .int .i64 ((readN q).gid), .int .i64 ((readN q).time), .int .i64 ((readN q).links), .int .i64 ((readN q).size), q37]) rfl rfl (run_ex rfl rfl rfl) ?_
  simp only [nz1, nz2, nz3]
  refine lv 58 (.int .i64 (errRd q)) rfl rfl (run_ex rfl rfl rfl) ?_
  simp only [nz1, nz2, nz3]
  refine lst (wanted_none rfl) (m_alloc (c := #[.int .i64 0, .int .i64 0, .int .i64 0, .int .i64 0, .int .i64 0, .int .i64 0, .int .i64 0, .slice none 0 0]) (T := 48) hm42 9 rfl (by unfold execOp; go_simp; try rfl) (fun g45 w43 (hm44 : Mm none w w43 [.blk g4 #[.int .i64 (x.kind), .int .i64 (x.mode), .int .i64 (x.uid), .int .i64 (x.gid), .int .i64 (x.time), .int .i64 (x.links), .int .i64 (x.size), v] 48, .blk g17 (bb q n) 5, .row q37 ((readN q).blocks.length) ((readN q).blocks.map iv) 3 1, .blk g45 #[.int .i64 0, .int .i64 0, .int .i64 0, .int .i64 0, .int .i64 0, .int .i64 0, .int .i64 0, .slice none 0 0] 48]) => ?_))
  simp only [nz1, nz2, nz3]
  have ho48 := own_one (hm44.row 2 rfl)
  refine lst (wanted_none rfl) (m_store 3 48 _ _ 0 (.agg #[.int .i64 ((readN q).kind), .int .i64 ((readN q).mode), .int .i64 ((readN q).uid), .int .i64 ((readN q).gid), .int .i64 ((readN q).time), .int .i64 ((readN q).links), .int .i64 ((readN q).size), q37]) (old := #[.int .i64 0, .int .i64 0, .int .i64 0, .int .i64 0, .int .i64 0, .int .i64 0, .int .i64 0, .slice none 0 0]) (new := #[.int .i64 ((readN q).kind), .int .i64 ((readN q).mode), .int .i64 ((readN q).uid), .int .i64 ((readN q).gid), .int .i64 ((readN q).time), .int .i64 ((readN q).links), .int .i64 ((readN q).size), q37]) hm44 rfl rfl rfl rfl rfl (by exact sz_node) (show 8 ≤ 8 from Nat.le_refl _) (by rw [Array.all_eq_true_iff_forall_mem]; intro x hx; simp only [Value.cells, List.mem_toArray, List.mem_cons, List.not_mem_nil, or_false] at hx; rcases hx with rfl | rfl | rfl | rfl | rfl | rfl | rfl | rfl <;> first | rfl | assumption) rfl (fun w46 (hm47 : Mm none w w46 [.blk g4 #[.int .i64 (x.kind), .int .i64 (x.mode), .int .i64 (x.uid), .int .i64 (x.gid), .int .i64 (x.time), .int .i64 (x.links), .int .i64 (x.size), v] 48, .blk g17 (bb q n) 5, .row q37 ((readN q).blocks.length) ((readN q).blocks.map iv) 3 1, .blk g45 #[.int .i64 ((readN q).kind), .int .i64 ((readN q).mode), .int .i64 ((readN q).uid), .int .i64 ((readN q).gid), .int .i64 ((readN q).time), .int .i64 ((readN q).links), .int .i64 ((readN q).size), q37] 48]) => ?_))
  refine lv 10 (.int .i64 (errRd q)) rfl rfl (run_as rfl rfl) ?_
  simp only [nz1, nz2, nz3]
  refine wpList_nil ?_
  refine then_n (hK34 _ _ ?_)
  refine wp_seq_k (fun K49 hK49 => ?_)
  refine wp_region_lit ?_
  refine lv 60 (.slice (some ⟨g17, 0, none⟩) 256 (256 + n)) rfl rfl (run_mv rfl rfl) ?_
  simp only [nz1, nz2, nz3]
  refine lv 61 (.string (tx q)) rfl rfl (r_stringR q (by have h := Rd_bb (c := 256 + n) (hm47.at 1 rfl); rw [hq] at h; exact h) Try.underlying37 Try.underlying5 Try.underlying9 rfl rfl) ?_
  simp only [nz1, nz2, nz3]
  refine lst (wanted_none rfl) (m_callx hm47 62 rfl (run_rRead rfl rfl) (calls_row (F := fun v => .tuple #[.agg #[.int .i64 (readN q).kind, .int .i64 (readN q).mode, .int .i64 (readN q).uid, .int .i64 (readN q).gid, .int .i64 (readN q).time, .int .i64 (readN q).links, .int .i64 (readN q).size, v], .int .i64 (errRd q)]) (rread_any q _)) (fun vv55 w50 hR53 hb54 hm51 => ?_))
  obtain ⟨q52, rfl, hq56⟩ := hR53
  have hm57 : Mm none w w50 [.blk g4 #[.int .i64 (x.kind), .int .i64 (x.mode), .int .i64 (x.uid), .int .i64 (x.gid), .int .i64 (x.time), .int .i64 (x.links), .int .i64 (x.size), v] 48, .blk g17 (bb q n) 5, .row q37 ((readN q).blocks.length) ((readN q).blocks.map iv) 3 1, .blk g45 #[.int .i64 ((readN q).kind), .int .i64 ((readN q).mode), .int .i64 ((readN q).uid), .int .i64 ((readN q).gid), .int .i64 ((readN q).time), .int .i64 ((readN q).links), .int .i64 ((readN q).size), q37] 48, .row q52 ((readN q).blocks.length) ((readN q).blocks.map iv) 3 1] := hm47.gained hb54 hq56
  clear hm51
  simp only [nz1, nz2, nz3]
  refine lv 59 (.tuple #[.agg #[.int .i64 ((readN q).kind), .int .i64 ((readN q).mode), .int .i64 ((readN q).uid), .int .i64 ((readN q).gid), .int .i64 ((readN q).time), .int .i64 ((readN q).links), .int .i64 ((readN q).size), q52], .int .i64 (errRd q)]) rfl rfl (run_mv rfl rfl) ?_
  simp only [nz1, nz2, nz3]
  refine lv 63 (.agg #[.int .i64 ((readN q).kind), .int .i64 ((readN q).mode), .int .i64 ((readN q).uid), .int .i64 ((readN q).gid), .int .i64 ((readN q).time), .int .i64 ((readN q).links), .int .i64 ((readN q).size), q52]) rfl rfl (run_ex rfl rfl rfl) ?_
  simp only [nz1, nz2, nz3]
  refine lv 64 (.int .i64 (errRd q)) rfl rfl (run_ex rfl rfl rfl) ?_
  simp only [nz1, nz2, nz3]
  refine lst (wanted_none rfl) (m_alloc (c := #[.int .i64 0, .int .i64 0, .int .i64 0, .int .i64 0, .int .i64 0, .int .i64 0, .int .i64 0, .slice none 0 0]) (T := 48) hm57 11 rfl (by unfold execOp; go_simp; try rfl) (fun g60 w58 (hm59 : Mm none w w58 [.blk g4 #[.int .i64 (x.kind), .int .i64 (x.mode), .int .i64 (x.uid), .int .i64 (x.gid), .int .i64 (x.time), .int .i64 (x.links), .int .i64 (x.size), v] 48, .blk g17 (bb q n) 5, .row q37 ((readN q).blocks.length) ((readN q).blocks.map iv) 3 1, .blk g45 #[.int .i64 ((readN q).kind), .int .i64 ((readN q).mode), .int .i64 ((readN q).uid), .int .i64 ((readN q).gid), .int .i64 ((readN q).time), .int .i64 ((readN q).links), .int .i64 ((readN q).size), q37] 48, .row q52 ((readN q).blocks.length) ((readN q).blocks.map iv) 3 1, .blk g60 #[.int .i64 0, .int .i64 0, .int .i64 0, .int .i64 0, .int .i64 0, .int .i64 0, .int .i64 0, .slice none 0 0] 48]) => ?_))
  simp only [nz1, nz2, nz3]
  have ho63 := own_one (hm59.row 4 rfl)
  refine lst (wanted_none rfl) (m_store 5 48 _ _ 0 (.agg #[.int .i64 ((readN q).kind), .int .i64 ((readN q).mode), .int .i64 ((readN q).uid), .int .i64 ((readN q).gid), .int .i64 ((readN q).time), .int .i64 ((readN q).links), .int .i64 ((readN q).size), q52]) (old := #[.int .i64 0, .int .i64 0, .int .i64 0, .int .i64 0, .int .i64 0, .int .i64 0, .int .i64 0, .slice none 0 0]) (new := #[.int .i64 ((readN q).kind), .int .i64 ((readN q).mode), .int .i64 ((readN q).uid), .int .i64 ((readN q).gid), .int .i64 ((readN q).time), .int .i64 ((readN q).links), .int .i64 ((readN q).size), q52]) hm59 rfl rfl rfl rfl rfl (by exact sz_node) (show 8 ≤ 8 from Nat.le_refl _) (by rw [Array.all_eq_true_iff_forall_mem]; intro x hx; simp only [Value.cells, List.mem_toArray, List.mem_cons, List.not_mem_nil, or_false] at hx; rcases hx with rfl | rfl | rfl | rfl | rfl | rfl | rfl | rfl <;> first | rfl | assumption) rfl (fun w61 (hm62 : Mm none w w61 [.blk g4 #[.int .i64 (x.kind), .int .i64 (x.mode), .int .i64 (x.uid), .int .i64 (x.gid), .int .i64 (x.time), .int .i64 (x.links), .int .i64 (x.size), v] 48, .blk g17 (bb q n) 5, .row q37 ((readN q).blocks.length) ((readN q).blocks.map iv) 3 1, .blk g45 #[.int .i64 ((readN q).kind), .int .i64 ((readN q).mode), .int .i64 ((readN q).uid), .int .i64 ((readN q).gid), .int .i64 ((readN q).time), .int .i64 ((readN q).links), .int .i64 ((readN q).size), q37] 48, .row q52 ((readN q).blocks.length) ((readN q).blocks.map iv) 3 1, .blk g60 #[.int .i64 ((readN q).kind), .int .i64 ((readN q).mode), .int .i64 ((readN q).uid), .int .i64 ((readN q).gid), .int .i64 ((readN q).time), .int .i64 ((readN q).links), .int .i64 ((readN q).size), q52] 48]) => ?_))
  refine lv 12 (.int .i64 (errRd q)) rfl rfl (run_as rfl rfl) ?_
  simp only [nz1, nz2, nz3]
  refine wpList_nil ?_
  refine then_n (hK49 _ _ ?_)
  refine wp_seq_k (fun K64 hK64 => ?_)
  refine wp_region_lit ?_
  refine lst (wanted_none rfl) (m_call hm62 65 (.bool true) rfl (run_awake rfl) (awake_any _) (fun w65 (hm66 : Mm none w w65 [.blk g4 #[.int .i64 (x.kind), .int .i64 (x.mode), .int .i64 (x.uid), .int .i64 (x.gid), .int .i64 (x.time), .int .i64 (x.links), .int .i64 (x.size), v] 48, .blk g17 (bb q n) 5, .row q37 ((readN q).blocks.length) ((readN q).blocks.map iv) 3 1, .blk g45 #[.int .i64 ((readN q).kind), .int .i64 ((readN q).mode), .int .i64 ((readN q).uid), .int .i64 ((readN q).gid), .int .i64 ((readN q).time), .int .i64 ((readN q).links), .int .i64 ((readN q).size), q37] 48, .row q52 ((readN q).blocks.length) ((readN q).blocks.map iv) 3 1, .blk g60 #[.int .i64 ((readN q).kind), .int .i64 ((readN q).mode), .int .i64 ((readN q).uid), .int .i64 ((readN q).gid), .int .i64 ((readN q).time), .int .i64 ((readN q).links), .int .i64 ((readN q).size), q52] 48]) => ?_))
  simp only [nz1, nz2, nz3]
  refine lv 66 (.bool true) rfl rfl (run_mv rfl rfl) ?_
  simp only [nz1, nz2, nz3]
  refine lvw 67 (.agg #[.int .i64 ((readN q).kind), .int .i64 ((readN q).mode), .int .i64 ((readN q).uid), .int .i64 ((readN q).gid), .int .i64 ((readN q).time), .int .i64 ((readN q).links), .int .i64 ((readN q).size), q37]) rfl rfl (r_whole (hm66.at 3 rfl) Try.underlying48 rfl (by exact sz_node) rfl rfl) ?_
  simp only [nz1, nz2, nz3]
  refine lvw 68 (.agg #[.int .i64 ((readN q).kind), .int .i64 ((readN q).mode), .int .i64 ((readN q).uid), .int .i64 ((readN q).gid), .int .i64 ((readN q).time), .int .i64 ((readN q).links), .int .i64 ((readN q).size), q52]) rfl rfl (r_whole (hm66.at 5 rfl) Try.underlying48 rfl (by exact sz_node) rfl rfl) ?_
  simp only [nz1, nz2, nz3]
  refine lst rfl (m_call hm66 69 (.bool true) rfl (run_rSame rfl rfl rfl) (rsame_self (readN q) q37 q52 _ (Rd.of_row (hm66.row 2 rfl)) (Rd.of_row (hm66.row 4 rfl)) (by have := read_few q; omega)) (fun w67 (hm68 : Mm none w w67 [.blk g4 #[.int .i64 (x.kind), .int .i64 (x.mode), .int .i64 (x.uid), .int .i64 (x.gid), .int .i64 (x.time), .int .i64 (x.links), .int .i64 (x.size), v] 48, .blk g17 (bb q n) 5, .row q37 ((readN q).blocks.length) ((readN q).blocks.map iv) 3 1, .blk g45 #[.int .i64 ((readN q).kind), .int .i64 ((readN q).mode), .int .i64 ((readN q).uid), .int .i64 ((readN q).gid), .int .i64 ((readN q).time), .int .i64 ((readN q).links), .int .i64 ((readN q).size), q37] 48, .row q52 ((readN q).blocks.length) ((readN q).blocks.map iv) 3 1, .blk g60 #[.int .i64 ((readN q).kind), .int .i64 ((readN q).mode), .int .i64 ((readN q).uid), .int .i64 ((readN q).gid), .int .i64 ((readN q).time), .int .i64 ((readN q).links), .int .i64 ((readN q).size), q52] 48]) => ?_))
  simp only [nz1, nz2, nz3]
  refine lv 70 (.bool true) rfl rfl (run_pick rfl rfl rfl) ?_
  simp only [nz1, nz2, nz3]
  refine lv 71 (.bool true) rfl rfl (run_mv rfl rfl) ?_
  simp only [nz1, nz2, nz3]
  refine lvw 72 (.int .i64 (errRd q)) rfl rfl (run_mv rfl rfl) ?_
  simp only [nz1, nz2, nz3]
  refine lvw 73 (.int .i64 (errRd q)) rfl rfl (run_mv rfl rfl) ?_
  simp only [nz1, nz2, nz3]
  refine lvw 74 (.bool true) rfl rfl (z_eqlt (errRd q) (errRd q) rfl rfl rfl rfl) ?_
  simp only [nz1, nz2, nz3]
  refine lv 75 (.bool true) rfl rfl (run_pick rfl rfl rfl) ?_
  simp only [nz1, nz2, nz3]
  refine lv 4 (.bool true) rfl rfl (run_as rfl rfl) ?_
  simp only [nz1, nz2, nz3]
  refine wpList_nil ?_
  refine then_n (hK64 _ _ ?_)
  refine wp_ret ?_
  exact ⟨rfl, .bool true, res_t rfl rfl, ⟨rfl, hm68.below⟩⟩
set_option maxRecDepth 100000 in
theorem lifted (os : Os) (started : os.Started) (H : Type) (enc : TypeId × Value → H) :
    ReturnsInHanded {} Try.checked os 10 .any (Rows.inodeSpoiltSpec.pre6 enc Try.prog Try.f10 Rows.inodeSpoiltRow.domain false) (Rows.inodeSpoiltSpec.post enc Try.prog Try.f10 false true false false) := by
  refine returnsInHanded_of_change (C := Try.checked) own started (by kernel_rfl) Try.func10
    (ChangeSpec.witness6 (enc := enc) (C := Try.checked) false ⟨#[], #[.agg #[.int .i64 0, .int .i64 0, .int .i64 0, .int .i64 0, .int .i64 0, .int .i64 0, .int .i64 0, .slice none 0 0], .slice none 0 0], []⟩ 8 (by kernel_rfl) (by kernel_rfl) (by kernel_rfl) (by kernel_rfl)) ?_
  intro W base args ds gs before hval0 hW hcnd _
  have hval : ∀ (j : Nat) t v, Try.f10.params[j]? = some t → args[j]? = some v → Value.okWide Try.prog W .any base t v := hval0
  have hW' := hW
  obtain ⟨p, q, hA0, hV, rfl, hfz, hnd⟩ := hW
  have hA : DataW.TrodAll enc Try.prog W 0 (fun _ => true) true Try.f10.params.toList args.toList ds p := hA0
  rw [Try.params10] at hA hval
  obtain ⟨v0, vs0, d0, ds0, p0, q0, hargs, rfl, rfl, h0, r0⟩ := trodAll_cons hA
  obtain ⟨v1, vs1, d1, ds1, p1, q1, rfl, rfl, rfl, h1, r1⟩ := trodAll_cons r0
  obtain ⟨rfl, rfl, rfl⟩ := trodAll_nil r1
  obtain rfl : args = #[v0, v1] := by cases args; simp_all
  obtain ⟨rfl, rfl⟩ := trodVars_none hV
  have h0k := h0
  have h1k := h1
  have hlt0 : ∀ y ∈ p0, y.block < W.heap.size := fun y hy => hW'.lt y (by simp [hy])
  have hlt1 : ∀ y ∈ p1, y.block < W.heap.size := fun y hy => hW'.lt y (by simp [hy])
  obtain ⟨x0, s0, rfl, rd0, _, _⟩ := open_node (hval 0 48 v0 rfl rfl) h0
  obtain ⟨a1, len1, cap1, rfl⟩ := okWide_slice Try.underlying55 (hval 1 55 v1 rfl rfl)
  obtain ⟨f1, hf1⟩ := h1
  obtain ⟨l1, rd1, hm1⟩ := open_flds hf1
  clear hA0 hval0
  simp only [List.append_nil] at hW'
  refine (walk x0 s0 l1 _ W rd0 rd1 hm1).mono fun e W' ⟨he, hg⟩ => ?_
  subst he
  exact ⟨_, rfl, _, _, _, [], _, [], hW', (trodAll_cons_mk (shut_bool Try.underlying4 _) trodAll_mk0), (trodAll_cons_mk (Below.trod laidOut (by kernel_rfl) (of_decide_eq_true (by kernel_rfl)) h0k hg hlt0) (trodAll_cons_mk (Below.trod laidOut (by kernel_rfl) (of_decide_eq_true (by kernel_rfl)) h1k hg hlt1) trodAll_mk0)), rfl, hg.frame _, fun h => by cases h⟩

theorem over : Rows.inodeSpoiltRow.holds Try.pinned (OpenSpec.ofChange Rows.inodeSpoiltSpec) :=
  OpenClaim.holds_of_wide 10 Try.f10 rfl rfl rfl rfl rfl rfl rfl ⟨rfl, rfl, rfl, rfl, rfl⟩ rfl rfl rfl rfl rfl (by kernel_rfl) Try.func10 (by kernel_rfl)
    (of_decide_eq_true (by kernel_rfl)) (by unfold Func.isWrapper; first | (rw [if_pos (by decide +kernel)]; kernel_rfl) | (rw [if_neg (by decide +kernel)]; exact ⟨rfl, rfl⟩))
    (fun os started H enc _ => lifted os started H enc)

/-- The statement. -/
theorem proved : Rows.InodeSpoiltSaid :=
  over
#print axioms proved
end Go.Proofs.Ytmammofbgllceaa.inodeSpoilt
