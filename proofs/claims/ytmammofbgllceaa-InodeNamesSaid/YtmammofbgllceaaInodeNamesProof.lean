/- Any directory's bytes, 20000 at most: the names are the document's, they rise, and have those bytes: InodeNames returns true, for every text. No condition. -/
import Derived.Test.YtmammofbgllceaaRows
import Derived.Test.YtmammofbgllceaaNodH
import Derived.Test.YtmammofbgllceaaNodN
import Derived.Test.YtmammofbgllceaaNodD
import Derived.Test.YtmammofbgllceaaNodE
import Derived.WalkKit
import Derived.ProofKit
import Derived.OpenShut
import Derived.ChangeMaps5
namespace Go.Proofs.Ytmammofbgllceaa.inodeNames
open Go.ChangeShapes Go.WideShapes Go.ChangeAt Go.RowKit Go.ChangeMaps
open Go.Proofs.Ytmammofbgllceaa Go.Proofs.Ytmammofbgllceaa.Nod
open Go.Proofs.Ytmammofbgllceaa.Sym Go.Proofs.Ytmammofbgllceaa.Mem
open Go.Proofs.Ytmammofbgllceaa.Sx hiding Mm m_alloc m_store m_put m_call m_callx m_make m_append r_string r_ixS
set_option linter.unusedVariables false

theorem own : ownKnob Try.prog.godebug = none := by kernel_rfl
theorem t_geqf {P : Program} {o : Oper} {a : Act} {w : World} {x y : Operand} {T T' : TypeId} (s t : List UInt8) (h : lt' s t = true) (ho : o.op = .binOp .geq T x y T') (hx : a.eval x = .string (tx s)) (hy : a.eval y = .string (tx t)) : (execOp a.eval o).run P w = .ok (.value (.bool false)) w := by
  have := t_geq (P := P) (w := w) s t ho hx hy
  rw [h] at this
  exact this
theorem names_at (l : List UInt8) (hs : l.length ≤ 1000000) (acc : List (List UInt8 × Int)) (h : namesL l [] = some acc) (w : World) : Calls Try.prog 35 #[.string (tx l)] w (fun e w' => (∃ v, e = .returned (.tuple #[v, .bool true]) ∧ w'.ownsRow w.heap.size 65 2 v acc.length (acc.flatMap pv)) ∧ Below w.heap.size w w') := by
  have h1 := names_any l hs w
  rw [h] at h1
  exact h1
theorem rnames_at (l : List UInt8) (hs : l.length ≤ 1000000) (acc : List (List UInt8 × Int)) (h : namesL l [] = some acc) (w : World) : Calls Try.prog 36 #[.string (tx l)] w (fun e w' => (∃ v, e = .returned (.tuple #[v, .bool true]) ∧ w'.ownsRow w.heap.size 65 2 v acc.length (acc.flatMap pv)) ∧ Below w.heap.size w w') := by
  have h1 := rnames_any l hs w
  rw [h] at h1
  exact h1
theorem names_no (l : List UInt8) (hs : l.length ≤ 1000000) (h : namesL l [] = none) (w : World) : Calls Try.prog 35 #[.string (tx l)] w (fun e w' => (∃ v, e = .returned (.tuple #[v, .bool false]) ∧ w'.ownsRow w.heap.size 65 2 v 0 []) ∧ Below w.heap.size w w') := by
  have h1 := names_any l hs w
  rw [h] at h1
  exact h1
theorem rnames_no (l : List UInt8) (hs : l.length ≤ 1000000) (h : namesL l [] = none) (w : World) : Calls Try.prog 36 #[.string (tx l)] w (fun e w' => (∃ v, e = .returned (.tuple #[v, .bool false]) ∧ w'.ownsRow w.heap.size 65 2 v 0 []) ∧ Below w.heap.size w w') := by
  have h1 := rnames_any l hs w
  rw [h] at h1
  exact h1
theorem same_self (la : List (List UInt8 × Int)) (va vb : Value) (w : World) (ha : Rd w va la.length 2 (la.flatMap pv)) (hb : Rd w vb la.length 2 (la.flatMap pv)) (hsz : la.length ≤ 1000000) : Calls Try.prog 37 #[va, vb] w (fun e w' => e = .returned (.bool true) ∧ Below w.heap.size w w') := by
  have h1 := same_any la la va vb w ha hb hsz
  rw [decide_eq_true rfl] at h1
  exact h1
theorem t_eqt {P : Program} {o : Oper} {a : Act} {w : World} {x y : Operand} {T T' : TypeId} (s t : List UInt8) (h : s = t) (ho : o.op = .binOp .eql T x y T') (hx : a.eval x = .string (tx s)) (hy : a.eval y = .string (tx t)) : (execOp a.eval o).run P w = .ok (.value (.bool true)) w := by
  have := t_eql (P := P) (w := w) s t ho hx hy
  rw [decide_eq_true h] at this
  exact this
set_option maxHeartbeats 4000000 in
set_option maxRecDepth 100000 in
theorem walk_long (l : List UInt8) (hs : 20000 < l.length) (w : World) : Calls Try.prog 11 #[.string (tx l)] w (fun e w' => e = .returned (.bool true) ∧ Below w.heap.size w w') := by
  go_enter Try.func11, Try.ntmps11
  have hm0 := Mm.nil none w
  refine wp_seq_k (fun K1 hK1 => ?_)
  refine wp_region_lit ?_
  refine lv 2 (.bool false) rfl rfl (run_as rfl rfl) ?_
  simp only [nz1, nz2, nz3]
  refine wpList_nil ?_
  refine then_n (hK1 _ _ ?_)
  refine wp_seq_k (fun K2 hK2 => ?_)
  refine wp_seq_k (fun K3 hK3 => ?_)
  refine wp_region_lit ?_
  refine lv 8 (.string (tx l)) rfl rfl (run_mv rfl rfl) ?_
  simp only [nz1, nz2, nz3]
  refine lv 9 (.int .i64 ((l.length : Nat) : Int)) rfl rfl (t_len rfl Try.underlying9 rfl) ?_
  simp only [nz1, nz2, nz3]
  refine lv 10 (.bool (decide (20000 < l.length))) rfl rfl (r_gtr l.length 20000 rfl rfl rfl) ?_
  simp only [nz1, nz2, nz3]
  refine wpList_nil ?_
  refine then_n (hK3 _ _ ?_)
  refine cond_dt (20000 < l.length) rfl hs ?_
  refine wp_seq_k (fun K4 hK4 => ?_)
  refine wp_region_lit ?_
  refine lst (wanted_none rfl) (m_call hm0 11 (.bool true) rfl (run_awake rfl) (awake_any _) (fun w5 (hm6 : Mm none w w5 []) => ?_))
  simp only [nz1, nz2, nz3]
  refine lv 2 (.bool true) rfl rfl (run_as rfl rfl) ?_
  simp only [nz1, nz2, nz3]
  refine wpList_nil ?_
  refine then_n (hK4 _ _ ?_)
  refine wp_ret ?_
  refine then_r ?_
  exact ⟨rfl, .bool true, res_t rfl rfl, ⟨rfl, hm6.below⟩⟩
set_option maxHeartbeats 4000000 in
set_option maxRecDepth 100000 in
theorem walk_yes (l : List UInt8) (hs : ¬ 20000 < l.length) (acc : List (List UInt8 × Int)) (hn : namesL l [] = some acc) (hback : listN acc = l) (hup : ∀ k, k + 1 < acc.length → lt' (acc.getD k pd).1 (acc.getD (k + 1) pd).1 = true) (hlen : acc.length ≤ 4000) (w : World) : Calls Try.prog 11 #[.string (tx l)] w (fun e w' => e = .returned (.bool true) ∧ Below w.heap.size w w') := by
  go_enter Try.func11, Try.ntmps11
  have hm0 := Mm.nil none w
  refine wp_seq_k (fun K1 hK1 => ?_)
  refine wp_region_lit ?_
  refine lv 2 (.bool false) rfl rfl (run_as rfl rfl) ?_
  simp only [nz1, nz2, nz3]
  refine wpList_nil ?_
  refine then_n (hK1 _ _ ?_)
  refine wp_seq_k (fun K2 hK2 => ?_)
  refine wp_seq_k (fun K3 hK3 => ?_)
  refine wp_region_lit ?_
  refine lv 8 (.string (tx l)) rfl rfl (run_mv rfl rfl) ?_
  simp only [nz1, nz2, nz3]
  refine lv 9 (.int .i64 ((l.length : Nat) : Int)) rfl rfl (t_len rfl Try.underlying9 rfl) ?_
  simp only [nz1, nz2, nz3]
  refine lv 10 (.bool (decide (20000 < l.length))) rfl rfl (r_gtr l.length 20000 rfl rfl rfl) ?_
  simp only [nz1, nz2, nz3]
  refine wpList_nil ?_
  refine then_n (hK3 _ _ ?_)
  refine cond_df (20000 < l.length) rfl hs ?_
  refine wp_skip ?_
  refine then_n (hK2 _ _ ?_)
  refine wp_seq_k (fun K4 hK4 => ?_)
  refine wp_region_lit ?_
  refine lv 13 (.string (tx l)) rfl rfl (run_mv rfl rfl) ?_
  simp only [nz1, nz2, nz3]
  refine lst (wanted_none rfl) (m_callx hm0 14 rfl (run_Names rfl rfl) (calls_row (F := fun v => .tuple #[v, .bool true]) (names_at l (by omega) acc hn _)) (fun vv10 w5 hR8 hb9 hm6 => ?_))
  obtain ⟨q7, rfl, hq11⟩ := hR8
  have hm12 : Mm none w w5 [.row q7 acc.length (acc.flatMap pv) 65 2] := hm0.gained hb9 hq11
  clear hm6
  simp only [nz1, nz2, nz3]
  refine lv 12 (.tuple #[q7, .bool true]) rfl rfl (run_mv rfl rfl) ?_
  simp only [nz1, nz2, nz3]
  refine lv 15 (q7) rfl rfl (run_ex rfl rfl rfl) ?_
  simp only [nz1, nz2, nz3]
  refine lv 16 (.bool true) rfl rfl (run_ex rfl rfl rfl) ?_
  simp only [nz1, nz2, nz3]
  refine lv 3 (q7) rfl rfl (run_as rfl rfl) ?_
  simp only [nz1, nz2, nz3]
  refine lv 4 (.bool true) rfl rfl (run_as rfl rfl) ?_
  simp only [nz1, nz2, nz3]
  refine wpList_nil ?_
  refine then_n (hK4 _ _ ?_)
  refine wp_seq_k (fun K13 hK13 => ?_)
  refine wp_region_lit ?_
  refine lv 18 (.string (tx l)) rfl rfl (run_mv rfl rfl) ?_
  simp only [nz1, nz2, nz3]
  refine lst (wanted_none rfl) (m_callx hm12 19 rfl (run_rNames rfl rfl) (calls_row (F := fun v => .tuple #[v, .bool true]) (rnames_at l (by omega) acc hn _)) (fun vv19 w14 hR17 hb18 hm15 => ?_))
  obtain ⟨q16, rfl, hq20⟩ := hR17
  have hm21 : Mm none w w14 [.row q7 acc.length (acc.flatMap pv) 65 2, .row q16 acc.length (acc.flatMap pv) 65 2] := hm12.gained hb18 hq20
  clear hm15
  simp only [nz1, nz2, nz3]
  refine lv 17 (.tuple #[q16, .bool true]) rfl rfl (run_mv rfl rfl) ?_
  simp only [nz1, nz2, nz3]
  refine lv 20 (q16) rfl rfl (run_ex rfl rfl rfl) ?_
  simp only [nz1, nz2, nz3]
  refine lv 21 (.bool true) rfl rfl (run_ex rfl rfl rfl) ?_
  simp only [nz1, nz2, nz3]
  refine lv 5 (q16) rfl rfl (run_as rfl rfl) ?_
  simp only [nz1, nz2, nz3]
  refine lv 6 (.bool true) rfl rfl (run_as rfl rfl) ?_
  simp only [nz1, nz2, nz3]
  refine wpList_nil ?_
  refine then_n (hK13 _ _ ?_)
  refine wp_seq_k (fun K22 hK22 => ?_)
  refine wp_seq_k (fun K23 hK23 => ?_)
  refine wp_region_lit ?_
  refine lst (wanted_none rfl) (m_call hm21 22 (.bool true) rfl (run_awake rfl) (awake_any _) (fun w24 (hm25 : Mm none w w24 [.row q7 acc.length (acc.flatMap pv) 65 2, .row q16 acc.length (acc.flatMap pv) 65 2]) => ?_))
  simp only [nz1, nz2, nz3]
  refine lv 23 (.bool false) rfl rfl (r_not true rfl rfl) ?_
  simp only [nz1, nz2, nz3]
  refine lv 24 (.bool false) rfl rfl (run_mv rfl rfl) ?_
  simp only [nz1, nz2, nz3]
  refine lst rfl (w_value 25 (q7) rfl (run_mv rfl rfl) ?_)
  simp only [nz1, nz2, nz3]
  refine lst rfl (w_value 26 (q16) rfl (run_mv rfl rfl) ?_)
  simp only [nz1, nz2, nz3]
  refine lst rfl (m_call hm25 27 (.bool true) rfl (run_same rfl rfl rfl) (same_self acc q7 q16 _ (Rd.of_row (hm25.row 0 rfl)) (Rd.of_row (hm25.row 1 rfl)) (by omega)) (fun w26 (hm27 : Mm none w w26 [.row q7 acc.length (acc.flatMap pv) 65 2, .row q16 acc.length (acc.flatMap pv) 65 2]) => ?_))
  simp only [nz1, nz2, nz3]
  refine lst rfl (w_value 28 (.bool false) rfl (r_not true rfl rfl) ?_)
  simp only [nz1, nz2, nz3]
  refine lv 29 (.bool false) rfl rfl (run_pickf rfl rfl rfl) ?_
  simp only [nz1, nz2, nz3]
  refine lv 30 (.bool false) rfl rfl (run_mv rfl rfl) ?_
  simp only [nz1, nz2, nz3]
  refine lst rfl (w_value 31 (.bool true) rfl (run_mv rfl rfl) ?_)
  simp only [nz1, nz2, nz3]
  refine lst rfl (w_value 32 (.bool true) rfl (run_mv rfl rfl) ?_)
  simp only [nz1, nz2, nz3]
  refine lst rfl (w_value 33 (.bool false) rfl ((by unfold execOp; go_simp; try rfl)) ?_)
  simp only [nz1, nz2, nz3]
  refine lv 34 (.bool false) rfl rfl (run_pickf rfl rfl rfl) ?_
  simp only [nz1, nz2, nz3]
  refine wpList_nil ?_
  refine then_n (hK23 _ _ ?_)
  refine cond_f rfl ?_
  refine wp_skip ?_
  refine then_n (hK22 _ _ ?_)
  refine wp_seq_k (fun K28 hK28 => ?_)
  refine wp_seq_k (fun K29 hK29 => ?_)
  refine wp_region_lit ?_
  refine lv 7 (.int .i64 1) rfl rfl (run_as rfl rfl) ?_
  simp only [nz1, nz2, nz3]
  refine wpList_nil ?_
  refine then_n (hK29 _ _ ?_)
  refine wp_block ?_
  refine wp_loop_n (fun n' a' w' => ∃ (i : Nat) (u0 : Nat → Value), n' = acc.length - i ∧ (1 ≤ i) ∧ a' = ⟨#[.string (tx l), undef, u0 0, q7, .bool true, q16, .bool true, .int .i64 ((i : Nat) : Int), .string (tx l), .int .i64 ((l.length : Nat) : Int), .bool (decide (20000 < l.length)), undef, .tuple #[q7, .bool true], .string (tx l), .tuple #[q7, .bool true], q7, .bool true, .tuple #[q16, .bool true], .string (tx l), .tuple #[q16, .bool true], q16, .bool true, .bool true, .bool false, .bool false, q7, q16, .bool true, .bool false, .bool false, .bool false, .bool true, .bool true, .bool false, .bool false, u0 1, u0 2, u0 3, u0 4, u0 5, u0 6, u0 7, u0 8, u0 9, u0 10, u0 11, u0 12, u0 13, u0 14, u0 15, u0 16, u0 17, u0 18, undef, undef, undef, undef, undef, undef, undef, undef], []⟩ ∧ Mm none w w' [.row q7 acc.length (acc.flatMap pv) 65 2, .row q16 acc.length (acc.flatMap pv) 65 2]) ⟨1, (fun qq => List.getD [.bool false, undef, undef, undef, undef, undef, undef, undef, undef, undef, undef, undef, undef, undef, undef, undef, undef, undef, undef] qq undef), rfl, (Nat.le_refl _), rfl, hm27⟩ ?_
  clear hm27
  rintro _ _ w30 ⟨i, u0, hn0, h1, rfl, hm31⟩ R32 hR32
  refine wp_seq_k (fun K33 hK33 => ?_)
  refine wp_seq_k (fun K34 hK34 => ?_)
  refine wp_region_lit ?_
  refine lv 35 (.int .i64 ((i : Nat) : Int)) rfl rfl (run_mv rfl rfl) ?_
  simp only [nz1, nz2, nz3]
  refine lv 36 (q7) rfl rfl (run_mv rfl rfl) ?_
  simp only [nz1, nz2, nz3]
  refine lv 37 (.int .i64 ((acc.length : Nat) : Int)) rfl rfl (s_len (Rd.of_row (hm31.row 0 rfl)) rfl Try.underlying60 rfl) ?_
  simp only [nz1, nz2, nz3]
  refine lv 38 (.bool (decide (i < acc.length))) rfl rfl (r_lss i acc.length rfl rfl rfl) ?_
  simp only [nz1, nz2, nz3]
  refine wpList_nil ?_
  refine then_n (hK34 _ _ ?_)
  refine cond_d (i < acc.length) rfl (fun hc35 => ?_) (fun hc35 => ?_)
  rotate_left
  · rw [decide_eq_false hc35]
    refine wp_exit ?_
    refine then_x ?_
    refine then_x ?_
    refine blk_x ?_
    refine then_n (hK28 _ _ ?_)
    refine wp_seq_k (fun K43 hK43 => ?_)
    refine wp_region_lit ?_
    refine lv 53 (.bool true) rfl rfl (run_mv rfl rfl) ?_
    simp only [nz1, nz2, nz3]
    refine lv 54 (.bool false) rfl rfl (r_not true rfl rfl) ?_
    simp only [nz1, nz2, nz3]
    refine lv 55 (.bool false) rfl rfl (run_mv rfl rfl) ?_
    simp only [nz1, nz2, nz3]
    refine lst rfl (w_value 56 (q7) rfl (run_mv rfl rfl) ?_)
    simp only [nz1, nz2, nz3]
    refine lst rfl (m_call hm31 57 (.string (tx l)) rfl (run_List rfl rfl) ((by have h := list_any acc q7 _ (Rd.of_row (hm31.row 0 rfl)) (by rw [hback]; omega); rw [hback] at h; exact h)) (fun w44 (hm45 : Mm none w w44 [.row q7 acc.length (acc.flatMap pv) 65 2, .row q16 acc.length (acc.flatMap pv) 65 2]) => ?_))
    simp only [nz1, nz2, nz3]
    refine lst rfl (w_value 58 (.string (tx l)) rfl (run_mv rfl rfl) ?_)
    simp only [nz1, nz2, nz3]
    refine lst rfl (w_value 59 (.bool true) rfl (t_eqt l l rfl rfl rfl rfl) ?_)
    simp only [nz1, nz2, nz3]
    refine lv 60 (.bool true) rfl rfl (run_pickf rfl rfl rfl) ?_
    simp only [nz1, nz2, nz3]
    refine lv 2 (.bool true) rfl rfl (run_as rfl rfl) ?_
    simp only [nz1, nz2, nz3]
    refine wpList_nil ?_
    refine then_n (hK43 _ _ ?_)
    refine wp_ret ?_
    exact ⟨rfl, .bool true, res_t rfl rfl, ⟨rfl, hm45.below⟩⟩
  rw [decide_eq_true hc35]
  refine wp_skip ?_
  refine then_n (hK33 _ _ ?_)
  refine wp_seq_k (fun K36 hK36 => ?_)
  refine wp_block ?_
  refine wp_seq_k (fun K37 hK37 => ?_)
  have hm38 := hm31.drew
  refine wp_region_held_drew (S := fun w' => Rd w' q7 acc.length 2 (acc.flatMap pv)) (by kernel_rfl) (Rd.of_row (hm38.row 0 rfl)) (fun _ => ?_)
  generalize w30.drew = w39 at *
  refine tk 0 41 (q7) rfl rfl (fun _ hw => run_mv rfl rfl) (Rd.of_row (hm38.row 0 rfl)) ?_
  simp only [nz1, nz2, nz3]
  refine tk 1 42 (.int .i64 ((i : Nat) : Int)) rfl rfl (fun _ hw => run_mv rfl rfl) (Rd.of_row (hm38.row 0 rfl)) ?_
  simp only [nz1, nz2, nz3]
  refine tk 2 43 (.int .i64 (((i - 1) : Nat) : Int)) rfl rfl (fun _ hw => r_sub i 1 (show i < 9223372036854775808 from by omega) (by omega) rfl rfl rfl) (Rd.of_row (hm38.row 0 rfl)) ?_
  simp only [nz1, nz2, nz3]
  obtain ⟨ge40, oe41, ce42, rfl⟩ := Rd.openz (Rd.of_row (hm38.row 0 rfl)) (by omega)
  refine tk 3 44 (.pointer (some ⟨ge40, (oe41 + (i - 1) * 2), none⟩)) rfl rfl (fun _ hw => r_ixS ge40 oe41 (i - 1) acc.length ce42 2 (by omega) Try.underlying60 (by exact sz_pl) rfl rfl rfl) (Rd.of_row (hm38.row 0 rfl)) ?_
  simp only [nz1, nz2, nz3]
  refine tk 4 45 (.pointer (some ⟨ge40, (oe41 + (i - 1) * 2) + 0, none⟩)) rfl rfl (fun _ hw => r_fa65_0 ge40 (oe41 + (i - 1) * 2) rfl rfl) (Rd.of_row (hm38.row 0 rfl)) ?_
  simp only [nz1, nz2, nz3]
  refine tk 5 46 (.string (tx ((acc.getD (i - 1) pd).1))) rfl rfl (fun _ hw => r_cellw (cell_el (Rd.cells hw) (pv_0 acc (i - 1) (by omega))) Try.underlying9 rfl rfl rfl) (Rd.of_row (hm38.row 0 rfl)) ?_
  simp only [nz1, nz2, nz3]
  refine tk 6 47 (.slice (some ⟨ge40, oe41, none⟩) acc.length ce42) rfl rfl (fun _ hw => run_mv rfl rfl) (Rd.of_row (hm38.row 0 rfl)) ?_
  simp only [nz1, nz2, nz3]
  refine tk 7 48 (.int .i64 ((i : Nat) : Int)) rfl rfl (fun _ hw => run_mv rfl rfl) (Rd.of_row (hm38.row 0 rfl)) ?_
  simp only [nz1, nz2, nz3]
  refine tk 8 49 (.pointer (some ⟨ge40, (oe41 + i * 2), none⟩)) rfl rfl (fun _ hw => r_ixS ge40 oe41 i acc.length ce42 2 (by omega) Try.underlying60 (by exact sz_pl) rfl rfl rfl) (Rd.of_row (hm38.row 0 rfl)) ?_
  simp only [nz1, nz2, nz3]
  refine tk 9 50 (.pointer (some ⟨ge40, (oe41 + i * 2) + 0, none⟩)) rfl rfl (fun _ hw => r_fa65_0 ge40 (oe41 + i * 2) rfl rfl) (Rd.of_row (hm38.row 0 rfl)) ?_
  simp only [nz1, nz2, nz3]
  refine tk 10 51 (.string (tx ((acc.getD i pd).1))) rfl rfl (fun _ hw => r_cellw (cell_el (Rd.cells hw) (pv_0 acc i (by omega))) Try.underlying9 rfl rfl rfl) (Rd.of_row (hm38.row 0 rfl)) ?_
  simp only [nz1, nz2, nz3]
  refine tk 11 52 (.bool false) rfl rfl (fun _ hw => t_geqf ((acc.getD (i - 1) pd).1) ((acc.getD i pd).1) (by have := hup (i - 1) (by omega); rwa [show i - 1 + 1 = i by omega] at this) rfl rfl rfl) (Rd.of_row (hm38.row 0 rfl)) ?_
  simp only [nz1, nz2, nz3]
  refine wpAnyH_done (by kernel_rfl) ?_ _
  refine then_n (hK37 _ _ ?_)
  refine cond_f rfl ?_
  refine wp_skip ?_
  refine blk_n ?_
  refine then_n (hK36 _ _ ?_)
  refine wp_region_lit ?_
  refine lv 39 (.int .i64 ((i : Nat) : Int)) rfl rfl (run_mv rfl rfl) ?_
  simp only [nz1, nz2, nz3]
  refine lv 40 (.int .i64 (((i + 1) : Nat) : Int)) rfl rfl (r_add i 1 (show _ < 9223372036854775808 from by omega) rfl rfl rfl) ?_
  simp only [nz1, nz2, nz3]
  refine lv 7 (.int .i64 (((i + 1) : Nat) : Int)) rfl rfl (run_as rfl rfl) ?_
  simp only [nz1, nz2, nz3]
  refine wpList_nil ?_
  refine then_n (hR32 _ _ _ ⟨(i + 1), (fun qq => List.getD [u0 0, .int .i64 ((i : Nat) : Int), .slice (some ⟨ge40, oe41, none⟩) acc.length ce42, .int .i64 ((acc.length : Nat) : Int), .bool true, .int .i64 ((i : Nat) : Int), .int .i64 (((i + 1) : Nat) : Int), .slice (some ⟨ge40, oe41, none⟩) acc.length ce42, .int .i64 ((i : Nat) : Int), .int .i64 (((i - 1) : Nat) : Int), .pointer (some ⟨ge40, (oe41 + (i - 1) * 2), none⟩), .pointer (some ⟨ge40, (oe41 + (i - 1) * 2) + 0, none⟩), .string (tx ((acc.getD (i - 1) pd).1)), .slice (some ⟨ge40, oe41, none⟩) acc.length ce42, .int .i64 ((i : Nat) : Int), .pointer (some ⟨ge40, (oe41 + i * 2), none⟩), .pointer (some ⟨ge40, (oe41 + i * 2) + 0, none⟩), .string (tx ((acc.getD i pd).1)), .bool false] qq undef), rfl, (by omega), rfl, hm38⟩ ?_)
  omega
set_option maxHeartbeats 4000000 in
set_option maxRecDepth 100000 in
theorem walk_no (l : List UInt8) (hs : ¬ 20000 < l.length) (hn : namesL l [] = none) (w : World) : Calls Try.prog 11 #[.string (tx l)] w (fun e w' => e = .returned (.bool true) ∧ Below w.heap.size w w') := by
  go_enter Try.func11, Try.ntmps11
  have hm0 := Mm.nil none w
  refine wp_seq_k (fun K1 hK1 => ?_)
  refine wp_region_lit ?_
  refine lv 2 (.bool false) rfl rfl (run_as rfl rfl) ?_
  simp only [nz1, nz2, nz3]
  refine wpList_nil ?_
  refine then_n (hK1 _ _ ?_)
  refine wp_seq_k (fun K2 hK2 => ?_)
  refine wp_seq_k (fun K3 hK3 => ?_)
  refine wp_region_lit ?_
  refine lv 8 (.string (tx l)) rfl rfl (run_mv rfl rfl) ?_
  simp only [nz1, nz2, nz3]
  refine lv 9 (.int .i64 ((l.length : Nat) : Int)) rfl rfl (t_len rfl Try.underlying9 rfl) ?_
  simp only [nz1, nz2, nz3]
  refine lv 10 (.bool (decide (20000 < l.length))) rfl rfl (r_gtr l.length 20000 rfl rfl rfl) ?_
  simp only [nz1, nz2, nz3]
  refine wpList_nil ?_
  refine then_n (hK3 _ _ ?_)
  refine cond_df (20000 < l.length) rfl hs ?_
  refine wp_skip ?_
  refine then_n (hK2 _ _ ?_)
  refine wp_seq_k (fun K4 hK4 => ?_)
  refine wp_region_lit ?_
  refine lv 13 (.string (tx l)) rfl rfl (run_mv rfl rfl) ?_
  simp only [nz1, nz2, nz3]
  refine lst (wanted_none rfl) (m_callx hm0 14 rfl (run_Names rfl rfl) (calls_row (F := fun v => .tuple #[v, .bool false]) (names_no l (by omega) hn _)) (fun vv10 w5 hR8 hb9 hm6 => ?_))
  obtain ⟨q7, rfl, hq11⟩ := hR8
  have hm12 : Mm none w w5 [.row q7 0 ([]) 65 2] := hm0.gained hb9 hq11
  clear hm6
  simp only [nz1, nz2, nz3]
  refine lv 12 (.tuple #[q7, .bool false]) rfl rfl (run_mv rfl rfl) ?_
  simp only [nz1, nz2, nz3]
  refine lv 15 (q7) rfl rfl (run_ex rfl rfl rfl) ?_
  simp only [nz1, nz2, nz3]
  refine lv 16 (.bool false) rfl rfl (run_ex rfl rfl rfl) ?_
  simp only [nz1, nz2, nz3]
  refine lv 3 (q7) rfl rfl (run_as rfl rfl) ?_
  simp only [nz1, nz2, nz3]
  refine lv 4 (.bool false) rfl rfl (run_as rfl rfl) ?_
  simp only [nz1, nz2, nz3]
  refine wpList_nil ?_
  refine then_n (hK4 _ _ ?_)
  refine wp_seq_k (fun K13 hK13 => ?_)
  refine wp_region_lit ?_
  refine lv 18 (.string (tx l)) rfl rfl (run_mv rfl rfl) ?_
  simp only [nz1, nz2, nz3]
  refine lst (wanted_none rfl) (m_callx hm12 19 rfl (run_rNames rfl rfl) (calls_row (F := fun v => .tuple #[v, .bool false]) (rnames_no l (by omega) hn _)) (fun vv19 w14 hR17 hb18 hm15 => ?_))
  obtain ⟨q16, rfl, hq20⟩ := hR17
  have hm21 : Mm none w w14 [.row q7 0 ([]) 65 2, .row q16 0 ([]) 65 2] := hm12.gained hb18 hq20
  clear hm15
  simp only [nz1, nz2, nz3]
  refine lv 17 (.tuple #[q16, .bool false]) rfl rfl (run_mv rfl rfl) ?_
  simp only [nz1, nz2, nz3]
  refine lv 20 (q16) rfl rfl (run_ex rfl rfl rfl) ?_
  simp only [nz1, nz2, nz3]
  refine lv 21 (.bool false) rfl rfl (run_ex rfl rfl rfl) ?_
  simp only [nz1, nz2, nz3]
  refine lv 5 (q16) rfl rfl (run_as rfl rfl) ?_
  simp only [nz1, nz2, nz3]
  refine lv 6 (.bool false) rfl rfl (run_as rfl rfl) ?_
  simp only [nz1, nz2, nz3]
  refine wpList_nil ?_
  refine then_n (hK13 _ _ ?_)
  refine wp_seq_k (fun K22 hK22 => ?_)
  refine wp_seq_k (fun K23 hK23 => ?_)
  refine wp_region_lit ?_
  refine lst (wanted_none rfl) (m_call hm21 22 (.bool true) rfl (run_awake rfl) (awake_any _) (fun w24 (hm25 : Mm none w w24 [.row q7 0 ([]) 65 2, .row q16 0 ([]) 65 2]) => ?_))
  simp only [nz1, nz2, nz3]
  refine lv 23 (.bool false) rfl rfl (r_not true rfl rfl) ?_
  simp only [nz1, nz2, nz3]
  refine lv 24 (.bool false) rfl rfl (run_mv rfl rfl) ?_
  simp only [nz1, nz2, nz3]
  refine lst rfl (w_value 25 (q7) rfl (run_mv rfl rfl) ?_)
  simp only [nz1, nz2, nz3]
  refine lst rfl (w_value 26 (q16) rfl (run_mv rfl rfl) ?_)
  simp only [nz1, nz2, nz3]
  refine lst rfl (m_call hm25 27 (.bool true) rfl (run_same rfl rfl rfl) (same_self [] q7 q16 _ (Rd.of_row (hm25.row 0 rfl)) (Rd.of_row (hm25.row 1 rfl)) (by simp only [List.length_nil]; omega)) (fun w26 (hm27 : Mm none w w26 [.row q7 0 ([]) 65 2, .row q16 0 ([]) 65 2]) => ?_))
  simp only [nz1, nz2, nz3]
  refine lst rfl (w_value 28 (.bool false) rfl (r_not true rfl rfl) ?_)
  simp only [nz1, nz2, nz3]
  refine lv 29 (.bool false) rfl rfl (run_pickf rfl rfl rfl) ?_
  simp only [nz1, nz2, nz3]
  refine lv 30 (.bool false) rfl rfl (run_mv rfl rfl) ?_
  simp only [nz1, nz2, nz3]
  refine lst rfl (w_value 31 (.bool false) rfl (run_mv rfl rfl) ?_)
  simp only [nz1, nz2, nz3]
  refine lst rfl (w_value 32 (.bool false) rfl (run_mv rfl rfl) ?_)
  simp only [nz1, nz2, nz3]
  refine lst rfl (w_value 33 (.bool false) rfl ((by unfold execOp; go_simp; try rfl)) ?_)
  simp only [nz1, nz2, nz3]
  refine lv 34 (.bool false) rfl rfl (run_pickf rfl rfl rfl) ?_
  simp only [nz1, nz2, nz3]
  refine wpList_nil ?_
  refine then_n (hK23 _ _ ?_)
  refine cond_f rfl ?_
  refine wp_skip ?_
  refine then_n (hK22 _ _ ?_)
  refine wp_seq_k (fun K28 hK28 => ?_)
  refine wp_seq_k (fun K29 hK29 => ?_)
  refine wp_region_lit ?_
  refine lv 7 (.int .i64 1) rfl rfl (run_as rfl rfl) ?_
  simp only [nz1, nz2, nz3]
  refine wpList_nil ?_
  refine then_n (hK29 _ _ ?_)
  refine wp_block ?_
  refine wp_loop_n (fun n' a' w' => ∃ (i : Nat) (u0 : Nat → Value), n' = 1 - i ∧ (1 ≤ i) ∧ a' = ⟨#[.string (tx l), undef, u0 0, q7, .bool false, q16, .bool false, .int .i64 ((i : Nat) : Int), .string (tx l), .int .i64 ((l.length : Nat) : Int), .bool (decide (20000 < l.length)), undef, .tuple #[q7, .bool false], .string (tx l), .tuple #[q7, .bool false], q7, .bool false, .tuple #[q16, .bool false], .string (tx l), .tuple #[q16, .bool false], q16, .bool false, .bool true, .bool false, .bool false, q7, q16, .bool true, .bool false, .bool false, .bool false, .bool false, .bool false, .bool false, .bool false, u0 1, u0 2, u0 3, u0 4, u0 5, u0 6, u0 7, u0 8, u0 9, u0 10, u0 11, u0 12, u0 13, u0 14, u0 15, u0 16, u0 17, u0 18, undef, undef, undef, undef, undef, undef, undef, undef], []⟩ ∧ Mm none w w' [.row q7 0 ([]) 65 2, .row q16 0 ([]) 65 2]) ⟨1, (fun qq => List.getD [.bool false, undef, undef, undef, undef, undef, undef, undef, undef, undef, undef, undef, undef, undef, undef, undef, undef, undef, undef] qq undef), rfl, (Nat.le_refl _), rfl, hm27⟩ ?_
  clear hm27
  rintro _ _ w30 ⟨i, u0, hn0, h1, rfl, hm31⟩ R32 hR32
  refine wp_seq_k (fun K33 hK33 => ?_)
  refine wp_seq_k (fun K34 hK34 => ?_)
  refine wp_region_lit ?_
  refine lv 35 (.int .i64 ((i : Nat) : Int)) rfl rfl (run_mv rfl rfl) ?_
  simp only [nz1, nz2, nz3]
  refine lv 36 (q7) rfl rfl (run_mv rfl rfl) ?_
  simp only [nz1, nz2, nz3]
  refine lv 37 (.int .i64 0) rfl rfl (s_len (Rd.of_row (hm31.row 0 rfl)) rfl Try.underlying60 rfl) ?_
  simp only [nz1, nz2, nz3]
  refine lv 38 (.bool (decide (i < 0))) rfl rfl (r_lss i 0 rfl rfl rfl) ?_
  simp only [nz1, nz2, nz3]
  refine wpList_nil ?_
  refine then_n (hK34 _ _ ?_)
  refine cond_df (i < 0) rfl (Nat.not_lt_zero _) ?_
  refine wp_exit ?_
  refine then_x ?_
  refine then_x ?_
  refine blk_x ?_
  refine then_n (hK28 _ _ ?_)
  refine wp_seq_k (fun K35 hK35 => ?_)
  refine wp_region_lit ?_
  refine lv 53 (.bool false) rfl rfl (run_mv rfl rfl) ?_
  simp only [nz1, nz2, nz3]
  refine lv 54 (.bool true) rfl rfl (r_not false rfl rfl) ?_
  simp only [nz1, nz2, nz3]
  refine lv 55 (.bool true) rfl rfl (run_mv rfl rfl) ?_
  simp only [nz1, nz2, nz3]
  refine lst_skip 56 rfl rfl ?_
  simp only [nz1, nz2, nz3]
  refine lst_skip 57 rfl rfl ?_
  simp only [nz1, nz2, nz3]
  refine lst_skip 58 rfl rfl ?_
  simp only [nz1, nz2, nz3]
  refine lst_skip 59 rfl rfl ?_
  simp only [nz1, nz2, nz3]
  refine lv 60 (.bool true) rfl rfl (run_pick rfl rfl rfl) ?_
  simp only [nz1, nz2, nz3]
  refine lv 2 (.bool true) rfl rfl (run_as rfl rfl) ?_
  simp only [nz1, nz2, nz3]
  refine wpList_nil ?_
  refine then_n (hK35 _ _ ?_)
  refine wp_ret ?_
  exact ⟨rfl, .bool true, res_t rfl rfl, ⟨rfl, hm31.below⟩⟩
theorem walk (s : ByteArray) (w : World) : Calls Try.prog 11 #[.string s] w (fun e w' => e = .returned (.bool true) ∧ Below w.heap.size w w') := by
  rw [← tx_bl s]
  generalize bl s = l
  by_cases hs : 20000 < l.length
  · exact walk_long l hs w
  · cases hn : namesL l [] with
    | none => exact walk_no l hs hn w
    | some acc =>
      obtain ⟨h1, _, h3⟩ := names_back l.length l [] acc (Nat.le_refl _) hn
      have h4 := listN_ge acc
      rw [h1] at h4
      exact walk_yes l hs acc hn h1 h3 (by omega) w
set_option maxRecDepth 100000 in
theorem lifted (os : Os) (started : os.Started) (H : Type) (enc : TypeId × Value → H) :
    ReturnsInHanded {} Try.checked os 11 .any (Rows.inodeNamesSpec.pre6 enc Try.prog Try.f11 Rows.inodeNamesRow.domain false) (Rows.inodeNamesSpec.post enc Try.prog Try.f11 false true false false) := by
  refine returnsInHanded_of_change (C := Try.checked) own started (by kernel_rfl) Try.func11
    (ChangeSpec.witness6 (enc := enc) (C := Try.checked) false ⟨#[], #[.string .empty], []⟩ 8 (by kernel_rfl) (by kernel_rfl) (by kernel_rfl) (by kernel_rfl)) ?_
  intro W base args ds gs before hval0 hW hcnd _
  have hval : ∀ (j : Nat) t v, Try.f11.params[j]? = some t → args[j]? = some v → Value.okWide Try.prog W .any base t v := hval0
  have hW' := hW
  obtain ⟨p, q, hA0, hV, rfl, hfz, hnd⟩ := hW
  have hA : DataW.TrodAll enc Try.prog W 0 (fun _ => true) true Try.f11.params.toList args.toList ds p := hA0
  rw [Try.params11] at hA hval
  obtain ⟨v0, vs0, d0, ds0, p0, q0, hargs, rfl, rfl, h0, r0⟩ := trodAll_cons hA
  obtain ⟨rfl, rfl, rfl⟩ := trodAll_nil r0
  obtain rfl : args = #[v0] := by cases args; simp_all
  obtain ⟨rfl, rfl⟩ := trodVars_none hV
  obtain ⟨a0, rfl, rfl, rfl, m0⟩ := open_string Try.underlying9 (hval 0 9 v0 rfl rfl) h0
  clear hA0 hval0
  simp only [List.append_nil] at hW'
  refine (walk a0 W).mono fun e W' ⟨he, hg⟩ => ?_
  subst he
  exact ⟨_, rfl, _, _, _, [], [], [], hW', (trodAll_cons_mk (shut_bool Try.underlying4 _) trodAll_mk0), (trodAll_cons_mk (shut_string Try.underlying9 m0) trodAll_mk0), rfl, hg.frame _, fun h => by cases h⟩

theorem over : Rows.inodeNamesRow.holds Try.pinned (OpenSpec.ofChange Rows.inodeNamesSpec) :=
  OpenClaim.holds_of_wide 11 Try.f11 rfl rfl rfl rfl rfl rfl rfl ⟨rfl, rfl, rfl, rfl, rfl⟩ rfl rfl rfl rfl rfl (by kernel_rfl) Try.func11 (by kernel_rfl)
    (of_decide_eq_true (by kernel_rfl)) (by unfold Func.isWrapper; first | (rw [if_pos (by decide +kernel)]; kernel_rfl) | (rw [if_neg (by decide +kernel)]; exact ⟨rfl, rfl⟩))
    (fun os started H enc _ => lifted os started H enc)

/-- The statement. -/
theorem proved : Rows.InodeNamesSaid :=
  over
#print axioms proved
end Go.Proofs.Ytmammofbgllceaa.inodeNames
