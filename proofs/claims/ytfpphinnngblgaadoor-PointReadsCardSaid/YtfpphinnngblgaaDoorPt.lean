/- Layer 5: points in memory. -/
import Derived.Test.YtfpphinnngblgaaDoorSy
import Derived.Test.YtfpphinnngblgaaDoorFldM
import Derived.Test.YtfpphinnngblgaaDoorFldI
namespace Go.Proofs.YtfpphinnngblgaaDoor.Fld
open Go.RowKit
open Go.Proofs.YtfpphinnngblgaaDoor.Num (val up val_congr val_add val_lt val_up val_digits val_word)
open Go.Proofs.YtfpphinnngblgaaDoor.Arr Go.Proofs.YtfpphinnngblgaaDoor.Sym Go.Proofs.YtfpphinnngblgaaDoor.Sx

/-- A point's 128 bytes. -/
def pf (x y z t j : Nat) : Nat := if j < 32 then bt x j else if j < 64 then bt y (j - 32) else if j < 96 then bt z (j - 64) else bt t (j - 96)
def pt (x y z t : Nat) : Array Value := rowOf .u8 (pf x y z t) 128
theorem pt_sz (x y z t : Nat) : (pt x y z t).size = 128 := rowOf_size _ _ _
theorem pt_one (x y z t : Nat) : (pt x y z t).all (·.oneCell') = true := rowOf_one _ _ _
theorem info_p : (Tryd.prog.info? 25).map (·.size) = some 128 := by kernel_rfl
theorem al_P {o : Oper} {a : Act} {w : World} (ho : o.op = .alloc 25) : (execOp a.eval o).run Tryd.prog w = .ok (.value (.pointer (some ⟨w.heap.size, 0, none⟩))) (w.alloc (.cells (pt 0 0 0 0) 25)) := by
  unfold execOp
  simp only [ho]
  go_simp
  rfl
/-- Part of a block is loaded. -/
theorem r_part {P : Program} {o : Oper} {a : Act} {w : World} {x : Operand} {T t : TypeId} {d : TypeDesc} {k : IntKind} {f h : Nat → Nat} {n m : Nat} (g i : Nat) (hi : i + m ≤ n) (hf : ∀ j, j < m → f (i + j) = h j) (hb : Blk w g (rowOf k f n) t)
    (hT : P.underlying T = some d) (hd : (match d with | .struct _ | .array _ _ => true | _ => false) = true) (hz : (P.info? T).map (·.size) = some m) (ho : o.op = .load T x) (hx : a.eval x = .pointer (some ⟨g, i, none⟩)) :
    (execOp a.eval o).run P w = .ok (.value (.agg (rowOf k h m))) w := by
  have hl : (loadCells ⟨g, i, none⟩ (rowOf k h m).toList.length).run P w = .ok (rowOf k h m).toList.toArray w :=
    run_loadCells_list (P := P) w ⟨g, i, none⟩ (rowOf k h m).toList (fun j v hv => by
      have hj : j < m := by
        have := (List.getElem?_eq_some_iff.1 hv).1
        simpa [rowOf_size] using this
      have hadd : (⟨g, i, none⟩ : Addr).add j = ⟨g, i + j, none⟩ := by unfold Addr.add; split <;> simp_all
      rw [hadd, ((show Row w g n t k f from hb).at (i + j) (by omega)).1, hf j hj]
      rw [Array.getElem?_toList, rowOf_get k h m j hj] at hv
      exact hv)
  have h2 : (loadVar T ⟨g, i, none⟩).run P w = .ok (.agg (rowOf k h m)) w := by
    cases hq : P.info? T with
    | none => simp [hq] at hz
    | some q =>
      have hs : q.size = (rowOf k h m).size := by rw [rowOf_size]; simpa [hq] using hz
      have hagg : (isAgg T).run P w = .ok true w := by
        unfold isAgg
        rw [Sem.run_bind, run_underlying hT w]
        cases d <;> simp_all
      simp only [Array.length_toList, Array.toArray_toList] at hl
      simp [loadVar, Sem.run_bind, hagg, sizeOf, typeInfo, hq, hs, hl]
  unfold execOp
  simp only [ho, hx, Instr.loadAt, Instr.sureAddr, Sem.run_bind, Sem.run_pure, Result.andThen_ok, h2]
section
variable {o : Oper} {a : Act} {w : World} {x0 x1 x2 x3 : Operand} {T : TypeId}
theorem r_f0 (g : Nat) (ho : o.op = .fieldAddr 25 x0 0) (hx : a.eval x0 = .pointer (some ⟨g, 0, none⟩)) : (execOp a.eval o).run Tryd.prog w = .ok (.value (.pointer (some ⟨g, 0, none⟩))) w := by
  unfold execOp
  simp only [ho, hx]
  go_simp
theorem r_f1 (g : Nat) (ho : o.op = .fieldAddr 25 x0 1) (hx : a.eval x0 = .pointer (some ⟨g, 0, none⟩)) : (execOp a.eval o).run Tryd.prog w = .ok (.value (.pointer (some ⟨g, 32, none⟩))) w := by
  unfold execOp
  simp only [ho, hx]
  go_simp
theorem r_f2 (g : Nat) (ho : o.op = .fieldAddr 25 x0 2) (hx : a.eval x0 = .pointer (some ⟨g, 0, none⟩)) : (execOp a.eval o).run Tryd.prog w = .ok (.value (.pointer (some ⟨g, 64, none⟩))) w := by
  unfold execOp
  simp only [ho, hx]
  go_simp
theorem r_f3 (g : Nat) (ho : o.op = .fieldAddr 25 x0 3) (hx : a.eval x0 = .pointer (some ⟨g, 0, none⟩)) : (execOp a.eval o).run Tryd.prog w = .ok (.value (.pointer (some ⟨g, 96, none⟩))) w := by
  unfold execOp
  simp only [ho, hx]
  go_simp
variable {x y z t : Nat}
theorem r_c0 (g : Nat) (hb : Blk w g (pt x y z t) T) (ho : o.op = .load 23 x0) (hx : a.eval x0 = .pointer (some ⟨g, 0, none⟩)) : (execOp a.eval o).run Tryd.prog w = .ok (.value (.agg (bs x))) w :=
  r_part g 0 (n := 128) (m := 32) (h := bt x) (by decide) (fun j hj => by unfold pf; rw [if_pos (by omega), Nat.zero_add]) hb Tryd.underlying23 rfl info_b ho hx
theorem r_c1 (g : Nat) (hb : Blk w g (pt x y z t) T) (ho : o.op = .load 23 x0) (hx : a.eval x0 = .pointer (some ⟨g, 32, none⟩)) : (execOp a.eval o).run Tryd.prog w = .ok (.value (.agg (bs y))) w :=
  r_part g 32 (n := 128) (m := 32) (h := bt y) (by decide) (fun j hj => by unfold pf; rw [if_neg (by omega), if_pos (by omega), Nat.add_sub_cancel_left]) hb Tryd.underlying23 rfl info_b ho hx
theorem r_c2 (g : Nat) (hb : Blk w g (pt x y z t) T) (ho : o.op = .load 23 x0) (hx : a.eval x0 = .pointer (some ⟨g, 64, none⟩)) : (execOp a.eval o).run Tryd.prog w = .ok (.value (.agg (bs z))) w :=
  r_part g 64 (n := 128) (m := 32) (h := bt z) (by decide) (fun j hj => by unfold pf; rw [if_neg (by omega), if_neg (by omega), if_pos (by omega), Nat.add_sub_cancel_left]) hb Tryd.underlying23 rfl info_b ho hx
theorem r_c3 (g : Nat) (hb : Blk w g (pt x y z t) T) (ho : o.op = .load 23 x0) (hx : a.eval x0 = .pointer (some ⟨g, 96, none⟩)) : (execOp a.eval o).run Tryd.prog w = .ok (.value (.agg (bs t))) w :=
  r_part g 96 (n := 128) (m := 32) (h := bt t) (by decide) (fun j hj => by unfold pf; rw [if_neg (by omega), if_neg (by omega), if_neg (by omega), Nat.add_sub_cancel_left]) hb Tryd.underlying23 rfl info_b ho hx
end
theorem rowOf_getO (k : IntKind) (f : Nat → Nat) (n j : Nat) : (rowOf k f n)[j]? = if j < n then some (.int k (f j : Int)) else none := by
  by_cases h : j < n
  · rw [if_pos h, rowOf_get k f n j h]
  · rw [if_neg h, Array.getElem?_eq_none (by rw [rowOf_size]; omega)]
theorem rowOf_append (k : IntKind) (f g : Nat → Nat) (n m : Nat) : rowOf k f n ++ rowOf k g m = rowOf k (fun j => if j < n then f j else g (j - n)) (n + m) := by
  apply Array.ext_getElem?
  intro j
  rw [Array.getElem?_append, rowOf_size, rowOf_getO, rowOf_getO, rowOf_getO]
  by_cases h : j < n
  · rw [if_pos h, if_pos h, if_pos (by omega), if_pos h]
  · rw [if_neg h]
    by_cases h2 : j < n + m
    · rw [if_pos (by omega), if_pos h2, if_neg h]
    · rw [if_neg (by omega), if_neg h2]
def putr (f h : Nat → Nat) (o m : Nat) : Nat → Nat := fun j => if o ≤ j ∧ j < o + m then h (j - o) else f j
theorem zip_row (k : IntKind) (h : Nat → Nat) (m : Nat) : (rowOf k h m).zipIdx = ((List.range m).map fun j => ((.int k (h j : Int) : Value), j)).toArray := by
  unfold rowOf
  apply Array.ext
  · simp
  · intro i h1 h2
    simp
theorem fold_row (k : IntKind) (f h : Nat → Nat) (n o : Nat) : ∀ m, o + m ≤ n → ((List.range m).map fun j => ((.int k (h j : Int) : Value), j)).foldl (fun (cs : Array Value) x => cs.setIfInBounds (o + x.2) x.1) (rowOf k f n) = rowOf k (putr f h o m) n
  | 0, _ => by
    simp only [List.range_zero, List.map_nil, List.foldl_nil]
    exact rowOf_congr fun j _ => by unfold putr; rw [if_neg (by omega)]
  | m + 1, hn => by
    rw [List.range_succ, List.map_append, List.foldl_append, fold_row k f h n o m (by omega)]
    simp only [List.map_cons, List.map_nil, List.foldl_cons, List.foldl_nil]
    rw [rowOf_set]
    exact rowOf_congr fun j _ => by
      unfold up putr
      by_cases e : j = o + m
      · rw [if_pos e, if_pos (by omega), e]; congr 1; omega
      · rw [if_neg e]
        by_cases c : o ≤ j ∧ j < o + m
        · rw [if_pos c, if_pos (by omega)]
        · rw [if_neg c, if_neg (by omega)]
theorem ptrow (k : IntKind) (f h : Nat → Nat) (n o m : Nat) (hn : o + m ≤ n) : (rowOf k h m).zipIdx.foldl (fun (cs : Array Value) x => cs.setIfInBounds (o + x.2) x.1) (rowOf k f n) = rowOf k (putr f h o m) n := by
  rw [zip_row, List.foldl_toArray]
  exact fold_row k f h n o m hn
theorem zip_size (x : Nat) : (bs x).zipIdx.size = 32 := by rw [Array.size_zipIdx, bs_sz]
theorem put_bs (f : Nat → Nat) (x o : Nat) (hn : o + 32 ≤ 128) : Array.foldl (fun (cs : Array Value) q => cs.setIfInBounds (o + q.2) q.1) (rowOf .u8 f 128) (bs x).zipIdx 0 32 = rowOf .u8 (putr f (bt x) o 32) 128 := by
  have h := ptrow .u8 f (bt x) 128 o 32 hn
  have h2 := zip_size x
  unfold bs at h2 ⊢
  rw [h2] at h
  exact h
theorem put_bs0 (f : Nat → Nat) (x : Nat) : Array.foldl (fun (cs : Array Value) q => cs.setIfInBounds q.2 q.1) (rowOf .u8 f 128) (bs x).zipIdx 0 32 = rowOf .u8 (putr f (bt x) 0 32) 128 := by
  rw [← put_bs f x 0 (by decide)]; simp only [Nat.zero_add]
theorem putr_all (x y z t : Nat) : rowOf .u8 (putr (putr (putr (putr (fun _ => 0) (bt x) 0 32) (bt y) 32 32) (bt z) 64 32) (bt t) 96 32) 128 = pt x y z t := rowOf_congr fun j hj => by
  unfold putr pf
  by_cases c1 : j < 32
  · rw [if_neg (by omega), if_neg (by omega), if_neg (by omega), if_pos (by omega), if_pos c1]; rfl
  · rw [if_neg c1]
    by_cases c2 : j < 64
    · rw [if_neg (by omega), if_neg (by omega), if_pos (by omega), if_pos c2]
    · rw [if_neg c2]
      by_cases c3 : j < 96
      · rw [if_neg (by omega), if_pos (by omega), if_pos c3]
      · rw [if_pos (by omega), if_neg c3]
theorem zero25 : Tryd.zeroCells25 = rowOf .u8 (fun _ => 0) 128 := by kernel_rfl
section
variable {o : Oper} {a : Act} {w : World} {x0 x1 x2 x3 : Operand}
theorem run_bdP (x y z t : Nat) (ho : o.op = .build 25 #[(0, x0), (1, x1), (2, x2), (3, x3)]) (h0 : a.eval x0 = .agg (bs x)) (h1 : a.eval x1 = .agg (bs y)) (h2 : a.eval x2 = .agg (bs z)) (h3 : a.eval x3 = .agg (bs t)) :
    (execOp a.eval o).run Tryd.prog w = .ok (.value (.agg (pt x y z t))) w := by
  rw [← putr_all]
  unfold execOp
  simp only [ho]
  generalize a.eval = f at *
  have s1 := bs_sz x
  have s2 := bs_sz y
  have s3 := bs_sz z
  have s4 := bs_sz t
  have p0 := put_bs0 (fun _ => 0) x
  have p1 := put_bs (putr (fun _ => 0) (bt x) 0 32) y 32 (by decide)
  have p2 := put_bs (putr (putr (fun _ => 0) (bt x) 0 32) (bt y) 32 32) z 64 (by decide)
  have p3 := put_bs (putr (putr (putr (fun _ => 0) (bt x) 0 32) (bt y) 32 32) (bt z) 64 32) t 96 (by decide)
  have s5 := rowOf_size .u8 (putr (fun _ => 0) (bt x) 0 32) 128
  have s6 := rowOf_size .u8 (putr (putr (fun _ => 0) (bt x) 0 32) (bt y) 32 32) 128
  have s7 := rowOf_size .u8 (putr (putr (putr (fun _ => 0) (bt x) 0 32) (bt y) 32 32) (bt z) 64 32) 128
  have s8 := rowOf_size .u8 (fun _ => 0) 128
  have hz := zero25
  go_simp
theorem run_bdZ (y z : Nat) (ho : o.op = .build 25 #[(1, x1), (2, x2)]) (h1 : a.eval x1 = .agg (bs y)) (h2 : a.eval x2 = .agg (bs z)) :
    (execOp a.eval o).run Tryd.prog w = .ok (.value (.agg (pt 0 y z 0))) w := by
  have e : pt 0 y z 0 = rowOf .u8 (putr (putr (fun _ => 0) (bt y) 32 32) (bt z) 64 32) 128 := rowOf_congr fun j hj => by
    have b0 : ∀ i, bt 0 i = 0 := fun i => by simp [bt]
    unfold putr pf
    by_cases c1 : j < 32
    · rw [if_pos c1, if_neg (by omega), if_neg (by omega), b0]
    · rw [if_neg c1]
      by_cases c2 : j < 64
      · rw [if_pos c2, if_neg (by omega), if_pos (by omega)]
      · rw [if_neg c2]
        by_cases c3 : j < 96
        · rw [if_pos c3, if_pos (by omega)]
        · rw [if_neg c3, if_neg (by omega), if_neg (by omega), b0]
  rw [e]
  unfold execOp
  simp only [ho]
  generalize a.eval = f at *
  have s2 := bs_sz y
  have s3 := bs_sz z
  have p1 := put_bs (fun _ => 0) y 32 (by decide)
  have p2 := put_bs (putr (fun _ => 0) (bt y) 32 32) z 64 (by decide)
  have s6 := rowOf_size .u8 (putr (fun _ => 0) (bt y) 32 32) 128
  have s8 := rowOf_size .u8 (fun _ => 0) 128
  have hz := zero25
  go_simp
end
theorem kept {w W : World} {g : Nat} {c : Array Value} {T : TypeId} (h : Blk w g c T) (hb : Below w.heap.size w W) : Blk W g c T := by
  unfold Blk
  rw [hb.block _ h.lt]; exact h
/-- The curve's number d, as the package lays it. -/
def dN : Nat := 37095705934669439343138083508754565189542113879843219016388785533085940283555
/-- The package's variable d is laid. -/
def DD (w : World) : Prop := Blk w 0 (bs dN) 23
end Go.Proofs.YtfpphinnngblgaaDoor.Fld
