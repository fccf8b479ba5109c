/- Layer 5: what the laws call, with answers told; points compared; texts compared. -/
import Derived.Test.YtfpphinnngblgaaDoorPtC
import Derived.Test.YtfpphinnngblgaaDoorPtE
import Derived.Test.YtfpphinnngblgaaDoorPtN
import Derived.Test.YtfpphinnngblgaaDoorSkp
import Derived.Test.YtfpphinnngblgaaDoorDag
import Derived.Laws.StructEq
namespace Go.Proofs.YtfpphinnngblgaaDoor.Fld
open Go.RowKit Go.Lib
open Go.Proofs.YtfpphinnngblgaaDoor.Num (val up val_congr val_add val_lt val_up val_digits val_word)
open Go.Proofs.YtfpphinnngblgaaDoor.Arr Go.Proofs.YtfpphinnngblgaaDoor.Sym Go.Proofs.YtfpphinnngblgaaDoor.Sx

theorem same_c (p q : Pn) (hp : p.ok) (hq : q.ok) (c : Bool) (h : decide (sameP p q) = c) (w : World) : Calls Tryd.prog 21 #[.agg (pq p), .agg (pq q)] w (fun e w' => e = .returned (.bool c) ∧ Below w.heap.size w w') := by
  rw [← h]; exact same_p p q hp hq w
theorem on_c (p : Pn) (hp : p.ok) (h : onP p) (w : World) (hd : DD w) : Calls Tryd.prog 13 #[.agg (pq p)] w (fun e w' => e = .returned (.bool true) ∧ Below w.heap.size w w') := by
  have := on_p p hp w hd
  rw [decide_eq_true h] at this
  exact this
theorem un_no (s : ByteArray) (h : unP s = none) (w : World) (hd : DD w) : Calls Tryd.prog 10 #[.string s] w (fun e w' => e = .returned (.tuple #[.agg (pt 0 0 0 0), .bool false]) ∧ Below w.heap.size w w') := by
  have h2 := unpack_p s w hd
  unfold unV at h2
  rw [h] at h2
  exact h2
theorem pack_c (p : Pn) (hp : p.ok) (s : ByteArray) (h : packS p = s) (w : World) : Calls Tryd.prog 14 #[.agg (pq p)] w (fun e w' => e = .returned (.string s) ∧ Below w.heap.size w w') := by
  rw [← h]; exact pack_p p hp w
theorem sumP_ok : sumP.ok := ⟨by decide, by decide, by decide, by decide⟩
theorem two_same : sameP sumP (timesP 2 baseP 256) := by decide +kernel
theorem neg_same : sameP (addP baseP (negP baseP)) zeroP := neg_base
theorem r_eqlB {o : Oper} {a : Act} {w : World} {x y : Operand} (c d e : Bool) (h : (c == d) = e) (ho : o.op = .binOp .eql 4 x y 4) (hx : a.eval x = .bool c) (hy : a.eval y = .bool d) :
    (execOp a.eval o).run Tryd.prog w = .ok (.value (.bool e)) w := by
  rw [← h]; exact run_eqB c d ho hx hy
theorem r_eqlS {o : Oper} {a : Act} {w : World} {x y : Operand} (s t : ByteArray) (c : Bool) (h : decide (s = t) = c) (ho : o.op = .binOp .eql 9 x y 9) (hx : a.eval x = .string s) (hy : a.eval y = .string t) :
    (execOp a.eval o).run Tryd.prog w = .ok (.value (.bool c)) w := by
  have e : (s.toList == t.toList) = c := by
    rw [← h, Bool.eq_iff_iff, beq_iff_eq, decide_eq_true_iff, ByteArray.toList_eq, ByteArray.toList_eq]
    exact ⟨fun h => ByteArray.ext (Array.toList_inj.1 h), fun h => by rw [h]⟩
  unfold execOp
  simp only [ho, hx, hy]
  generalize a.eval = f at *
  go_simp
theorem ext_pt (x y z t : Nat) : (pt x y z t).extract 0 (0 + 32) = bs x ∧ (pt x y z t).extract 32 (32 + 32) = bs y ∧ (pt x y z t).extract 64 (64 + 32) = bs z ∧ (pt x y z t).extract 96 (96 + 32) = bs t := by
  have key : ∀ (k c : Nat), k + 32 ≤ 128 → (∀ j, j < 32 → pf x y z t (k + j) = bt c j) → (pt x y z t).extract k (k + 32) = bs c := by
    intro k c hk h
    unfold pt bs
    apply Array.ext
    · simp only [Array.size_extract, rowOf_size]; omega
    · intro i h1 h2
      have hi : i < 32 := by simpa [rowOf_size] using h2
      have a1 := rowOf_get .u8 (pf x y z t) 128 (k + i) (by omega)
      have a2 := rowOf_get .u8 (bt c) 32 i hi
      rw [Array.getElem?_eq_getElem (by rw [rowOf_size]; omega)] at a1
      rw [Array.getElem?_eq_getElem h2] at a2
      rw [Array.getElem_extract, Option.some.inj a1, Option.some.inj a2, h i hi]
  refine ⟨key 0 x (by decide) fun j hj => ?_, key 32 y (by decide) fun j hj => ?_, key 64 z (by decide) fun j hj => ?_, key 96 t (by decide) fun j hj => ?_⟩
  · unfold pf; rw [if_pos (by omega), Nat.zero_add]
  · unfold pf; rw [if_neg (by omega), if_pos (by omega), Nat.add_sub_cancel_left]
  · unfold pf; rw [if_neg (by omega), if_neg (by omega), if_pos (by omega), Nat.add_sub_cancel_left]
  · unfold pf; rw [if_neg (by omega), if_neg (by omega), if_neg (by omega), Nat.add_sub_cancel_left]
theorem eq_self (x : Nat) (w : World) : (Op.equalIn 9999 23 (.agg (bs x)) (.agg (bs x))).run Tryd.prog w = .ok true w := by
  have e := run_equal_rows (P := Tryd.prog) w 9997 23 5 .u8 32 Tryd.underlying23 Tryd.underlying5 size5 (bt x) (bt x)
  have h : ((List.range 32).all fun i => bt x i == bt x i) = true := by simp
  rw [h] at e
  exact e
theorem r_eqlP {o : Oper} {a : Act} {w : World} {u v : Operand} (x y z t : Nat) (ho : o.op = .binOp .eql 25 u v 25) (hx : a.eval u = .agg (pt x y z t)) (hy : a.eval v = .agg (pt x y z t)) :
    (execOp a.eval o).run Tryd.prog w = .ok (.value (.bool true)) w := by
  obtain ⟨h0, h1, h2, h3⟩ := ext_pt x y z t
  have q0 := eq_self x
  have q1 := eq_self y
  have q2 := eq_self z
  have q3 := eq_self t
  simp only [Nat.zero_add, Nat.reduceAdd] at h0 h1 h2 h3
  unfold execOp
  simp only [ho, hx, hy]
  generalize a.eval = f at *
  generalize pt x y z t = c at *
  go_simp
theorem r_eqlQ {o : Oper} {a : Act} {w : World} {u v : Operand} (p : Pn) (ho : o.op = .binOp .eql 25 u v 25) (hx : a.eval u = .agg (pq p)) (hy : a.eval v = .agg (pq p)) :
    (execOp a.eval o).run Tryd.prog w = .ok (.value (.bool true)) w := r_eqlP p.x p.y p.z p.t ho hx hy
end Go.Proofs.YtfpphinnngblgaaDoor.Fld
