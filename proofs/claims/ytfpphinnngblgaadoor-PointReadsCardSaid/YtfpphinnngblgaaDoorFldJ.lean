/- Layer 3: when numbers' words, or bytes, are the same; a root. -/
import Derived.Test.YtfpphinnngblgaaDoorFldI
import Derived.Stop.BytesEq
namespace Go.Proofs.YtfpphinnngblgaaDoor.Fld
open Go.RowKit Go.Lib
open Go.Proofs.YtfpphinnngblgaaDoor.Arr Go.Proofs.YtfpphinnngblgaaDoor.Sym
open Go.Proofs.YtfpphinnngblgaaDoor.Num (val up val_congr val_add val_lt val_up val_digits val_word)

theorem bytes_same (m n : Nat) (hm : m < MM) (hn : n < MM) : (∀ j, j < 32 → bt m j = bt n j) ↔ m = n := by
  constructor
  · intro h
    have := val_congr (b := 256) (f := bt m) (g := bt n) (n := 32) h
    rw [val_bt, val_bt, ← MM_eq_b, Nat.mod_eq_of_lt hm, Nat.mod_eq_of_lt hn] at this
    exact this
  · rintro rfl _ _; rfl
theorem words_same (m n : Nat) (hm : m < MM) (hn : n < MM) : (∀ j, j < 4 → wd m j = wd n j) ↔ m = n := by
  constructor
  · intro h
    have := val_congr (b := 18446744073709551616) (f := wd m) (g := wd n) (n := 4) h
    rw [val_wd, val_wd, ← MM_eq, Nat.mod_eq_of_lt hm, Nat.mod_eq_of_lt hn] at this
    exact this
  · rintro rfl _ _; rfl
/-- Two rows of whole numbers are compared. -/
theorem run_equal_rows {P : Program} (w : World) (d : Nat) (t e : TypeId) (k : IntKind) (n : Nat) (ht : P.underlying t = some (.array n e)) (he : P.underlying e = some (.int k)) (hsz : ∀ w, (sizeOf e).run P w = .ok 1 w) (f g : Nat → Nat) :
    (Op.equalIn (d + 2) t (.agg (rowOf k f n)) (.agg (rowOf k g n))).run P w = .ok ((List.range n).all fun i => f i == g i) w := by
  rw [List.range_eq_range', Op.equalIn]
  simp only [Sem.run_bind, run_underlying ht, Result.andThen_ok, hsz, Std.Legacy.Range.forIn_eq_forIn_range', Std.Legacy.Range.size, Nat.sub_zero, Nat.add_sub_cancel, Nat.div_one]
  have hl : ∀ i ∈ List.range' 0 n 1, i < n := fun i hi => by simpa using (List.mem_range'_1.1 hi).2
  generalize List.range' 0 n 1 = l at hl ⊢
  induction l with
  | nil => simp
  | cons i l ih =>
    have hi : i < n := hl i (by simp)
    have px : (_root_.Go.part e (rowOf k f n) (i * 1)).run P w = .ok (.int k (f i : Int)) w := by
      simp [_root_.Go.part, isAgg, run_underlying he, rowOf_get k f n i hi]
    have py : (_root_.Go.part e (rowOf k g n) (i * 1)).run P w = .ok (.int k (g i : Int)) w := by
      simp [_root_.Go.part, isAgg, run_underlying he, rowOf_get k g n i hi]
    have pe : (Op.equalIn (d + 1) e (.int k (f i : Int)) (.int k (g i : Int))).run P w = .ok (f i == g i) w := by
      rw [run_equalIn_int w d e k k _ _ he]
      congr 1
      rw [Bool.eq_iff_iff]
      simp
      omega
    simp only [List.forIn_cons, Sem.run_bind, px, py, pe, Result.andThen_ok, List.all_cons]
    cases hb : (f i == g i)
    · simp
    · simp only [Bool.not_true, Bool.false_eq_true, if_false, Sem.run_pure, Result.andThen_ok, Bool.true_and]
      exact ih fun j hj => hl j (by simp [hj])
theorem all_w (m n : Nat) (hm : m < MM) (hn : n < MM) : ((List.range 4).all fun i => wd m i == wd n i) = decide (m = n) := by
  rw [Bool.eq_iff_iff, List.all_eq_true, decide_eq_true_iff, ← words_same m n hm hn]
  constructor
  · intro h j hj; simpa using h j (by simpa using hj)
  · intro h j hj; simpa using h j (by simpa using hj)
theorem all_b (m n : Nat) (hm : m < MM) (hn : n < MM) : ((List.range 32).all fun i => bt m i == bt n i) = decide (m = n) := by
  rw [Bool.eq_iff_iff, List.all_eq_true, decide_eq_true_iff, ← bytes_same m n hm hn]
  constructor
  · intro h j hj; simpa using h j (by simpa using hj)
  · intro h j hj; simpa using h j (by simpa using hj)
theorem size34 : ∀ w, (sizeOf 50).run Tryd.prog w = .ok 1 w := Tryd.sizeOf50
theorem size5 : ∀ w, (sizeOf 5).run Tryd.prog w = .ok 1 w := Tryd.sizeOf5
theorem run_neqW {o : Oper} {a : Act} {w : World} {x y : Operand} (m n : Nat) (hm : m < MM) (hn : n < MM) (c : Bool) (hc : decide (m = n) = !c) (ho : o.op = .binOp .neq 52 x y 52) (hx : a.eval x = .agg (ws m)) (hy : a.eval y = .agg (ws n)) :
    (execOp a.eval o).run Tryd.prog w = .ok (.value (.bool c)) w := by
  have e := run_equal_rows (P := Tryd.prog) w 9998 52 50 .u64 4 Tryd.underlying52 Tryd.underlying50 size34 (wd m) (wd n)
  rw [all_w m n hm hn, hc] at e
  have e' : (Op.equalIn 10000 52 (.agg (ws m)) (.agg (ws n))).run Tryd.prog w = .ok (!c) w := e
  clear e
  unfold execOp
  simp only [ho, hx, hy]
  generalize a.eval = f at *
  go_simp
theorem run_eqN {o : Oper} {a : Act} {w : World} {x y : Operand} (m n : Nat) (hm : m < MM) (hn : n < MM) (c : Bool) (hc : decide (m = n) = c) (ho : o.op = .binOp .eql 23 x y 23) (hx : a.eval x = .agg (bs m)) (hy : a.eval y = .agg (bs n)) :
    (execOp a.eval o).run Tryd.prog w = .ok (.value (.bool c)) w := by
  have e := run_equal_rows (P := Tryd.prog) w 9998 23 5 .u8 32 Tryd.underlying23 Tryd.underlying5 size5 (bt m) (bt n)
  rw [all_b m n hm hn, hc] at e
  have e' : (Op.equalIn 10000 23 (.agg (bs m)) (.agg (bs n))).run Tryd.prog w = .ok c w := e
  clear e
  unfold execOp
  simp only [ho, hx, hy]
  generalize a.eval = f at *
  go_simp
theorem run_eqB {o : Oper} {a : Act} {w : World} {x y : Operand} (c d : Bool) (ho : o.op = .binOp .eql 4 x y 4) (hx : a.eval x = .bool c) (hy : a.eval y = .bool d) :
    (execOp a.eval o).run Tryd.prog w = .ok (.value (.bool (c == d))) w := by
  unfold execOp
  simp only [ho, hx, hy]
  generalize a.eval = f at *
  go_simp
theorem run_not {o : Oper} {a : Act} {w : World} {x : Operand} (c : Bool) (ho : o.op = .unOp .not 4 x) (hx : a.eval x = .bool c) :
    (execOp a.eval o).run Tryd.prog w = .ok (.value (.bool (!c))) w := by
  unfold execOp
  simp only [ho, hx]
  generalize a.eval = f at *
  go_simp
theorem run_ixW0 {o : Oper} {a : Act} {w : World} {g : Nat} {x : Operand} (ho : o.op = .indexAddr 52 x (.const (.int .i64 0))) (hx : a.eval x = .pointer (some ⟨g, 0, none⟩)) :
    (execOp a.eval o).run Tryd.prog w = .ok (.value (.pointer (some ⟨g, 0, none⟩))) w := by
  unfold execOp
  simp only [ho, hx]
  go_simp
theorem run_ld0 {o : Oper} {a : Act} {w : World} {g n : Nat} {x : Operand} (hb : Blk w g (ws n) 52) (ho : o.op = .load 50 x) (hx : a.eval x = .pointer (some ⟨g, 0, none⟩)) :
    (execOp a.eval o).run Tryd.prog w = .ok (.value (.int .u64 (wd n 0 : Int))) w := by
  have h1 := (show Row w g 4 52 .u64 (wd n) from hb).at 0 (by omega) |>.1
  unfold execOp
  simp only [ho, hx]
  go_simp
theorem run_and1 {o : Oper} {a : Act} {w : World} {x : Operand} (n : Nat) (ho : o.op = .binOp .and 50 x (.const (.int .u64 1)) 50) (hx : a.eval x = .int .u64 (wd n 0 : Int)) :
    (execOp a.eval o).run Tryd.prog w = .ok (.value (.int .u64 ((n % 2 : Nat) : Int))) w := by
  have h : bits BinOp.and IntKind.u64 (wd n 0 : Int) 1 = ((wd n 0 &&& 1 : Nat) : Int) := bits_and_u64_nat (wd n 0) 1 (wd_lt _ _) (by omega)
  have e : wd n 0 &&& 1 = n % 2 := by
    rw [Nat.and_one_is_mod]; unfold wd; rw [Nat.pow_zero, Nat.div_one]; omega
  rw [e] at h
  unfold execOp
  simp only [ho, hx]
  have hf : a.eval (.const (.int .u64 1)) = .int .u64 1 := rfl
  generalize a.eval = f at *
  go_simp
end Go.Proofs.YtfpphinnngblgaaDoor.Fld
