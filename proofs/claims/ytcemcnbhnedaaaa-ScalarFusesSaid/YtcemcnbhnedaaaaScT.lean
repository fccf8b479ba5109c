/- Layer 4: types, calls as they stand in regions. -/
import Derived.Test.YtcemcnbhnedaaaaSx
import Derived.Test.YtcemcnbhnedaaaaScM
import Derived.Shelf.Spec.BitsCarry
import Derived.Shelf.Bits.Mul64
namespace Go.Proofs.Ytcemcnbhnedaaaa.Fld
open Go.RowKit Go.Shelf
open Go.Proofs.Ytcemcnbhnedaaaa.Num (val up val_congr val_add val_lt val_up val_digits val_word)
open Go.Proofs.Ytcemcnbhnedaaaa.Arr Go.Proofs.Ytcemcnbhnedaaaa.Sym Go.Proofs.Ytcemcnbhnedaaaa.Sx

theorem info_w : (Try.prog.info? 37).map (·.size) = some 4 := by kernel_rfl
theorem info_b : (Try.prog.info? 23).map (·.size) = some 32 := by kernel_rfl
theorem info_x : (Try.prog.info? 36).map (·.size) = some 4 := by kernel_rfl
theorem info_8 : (Try.prog.info? 40).map (·.size) = some 8 := by kernel_rfl
theorem one_u64 : (Try.prog.info? 35).map (·.size) = some 1 := by kernel_rfl
theorem one_u8 : (Try.prog.info? 5).map (·.size) = some 1 := by kernel_rfl
theorem some_u64 : (Try.prog.underlying 35).isSome = true := by kernel_rfl
theorem some_u8 : (Try.prog.underlying 5).isSome = true := by kernel_rfl
theorem some_i64 : (Try.prog.underlying 3).isSome = true := by kernel_rfl
theorem some_u : (Try.prog.underlying 41).isSome = true := by kernel_rfl
theorem al_W {o : Oper} {a : Act} {w : World} (ho : o.op = .alloc 37) : (execOp a.eval o).run Try.prog w = .ok (.value (.pointer (some ⟨w.heap.size, 0, none⟩))) (w.alloc (.cells (ws 0) 37)) := by
  unfold execOp
  simp only [ho]
  go_simp
  rfl
theorem al_N {o : Oper} {a : Act} {w : World} (ho : o.op = .alloc 23) : (execOp a.eval o).run Try.prog w = .ok (.value (.pointer (some ⟨w.heap.size, 0, none⟩))) (w.alloc (.cells (bs 0) 23)) := by
  unfold execOp
  simp only [ho]
  go_simp
  rfl
theorem al_X {o : Oper} {a : Act} {w : World} (ho : o.op = .alloc 36) : (execOp a.eval o).run Try.prog w = .ok (.value (.pointer (some ⟨w.heap.size, 0, none⟩))) (w.alloc (.cells (ws 0) 36)) := by
  unfold execOp
  simp only [ho]
  go_simp
  rfl
theorem al_8 {o : Oper} {a : Act} {w : World} (ho : o.op = .alloc 40) : (execOp a.eval o).run Try.prog w = .ok (.value (.pointer (some ⟨w.heap.size, 0, none⟩))) (w.alloc (.cells (w8 0) 40)) := by
  unfold execOp
  simp only [ho]
  go_simp
  rfl
theorem run_order {o : Oper} {a : Act} {w : World} (ho : o.op = .call { callee := .value (.func 21), args := #[], argTypes := #[] })  :
    (execOp a.eval o).run Try.prog w = .ok (.enter 21 #[]) w := by
  unfold execOp
  simp only [ho]
  have hf : a.eval (.func 21) = .func (.func 21) #[] #[] := rfl
  generalize a.eval = f at *
  go_simp
theorem run_load {o : Oper} {a : Act} {w : World} {x0 : Operand} {v0 : Value} (ho : o.op = .call { callee := .value (.func 17), args := #[x0], argTypes := #[23] }) (h0 : a.eval x0 = v0) :
    (execOp a.eval o).run Try.prog w = .ok (.enter 17 #[v0]) w := by
  unfold execOp
  simp only [ho]
  have hf : a.eval (.func 17) = .func (.func 17) #[] #[] := rfl
  generalize a.eval = f at *
  go_simp
theorem run_store {o : Oper} {a : Act} {w : World} {x0 : Operand} {v0 : Value} (ho : o.op = .call { callee := .value (.func 15), args := #[x0], argTypes := #[37] }) (h0 : a.eval x0 = v0) :
    (execOp a.eval o).run Try.prog w = .ok (.enter 15 #[v0]) w := by
  unfold execOp
  simp only [ho]
  have hf : a.eval (.func 15) = .func (.func 15) #[] #[] := rfl
  generalize a.eval = f at *
  go_simp
theorem run_minus {o : Oper} {a : Act} {w : World} {x0 x1 : Operand} {v0 v1 : Value} (ho : o.op = .call { callee := .value (.func 20), args := #[x0, x1], argTypes := #[37, 37] }) (h0 : a.eval x0 = v0) (h1 : a.eval x1 = v1) :
    (execOp a.eval o).run Try.prog w = .ok (.enter 20 #[v0, v1]) w := by
  unfold execOp
  simp only [ho]
  have hf : a.eval (.func 20) = .func (.func 20) #[] #[] := rfl
  generalize a.eval = f at *
  go_simp
theorem run_double {o : Oper} {a : Act} {w : World} {x0 x1 : Operand} {v0 v1 : Value} (ho : o.op = .call { callee := .value (.func 28), args := #[x0, x1], argTypes := #[37, 35] }) (h0 : a.eval x0 = v0) (h1 : a.eval x1 = v1) :
    (execOp a.eval o).run Try.prog w = .ok (.enter 28 #[v0, v1]) w := by
  unfold execOp
  simp only [ho]
  have hf : a.eval (.func 28) = .func (.func 28) #[] #[] := rfl
  generalize a.eval = f at *
  go_simp
theorem run_rest {o : Oper} {a : Act} {w : World} {x0 x1 : Operand} {v0 v1 : Value} (ho : o.op = .call { callee := .value (.func 16), args := #[x0, x1], argTypes := #[37, 37] }) (h0 : a.eval x0 = v0) (h1 : a.eval x1 = v1) :
    (execOp a.eval o).run Try.prog w = .ok (.enter 16 #[v0, v1]) w := by
  unfold execOp
  simp only [ho]
  have hf : a.eval (.func 16) = .func (.func 16) #[] #[] := rfl
  generalize a.eval = f at *
  go_simp
theorem run_product {o : Oper} {a : Act} {w : World} {x0 x1 x2 : Operand} {v0 v1 v2 : Value} (ho : o.op = .call { callee := .value (.func 25), args := #[x0, x1, x2], argTypes := #[37, 37, 37] }) (h0 : a.eval x0 = v0) (h1 : a.eval x1 = v1) (h2 : a.eval x2 = v2) :
    (execOp a.eval o).run Try.prog w = .ok (.enter 25 #[v0, v1, v2]) w := by
  unfold execOp
  simp only [ho]
  have hf : a.eval (.func 25) = .func (.func 25) #[] #[] := rfl
  generalize a.eval = f at *
  go_simp
theorem run_Canon {o : Oper} {a : Act} {w : World} {x0 : Operand} {v0 : Value} (ho : o.op = .call { callee := .value (.func 11), args := #[x0], argTypes := #[23] }) (h0 : a.eval x0 = v0) :
    (execOp a.eval o).run Try.prog w = .ok (.enter 11 #[v0]) w := by
  unfold execOp
  simp only [ho]
  have hf : a.eval (.func 11) = .func (.func 11) #[] #[] := rfl
  generalize a.eval = f at *
  go_simp
theorem run_Wide {o : Oper} {a : Act} {w : World} {x0 : Operand} {v0 : Value} (ho : o.op = .call { callee := .value (.func 8), args := #[x0], argTypes := #[9] }) (h0 : a.eval x0 = v0) :
    (execOp a.eval o).run Try.prog w = .ok (.enter 8 #[v0]) w := by
  unfold execOp
  simp only [ho]
  have hf : a.eval (.func 8) = .func (.func 8) #[] #[] := rfl
  generalize a.eval = f at *
  go_simp
theorem run_Fuse {o : Oper} {a : Act} {w : World} {x0 x1 x2 : Operand} {v0 v1 v2 : Value} (ho : o.op = .call { callee := .value (.func 13), args := #[x0, x1, x2], argTypes := #[23, 23, 23] }) (h0 : a.eval x0 = v0) (h1 : a.eval x1 = v1) (h2 : a.eval x2 = v2) :
    (execOp a.eval o).run Try.prog w = .ok (.enter 13 #[v0, v1, v2]) w := by
  unfold execOp
  simp only [ho]
  have hf : a.eval (.func 13) = .func (.func 13) #[] #[] := rfl
  generalize a.eval = f at *
  go_simp
theorem run_rorder {o : Oper} {a : Act} {w : World} (ho : o.op = .call { callee := .value (.func 24), args := #[], argTypes := #[] })  :
    (execOp a.eval o).run Try.prog w = .ok (.enter 24 #[]) w := by
  unfold execOp
  simp only [ho]
  have hf : a.eval (.func 24) = .func (.func 24) #[] #[] := rfl
  generalize a.eval = f at *
  go_simp
theorem run_rwords {o : Oper} {a : Act} {w : World} {x0 : Operand} {v0 : Value} (ho : o.op = .call { callee := .value (.func 23), args := #[x0], argTypes := #[23] }) (h0 : a.eval x0 = v0) :
    (execOp a.eval o).run Try.prog w = .ok (.enter 23 #[v0]) w := by
  unfold execOp
  simp only [ho]
  have hf : a.eval (.func 23) = .func (.func 23) #[] #[] := rfl
  generalize a.eval = f at *
  go_simp
theorem run_rnum {o : Oper} {a : Act} {w : World} {x0 : Operand} {v0 : Value} (ho : o.op = .call { callee := .value (.func 18), args := #[x0], argTypes := #[36] }) (h0 : a.eval x0 = v0) :
    (execOp a.eval o).run Try.prog w = .ok (.enter 18 #[v0]) w := by
  unfold execOp
  simp only [ho]
  have hf : a.eval (.func 18) = .func (.func 18) #[] #[] := rfl
  generalize a.eval = f at *
  go_simp
theorem run_rbelow {o : Oper} {a : Act} {w : World} {x0 x1 : Operand} {v0 v1 : Value} (ho : o.op = .call { callee := .value (.func 22), args := #[x0, x1], argTypes := #[36, 36] }) (h0 : a.eval x0 = v0) (h1 : a.eval x1 = v1) :
    (execOp a.eval o).run Try.prog w = .ok (.enter 22 #[v0, v1]) w := by
  unfold execOp
  simp only [ho]
  have hf : a.eval (.func 22) = .func (.func 22) #[] #[] := rfl
  generalize a.eval = f at *
  go_simp
theorem run_rrest {o : Oper} {a : Act} {w : World} {x0 : Operand} {v0 : Value} (ho : o.op = .call { callee := .value (.func 19), args := #[x0], argTypes := #[40] }) (h0 : a.eval x0 = v0) :
    (execOp a.eval o).run Try.prog w = .ok (.enter 19 #[v0]) w := by
  unfold execOp
  simp only [ho]
  have hf : a.eval (.func 19) = .func (.func 19) #[] #[] := rfl
  generalize a.eval = f at *
  go_simp
theorem run_rCanon {o : Oper} {a : Act} {w : World} {x0 : Operand} {v0 : Value} (ho : o.op = .call { callee := .value (.func 12), args := #[x0], argTypes := #[23] }) (h0 : a.eval x0 = v0) :
    (execOp a.eval o).run Try.prog w = .ok (.enter 12 #[v0]) w := by
  unfold execOp
  simp only [ho]
  have hf : a.eval (.func 12) = .func (.func 12) #[] #[] := rfl
  generalize a.eval = f at *
  go_simp
theorem run_rWide {o : Oper} {a : Act} {w : World} {x0 : Operand} {v0 : Value} (ho : o.op = .call { callee := .value (.func 9), args := #[x0], argTypes := #[9] }) (h0 : a.eval x0 = v0) :
    (execOp a.eval o).run Try.prog w = .ok (.enter 9 #[v0]) w := by
  unfold execOp
  simp only [ho]
  have hf : a.eval (.func 9) = .func (.func 9) #[] #[] := rfl
  generalize a.eval = f at *
  go_simp
theorem run_rFuse {o : Oper} {a : Act} {w : World} {x0 x1 x2 : Operand} {v0 v1 v2 : Value} (ho : o.op = .call { callee := .value (.func 14), args := #[x0, x1, x2], argTypes := #[23, 23, 23] }) (h0 : a.eval x0 = v0) (h1 : a.eval x1 = v1) (h2 : a.eval x2 = v2) :
    (execOp a.eval o).run Try.prog w = .ok (.enter 14 #[v0, v1, v2]) w := by
  unfold execOp
  simp only [ho]
  have hf : a.eval (.func 14) = .func (.func 14) #[] #[] := rfl
  generalize a.eval = f at *
  go_simp
theorem run_awake {o : Oper} {a : Act} {w : World} (ho : o.op = .call { callee := .value (.func 10), args := #[], argTypes := #[] })  :
    (execOp a.eval o).run Try.prog w = .ok (.enter 10 #[]) w := by
  unfold execOp
  simp only [ho]
  have hf : a.eval (.func 10) = .func (.func 10) #[] #[] := rfl
  generalize a.eval = f at *
  go_simp
theorem run_mul64 {o : Oper} {a : Act} {w : World} {x0 x1 : Operand} {v0 v1 : Value} (ho : o.op = .call { callee := .value (.func 26), args := #[x0, x1], argTypes := #[35, 35] }) (h0 : a.eval x0 = v0) (h1 : a.eval x1 = v1) :
    (execOp a.eval o).run Try.prog w = .ok (.enter 26 #[v0, v1]) w := by
  unfold execOp
  simp only [ho]
  have hf : a.eval (.func 26) = .func (.func 26) #[] #[] := rfl
  generalize a.eval = f at *
  go_simp
/-- bits.Add64, bits.Sub64 as this translation calls them. -/
theorem add64 (x y c : Nat) (hx : x < 18446744073709551616) (hy : y < 18446744073709551616) (hc : c ≤ 1) (w : World) : (callFunc 27 #[.int .u64 x, .int .u64 y, .int .u64 c]).run Try.prog w =
    .ok (.value (.tuple #[.int .u64 (((x + y + c) % 18446744073709551616 : Nat) : Int), .int .u64 (((x + y + c) / 18446744073709551616 : Nat) : Int)])) w := by
  rw [run_callFunc_extern Try.func27 (by kernel_rfl) (by kernel_rfl) (by kernel_rfl) (e := add64Entry) (by kernel_rfl), run_add64 x y c (by omega) (by omega) (by omega) (by omega)]
  simp only [Result.andThen]
  congr 5 <;> omega
theorem sub64 (x y b : Nat) (hb : b ≤ 1) (w : World) : (callFunc 29 #[.int .u64 x, .int .u64 y, .int .u64 b]).run Try.prog w =
    .ok (.value (.tuple #[.int .u64 (((x + 18446744073709551616 - y - b) % 18446744073709551616 : Nat) : Int), .int .u64 ((if x < y + b then 1 else 0 : Nat) : Int)])) w := by
  rw [run_callFunc_extern Try.func29 (by kernel_rfl) (by kernel_rfl) (by kernel_rfl) (e := sub64Entry) (by kernel_rfl), run_sub64 x y b hb]
  rfl
theorem run_sub64o {o : Oper} {a : Act} {w : World} {x0 x1 x2 : Operand} (x y b d c : Nat) (hb : b ≤ 1) (hd : (x + 18446744073709551616 - y - b) % 18446744073709551616 = d) (hc : (if x < y + b then 1 else 0) = c)
    (ho : o.op = .call { callee := .value (.func 29), args := #[x0, x1, x2], argTypes := #[35, 35, 35] }) (h0 : a.eval x0 = .int .u64 (x : Int)) (h1 : a.eval x1 = .int .u64 (y : Int)) (h2 : a.eval x2 = .int .u64 (b : Int)) :
    (execOp a.eval o).run Try.prog w = .ok (.value (.tuple #[.int .u64 (d : Int), .int .u64 (c : Int)])) w := by
  have h := sub64 x y b hb w
  rw [hd, hc] at h
  unfold execOp
  simp only [ho]
  have hf : a.eval (.func 29) = .func (.func 29) #[] #[] := rfl
  generalize a.eval = f at *
  go_simp
theorem run_add64o {o : Oper} {a : Act} {w : World} {x0 x1 x2 : Operand} (x y b d c : Nat) (hx : x < 18446744073709551616) (hy : y < 18446744073709551616) (hb : b ≤ 1) (hd : (x + y + b) % 18446744073709551616 = d) (hc : (x + y + b) / 18446744073709551616 = c)
    (ho : o.op = .call { callee := .value (.func 27), args := #[x0, x1, x2], argTypes := #[35, 35, 35] }) (h0 : a.eval x0 = .int .u64 (x : Int)) (h1 : a.eval x1 = .int .u64 (y : Int)) (h2 : a.eval x2 = .int .u64 (b : Int)) :
    (execOp a.eval o).run Try.prog w = .ok (.value (.tuple #[.int .u64 (d : Int), .int .u64 (c : Int)])) w := by
  have h := add64 x y b hx hy hb w
  rw [hd, hc] at h
  unfold execOp
  simp only [ho]
  have hf : a.eval (.func 27) = .func (.func 27) #[] #[] := rfl
  generalize a.eval = f at *
  go_simp
/-- math/bits.Mul64 of this translation. -/
def mulRen : Go.Shelf.Ren := ⟨fun | 264 => 26 | n => n, fun | 53 => 35 | 46 => 41 | n => n, fun | n => n⟩
theorem mulLays : Go.Proofs.Lays.n264 Try.prog mulRen := {
  mixed := by kernel_rfl
  f264 := Try.func26.trans (congrArg some (by kernel_rfl))
  t46 := Try.underlying41
  a46 := Try.isAgg41
  z46 := Try.sizeOf41
  v46 := Try.zeroValue41
  t53 := Try.underlying35
  a53 := Try.isAgg35
  z53 := Try.sizeOf35
  v53 := Try.zeroValue35 }
theorem mul64 (x y : Nat) (hx : x < 18446744073709551616) (hy : y < 18446744073709551616) (w : World) :
    Calls Try.prog 26 #[.int .u64 x, .int .u64 y] w fun e w' => e = .returned (.tuple #[.int .u64 ((x * y / 18446744073709551616 : Nat) : Int), .int .u64 ((x * y % 18446744073709551616 : Nat) : Int)]) ∧ w = w' :=
  (Any.bits_Mul64 mulLays x y hx hy w).mono fun _ _ h => ⟨h.1, h.2.symm⟩
end Go.Proofs.Ytcemcnbhnedaaaa.Fld
