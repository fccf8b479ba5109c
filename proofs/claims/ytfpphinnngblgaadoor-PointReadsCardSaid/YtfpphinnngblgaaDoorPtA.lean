/- Layer 5: points as four numbers; calls as they stand in regions. -/
import Derived.Test.YtfpphinnngblgaaDoorPt
import Derived.Test.YtfpphinnngblgaaDoorFldK
namespace Go.Proofs.YtfpphinnngblgaaDoor.Fld
open Go.RowKit Go.Lib
open Go.Proofs.YtfpphinnngblgaaDoor.Num (val up val_congr val_add val_lt val_up val_digits val_word)
open Go.Proofs.YtfpphinnngblgaaDoor.Arr Go.Proofs.YtfpphinnngblgaaDoor.Sym Go.Proofs.YtfpphinnngblgaaDoor.Sx

theorem one_u8 : (Tryd.prog.info? 5).map (·.size) = some 1 := by kernel_rfl
theorem some_u8 : (Tryd.prog.underlying 5).isSome = true := by kernel_rfl
theorem some_i64 : (Tryd.prog.underlying 3).isSome = true := by kernel_rfl
theorem some_u : (Tryd.prog.underlying 40).isSome = true := by kernel_rfl
/-- The field's numbers. -/
def fM (x y : Nat) : Nat := x * y % PP
def fA (x y : Nat) : Nat := (x + y) % PP
def fS (x y : Nat) : Nat := (x % PP + (PP - y % PP)) % PP
def fN (x : Nat) : Nat := (PP - x % PP) % PP
def fR (x : Nat) : Nat := x % PP
def fI (x : Nat) : Nat := x ^ (PP - 2) % PP
theorem fM_lt (x y : Nat) : fM x y < PP := Nat.mod_lt _ (by decide)
theorem fA_lt (x y : Nat) : fA x y < PP := Nat.mod_lt _ (by decide)
theorem fS_lt (x y : Nat) : fS x y < PP := Nat.mod_lt _ (by decide)
theorem fN_lt (x : Nat) : fN x < PP := Nat.mod_lt _ (by decide)
theorem fR_lt (x : Nat) : fR x < PP := Nat.mod_lt _ (by decide)
theorem fI_lt (x : Nat) : fI x < PP := Nat.mod_lt _ (by decide)
theorem f_lt {x : Nat} (h : x < PP) : x < MM := Nat.lt_trans h pp_lt
theorem dN_lt : dN < MM := by decide
/-- Points as four numbers. -/
structure Pn where
  x : Nat
  y : Nat
  z : Nat
  t : Nat
structure Pn.ok (p : Pn) : Prop where
  x : p.x < MM
  y : p.y < MM
  z : p.z < MM
  t : p.t < MM
def pq (p : Pn) : Array Value := pt p.x p.y p.z p.t
theorem pq_sz (p : Pn) : (pq p).size = 128 := pt_sz _ _ _ _
theorem pq_one (p : Pn) : (pq p).all (·.oneCell') = true := pt_one _ _ _ _
def zeroP : Pn := ⟨0, 1, 1, 0⟩
def negP (p : Pn) : Pn := ⟨fN p.x, fR p.y, fR p.z, fN p.t⟩
def addP (p q : Pn) : Pn :=
  let a := fM (fS p.y p.x) (fS q.y q.x)
  let b := fM (fA p.y p.x) (fA q.y q.x)
  let c := fM (fM p.t (fA dN dN)) q.t
  let e := fM (fA p.z p.z) q.z
  ⟨fM (fS b a) (fS e c), fM (fA e c) (fA b a), fM (fS e c) (fA e c), fM (fS b a) (fA b a)⟩
theorem zeroP_ok : zeroP.ok := ⟨by decide, by decide, by decide, by decide⟩
theorem negP_ok (p : Pn) : (negP p).ok := ⟨f_lt (fN_lt _), f_lt (fR_lt _), f_lt (fR_lt _), f_lt (fN_lt _)⟩
theorem addP_ok (p q : Pn) : (addP p q).ok := ⟨f_lt (fM_lt _ _), f_lt (fM_lt _ _), f_lt (fM_lt _ _), f_lt (fM_lt _ _)⟩
/-- The same point; on the curve. -/
def sameP (p q : Pn) : Prop := fM p.x q.z = fM q.x p.z ∧ fM p.y q.z = fM q.y p.z
instance (p q : Pn) : Decidable (sameP p q) := inferInstanceAs (Decidable (_ ∧ _))
def onP (p : Pn) : Prop := ¬ fR p.z = 0 ∧ fM p.t p.z = fM p.x p.y ∧ fS (fM p.y p.y) (fM p.x p.x) = fA (fM p.z p.z) (fM dN (fM p.t p.t))
instance (p : Pn) : Decidable (onP p) := inferInstanceAs (Decidable (_ ∧ _ ∧ _))
/-- A point so often as the bits of n from k on say. -/
def timesP (n : Nat) (p : Pn) : Nat → Pn
  | 0 => zeroP
  | k + 1 => if n / 2 ^ (255 - k) % 2 = 1 then addP (addP (timesP n p k) (timesP n p k)) p else addP (timesP n p k) (timesP n p k)
theorem timesP_ok (n : Nat) (p : Pn) : ∀ k, (timesP n p k).ok
  | 0 => zeroP_ok
  | k + 1 => by unfold timesP; split <;> exact addP_ok _ _
theorem run_fCanon {o : Oper} {a : Act} {w : World} {x0 : Operand} {v0 : Value} (ho : o.op = .call { callee := .value (.func 27), args := #[x0], argTypes := #[23] }) (h0 : a.eval x0 = v0) :
    (execOp a.eval o).run Tryd.prog w = .ok (.enter 27 #[v0]) w := by
  unfold execOp
  simp only [ho]
  have hf : a.eval (.func 27) = .func (.func 27) #[] #[] := rfl
  generalize a.eval = f at *
  go_simp
theorem run_fMul {o : Oper} {a : Act} {w : World} {x0 x1 : Operand} {v0 v1 : Value} (ho : o.op = .call { callee := .value (.func 28), args := #[x0, x1], argTypes := #[23, 23] }) (h0 : a.eval x0 = v0) (h1 : a.eval x1 = v1) :
    (execOp a.eval o).run Tryd.prog w = .ok (.enter 28 #[v0, v1]) w := by
  unfold execOp
  simp only [ho]
  have hf : a.eval (.func 28) = .func (.func 28) #[] #[] := rfl
  generalize a.eval = f at *
  go_simp
theorem run_fAdd {o : Oper} {a : Act} {w : World} {x0 x1 : Operand} {v0 v1 : Value} (ho : o.op = .call { callee := .value (.func 29), args := #[x0, x1], argTypes := #[23, 23] }) (h0 : a.eval x0 = v0) (h1 : a.eval x1 = v1) :
    (execOp a.eval o).run Tryd.prog w = .ok (.enter 29 #[v0, v1]) w := by
  unfold execOp
  simp only [ho]
  have hf : a.eval (.func 29) = .func (.func 29) #[] #[] := rfl
  generalize a.eval = f at *
  go_simp
theorem run_fSub {o : Oper} {a : Act} {w : World} {x0 x1 : Operand} {v0 v1 : Value} (ho : o.op = .call { callee := .value (.func 32), args := #[x0, x1], argTypes := #[23, 23] }) (h0 : a.eval x0 = v0) (h1 : a.eval x1 = v1) :
    (execOp a.eval o).run Tryd.prog w = .ok (.enter 32 #[v0, v1]) w := by
  unfold execOp
  simp only [ho]
  have hf : a.eval (.func 32) = .func (.func 32) #[] #[] := rfl
  generalize a.eval = f at *
  go_simp
theorem run_fNeg {o : Oper} {a : Act} {w : World} {x0 : Operand} {v0 : Value} (ho : o.op = .call { callee := .value (.func 34), args := #[x0], argTypes := #[23] }) (h0 : a.eval x0 = v0) :
    (execOp a.eval o).run Tryd.prog w = .ok (.enter 34 #[v0]) w := by
  unfold execOp
  simp only [ho]
  have hf : a.eval (.func 34) = .func (.func 34) #[] #[] := rfl
  generalize a.eval = f at *
  go_simp
theorem run_fReduce {o : Oper} {a : Act} {w : World} {x0 : Operand} {v0 : Value} (ho : o.op = .call { callee := .value (.func 43), args := #[x0], argTypes := #[23] }) (h0 : a.eval x0 = v0) :
    (execOp a.eval o).run Tryd.prog w = .ok (.enter 43 #[v0]) w := by
  unfold execOp
  simp only [ho]
  have hf : a.eval (.func 43) = .func (.func 43) #[] #[] := rfl
  generalize a.eval = f at *
  go_simp
theorem run_fInv {o : Oper} {a : Act} {w : World} {x0 : Operand} {v0 : Value} (ho : o.op = .call { callee := .value (.func 33), args := #[x0], argTypes := #[23] }) (h0 : a.eval x0 = v0) :
    (execOp a.eval o).run Tryd.prog w = .ok (.enter 33 #[v0]) w := by
  unfold execOp
  simp only [ho]
  have hf : a.eval (.func 33) = .func (.func 33) #[] #[] := rfl
  generalize a.eval = f at *
  go_simp
theorem run_fRoot {o : Oper} {a : Act} {w : World} {x0 : Operand} {v0 : Value} (ho : o.op = .call { callee := .value (.func 31), args := #[x0], argTypes := #[23] }) (h0 : a.eval x0 = v0) :
    (execOp a.eval o).run Tryd.prog w = .ok (.enter 31 #[v0]) w := by
  unfold execOp
  simp only [ho]
  have hf : a.eval (.func 31) = .func (.func 31) #[] #[] := rfl
  generalize a.eval = f at *
  go_simp
theorem run_gCanon {o : Oper} {a : Act} {w : World} {x0 : Operand} {v0 : Value} (ho : o.op = .call { callee := .value (.func 35), args := #[x0], argTypes := #[23] }) (h0 : a.eval x0 = v0) :
    (execOp a.eval o).run Tryd.prog w = .ok (.enter 35 #[v0]) w := by
  unfold execOp
  simp only [ho]
  have hf : a.eval (.func 35) = .func (.func 35) #[] #[] := rfl
  generalize a.eval = f at *
  go_simp
theorem run_gMul {o : Oper} {a : Act} {w : World} {x0 x1 : Operand} {v0 v1 : Value} (ho : o.op = .call { callee := .value (.func 36), args := #[x0, x1], argTypes := #[23, 23] }) (h0 : a.eval x0 = v0) (h1 : a.eval x1 = v1) :
    (execOp a.eval o).run Tryd.prog w = .ok (.enter 36 #[v0, v1]) w := by
  unfold execOp
  simp only [ho]
  have hf : a.eval (.func 36) = .func (.func 36) #[] #[] := rfl
  generalize a.eval = f at *
  go_simp
theorem run_gAdd {o : Oper} {a : Act} {w : World} {x0 x1 : Operand} {v0 v1 : Value} (ho : o.op = .call { callee := .value (.func 38), args := #[x0, x1], argTypes := #[23, 23] }) (h0 : a.eval x0 = v0) (h1 : a.eval x1 = v1) :
    (execOp a.eval o).run Tryd.prog w = .ok (.enter 38 #[v0, v1]) w := by
  unfold execOp
  simp only [ho]
  have hf : a.eval (.func 38) = .func (.func 38) #[] #[] := rfl
  generalize a.eval = f at *
  go_simp
theorem run_gSub {o : Oper} {a : Act} {w : World} {x0 x1 : Operand} {v0 v1 : Value} (ho : o.op = .call { callee := .value (.func 37), args := #[x0, x1], argTypes := #[23, 23] }) (h0 : a.eval x0 = v0) (h1 : a.eval x1 = v1) :
    (execOp a.eval o).run Tryd.prog w = .ok (.enter 37 #[v0, v1]) w := by
  unfold execOp
  simp only [ho]
  have hf : a.eval (.func 37) = .func (.func 37) #[] #[] := rfl
  generalize a.eval = f at *
  go_simp
theorem run_gNeg {o : Oper} {a : Act} {w : World} {x0 : Operand} {v0 : Value} (ho : o.op = .call { callee := .value (.func 42), args := #[x0], argTypes := #[23] }) (h0 : a.eval x0 = v0) :
    (execOp a.eval o).run Tryd.prog w = .ok (.enter 42 #[v0]) w := by
  unfold execOp
  simp only [ho]
  have hf : a.eval (.func 42) = .func (.func 42) #[] #[] := rfl
  generalize a.eval = f at *
  go_simp
theorem run_gReduce {o : Oper} {a : Act} {w : World} {x0 : Operand} {v0 : Value} (ho : o.op = .call { callee := .value (.func 44), args := #[x0], argTypes := #[23] }) (h0 : a.eval x0 = v0) :
    (execOp a.eval o).run Tryd.prog w = .ok (.enter 44 #[v0]) w := by
  unfold execOp
  simp only [ho]
  have hf : a.eval (.func 44) = .func (.func 44) #[] #[] := rfl
  generalize a.eval = f at *
  go_simp
theorem run_gInv {o : Oper} {a : Act} {w : World} {x0 : Operand} {v0 : Value} (ho : o.op = .call { callee := .value (.func 41), args := #[x0], argTypes := #[23] }) (h0 : a.eval x0 = v0) :
    (execOp a.eval o).run Tryd.prog w = .ok (.enter 41 #[v0]) w := by
  unfold execOp
  simp only [ho]
  have hf : a.eval (.func 41) = .func (.func 41) #[] #[] := rfl
  generalize a.eval = f at *
  go_simp
theorem run_gRoot {o : Oper} {a : Act} {w : World} {x0 : Operand} {v0 : Value} (ho : o.op = .call { callee := .value (.func 40), args := #[x0], argTypes := #[23] }) (h0 : a.eval x0 = v0) :
    (execOp a.eval o).run Tryd.prog w = .ok (.enter 40 #[v0]) w := by
  unfold execOp
  simp only [ho]
  have hf : a.eval (.func 40) = .func (.func 40) #[] #[] := rfl
  generalize a.eval = f at *
  go_simp
theorem run_pZero {o : Oper} {a : Act} {w : World} (ho : o.op = .call { callee := .value (.func 25), args := #[], argTypes := #[] })  :
    (execOp a.eval o).run Tryd.prog w = .ok (.enter 25 #[]) w := by
  unfold execOp
  simp only [ho]
  have hf : a.eval (.func 25) = .func (.func 25) #[] #[] := rfl
  generalize a.eval = f at *
  go_simp
theorem run_pOn {o : Oper} {a : Act} {w : World} {x0 : Operand} {v0 : Value} (ho : o.op = .call { callee := .value (.func 13), args := #[x0], argTypes := #[25] }) (h0 : a.eval x0 = v0) :
    (execOp a.eval o).run Tryd.prog w = .ok (.enter 13 #[v0]) w := by
  unfold execOp
  simp only [ho]
  have hf : a.eval (.func 13) = .func (.func 13) #[] #[] := rfl
  generalize a.eval = f at *
  go_simp
theorem run_pSame {o : Oper} {a : Act} {w : World} {x0 x1 : Operand} {v0 v1 : Value} (ho : o.op = .call { callee := .value (.func 21), args := #[x0, x1], argTypes := #[25, 25] }) (h0 : a.eval x0 = v0) (h1 : a.eval x1 = v1) :
    (execOp a.eval o).run Tryd.prog w = .ok (.enter 21 #[v0, v1]) w := by
  unfold execOp
  simp only [ho]
  have hf : a.eval (.func 21) = .func (.func 21) #[] #[] := rfl
  generalize a.eval = f at *
  go_simp
theorem run_pAdd {o : Oper} {a : Act} {w : World} {x0 x1 : Operand} {v0 v1 : Value} (ho : o.op = .call { callee := .value (.func 19), args := #[x0, x1], argTypes := #[25, 25] }) (h0 : a.eval x0 = v0) (h1 : a.eval x1 = v1) :
    (execOp a.eval o).run Tryd.prog w = .ok (.enter 19 #[v0, v1]) w := by
  unfold execOp
  simp only [ho]
  have hf : a.eval (.func 19) = .func (.func 19) #[] #[] := rfl
  generalize a.eval = f at *
  go_simp
theorem run_pNeg {o : Oper} {a : Act} {w : World} {x0 : Operand} {v0 : Value} (ho : o.op = .call { callee := .value (.func 17), args := #[x0], argTypes := #[25] }) (h0 : a.eval x0 = v0) :
    (execOp a.eval o).run Tryd.prog w = .ok (.enter 17 #[v0]) w := by
  unfold execOp
  simp only [ho]
  have hf : a.eval (.func 17) = .func (.func 17) #[] #[] := rfl
  generalize a.eval = f at *
  go_simp
theorem run_pTimes {o : Oper} {a : Act} {w : World} {x0 x1 : Operand} {v0 v1 : Value} (ho : o.op = .call { callee := .value (.func 23), args := #[x0, x1], argTypes := #[23, 25] }) (h0 : a.eval x0 = v0) (h1 : a.eval x1 = v1) :
    (execOp a.eval o).run Tryd.prog w = .ok (.enter 23 #[v0, v1]) w := by
  unfold execOp
  simp only [ho]
  have hf : a.eval (.func 23) = .func (.func 23) #[] #[] := rfl
  generalize a.eval = f at *
  go_simp
theorem run_pPack {o : Oper} {a : Act} {w : World} {x0 : Operand} {v0 : Value} (ho : o.op = .call { callee := .value (.func 14), args := #[x0], argTypes := #[25] }) (h0 : a.eval x0 = v0) :
    (execOp a.eval o).run Tryd.prog w = .ok (.enter 14 #[v0]) w := by
  unfold execOp
  simp only [ho]
  have hf : a.eval (.func 14) = .func (.func 14) #[] #[] := rfl
  generalize a.eval = f at *
  go_simp
theorem run_pUnpack {o : Oper} {a : Act} {w : World} {x0 : Operand} {v0 : Value} (ho : o.op = .call { callee := .value (.func 10), args := #[x0], argTypes := #[9] }) (h0 : a.eval x0 = v0) :
    (execOp a.eval o).run Tryd.prog w = .ok (.enter 10 #[v0]) w := by
  unfold execOp
  simp only [ho]
  have hf : a.eval (.func 10) = .func (.func 10) #[] #[] := rfl
  generalize a.eval = f at *
  go_simp
theorem run_qZero {o : Oper} {a : Act} {w : World} (ho : o.op = .call { callee := .value (.func 45), args := #[], argTypes := #[] })  :
    (execOp a.eval o).run Tryd.prog w = .ok (.enter 45 #[]) w := by
  unfold execOp
  simp only [ho]
  have hf : a.eval (.func 45) = .func (.func 45) #[] #[] := rfl
  generalize a.eval = f at *
  go_simp
theorem run_qOn {o : Oper} {a : Act} {w : World} {x0 : Operand} {v0 : Value} (ho : o.op = .call { callee := .value (.func 15), args := #[x0], argTypes := #[25] }) (h0 : a.eval x0 = v0) :
    (execOp a.eval o).run Tryd.prog w = .ok (.enter 15 #[v0]) w := by
  unfold execOp
  simp only [ho]
  have hf : a.eval (.func 15) = .func (.func 15) #[] #[] := rfl
  generalize a.eval = f at *
  go_simp
theorem run_qSame {o : Oper} {a : Act} {w : World} {x0 x1 : Operand} {v0 v1 : Value} (ho : o.op = .call { callee := .value (.func 22), args := #[x0, x1], argTypes := #[25, 25] }) (h0 : a.eval x0 = v0) (h1 : a.eval x1 = v1) :
    (execOp a.eval o).run Tryd.prog w = .ok (.enter 22 #[v0, v1]) w := by
  unfold execOp
  simp only [ho]
  have hf : a.eval (.func 22) = .func (.func 22) #[] #[] := rfl
  generalize a.eval = f at *
  go_simp
theorem run_qAdd {o : Oper} {a : Act} {w : World} {x0 x1 : Operand} {v0 v1 : Value} (ho : o.op = .call { callee := .value (.func 20), args := #[x0, x1], argTypes := #[25, 25] }) (h0 : a.eval x0 = v0) (h1 : a.eval x1 = v1) :
    (execOp a.eval o).run Tryd.prog w = .ok (.enter 20 #[v0, v1]) w := by
  unfold execOp
  simp only [ho]
  have hf : a.eval (.func 20) = .func (.func 20) #[] #[] := rfl
  generalize a.eval = f at *
  go_simp
theorem run_qNeg {o : Oper} {a : Act} {w : World} {x0 : Operand} {v0 : Value} (ho : o.op = .call { callee := .value (.func 18), args := #[x0], argTypes := #[25] }) (h0 : a.eval x0 = v0) :
    (execOp a.eval o).run Tryd.prog w = .ok (.enter 18 #[v0]) w := by
  unfold execOp
  simp only [ho]
  have hf : a.eval (.func 18) = .func (.func 18) #[] #[] := rfl
  generalize a.eval = f at *
  go_simp
theorem run_qTimes {o : Oper} {a : Act} {w : World} {x0 x1 : Operand} {v0 v1 : Value} (ho : o.op = .call { callee := .value (.func 24), args := #[x0, x1], argTypes := #[23, 25] }) (h0 : a.eval x0 = v0) (h1 : a.eval x1 = v1) :
    (execOp a.eval o).run Tryd.prog w = .ok (.enter 24 #[v0, v1]) w := by
  unfold execOp
  simp only [ho]
  have hf : a.eval (.func 24) = .func (.func 24) #[] #[] := rfl
  generalize a.eval = f at *
  go_simp
theorem run_qPack {o : Oper} {a : Act} {w : World} {x0 : Operand} {v0 : Value} (ho : o.op = .call { callee := .value (.func 16), args := #[x0], argTypes := #[25] }) (h0 : a.eval x0 = v0) :
    (execOp a.eval o).run Tryd.prog w = .ok (.enter 16 #[v0]) w := by
  unfold execOp
  simp only [ho]
  have hf : a.eval (.func 16) = .func (.func 16) #[] #[] := rfl
  generalize a.eval = f at *
  go_simp
theorem run_qUnpack {o : Oper} {a : Act} {w : World} {x0 : Operand} {v0 : Value} (ho : o.op = .call { callee := .value (.func 11), args := #[x0], argTypes := #[9] }) (h0 : a.eval x0 = v0) :
    (execOp a.eval o).run Tryd.prog w = .ok (.enter 11 #[v0]) w := by
  unfold execOp
  simp only [ho]
  have hf : a.eval (.func 11) = .func (.func 11) #[] #[] := rfl
  generalize a.eval = f at *
  go_simp
theorem run_pone {o : Oper} {a : Act} {w : World} (ho : o.op = .call { callee := .value (.func 30), args := #[], argTypes := #[] })  :
    (execOp a.eval o).run Tryd.prog w = .ok (.enter 30 #[]) w := by
  unfold execOp
  simp only [ho]
  have hf : a.eval (.func 30) = .func (.func 30) #[] #[] := rfl
  generalize a.eval = f at *
  go_simp
theorem run_factor {o : Oper} {a : Act} {w : World} (ho : o.op = .call { callee := .value (.func 39), args := #[], argTypes := #[] })  :
    (execOp a.eval o).run Tryd.prog w = .ok (.enter 39 #[]) w := by
  unfold execOp
  simp only [ho]
  have hf : a.eval (.func 39) = .func (.func 39) #[] #[] := rfl
  generalize a.eval = f at *
  go_simp
theorem run_Base {o : Oper} {a : Act} {w : World} (ho : o.op = .call { callee := .value (.func 26), args := #[], argTypes := #[] })  :
    (execOp a.eval o).run Tryd.prog w = .ok (.enter 26 #[]) w := by
  unfold execOp
  simp only [ho]
  have hf : a.eval (.func 26) = .func (.func 26) #[] #[] := rfl
  generalize a.eval = f at *
  go_simp
theorem run_awake5 {o : Oper} {a : Act} {w : World} (ho : o.op = .call { callee := .value (.func 12), args := #[], argTypes := #[] })  :
    (execOp a.eval o).run Tryd.prog w = .ok (.enter 12 #[]) w := by
  unfold execOp
  simp only [ho]
  have hf : a.eval (.func 12) = .func (.func 12) #[] #[] := rfl
  generalize a.eval = f at *
  go_simp
theorem mul_f (a b : Nat) (ha : a < MM) (hb : b < MM) (w : World) : Calls Tryd.prog 28 #[.agg (bs a), .agg (bs b)] w (fun e w' => e = .returned (.agg (bs (fM a b))) ∧ Below w.heap.size w w') := mul_any a b ha hb w
theorem add_f (a b : Nat) (ha : a < MM) (hb : b < MM) (w : World) : Calls Tryd.prog 29 #[.agg (bs a), .agg (bs b)] w (fun e w' => e = .returned (.agg (bs (fA a b))) ∧ Below w.heap.size w w') := add_any a b ha hb w
theorem sub_f (a b : Nat) (ha : a < MM) (hb : b < MM) (w : World) : Calls Tryd.prog 32 #[.agg (bs a), .agg (bs b)] w (fun e w' => e = .returned (.agg (bs (fS a b))) ∧ Below w.heap.size w w') := sub_any a b ha hb w
theorem neg_f (a : Nat) (ha : a < MM) (w : World) : Calls Tryd.prog 34 #[.agg (bs a)] w (fun e w' => e = .returned (.agg (bs (fN a))) ∧ Below w.heap.size w w') := neg_any a ha w
theorem reduce_f (a : Nat) (ha : a < MM) (w : World) : Calls Tryd.prog 43 #[.agg (bs a)] w (fun e w' => e = .returned (.agg (bs (fR a))) ∧ Below w.heap.size w w') := reduce_any a ha w
theorem inv_f (a : Nat) (ha : a < MM) (w : World) : Calls Tryd.prog 33 #[.agg (bs a)] w (fun e w' => e = .returned (.agg (bs (fI a))) ∧ Below w.heap.size w w') := inv_any a ha w
theorem run_eqlM {o : Oper} {a : Act} {w : World} {x y : Operand} (m n : Nat) (hm : m < MM) (hn : n < MM) (c : Bool) (hc : decide (m = n) = c) (ho : o.op = .binOp .eql 23 x y 23) (hx : a.eval x = .agg (bs m)) (hy : a.eval y = .agg (bs n)) :
    (execOp a.eval o).run Tryd.prog w = .ok (.value (.bool c)) w := run_eqN m n hm hn c hc ho hx hy
theorem run_neqM {o : Oper} {a : Act} {w : World} {x y : Operand} (m n : Nat) (hm : m < MM) (hn : n < MM) (c : Bool) (hc : decide (¬ m = n) = c) (ho : o.op = .binOp .neq 23 x y 23) (hx : a.eval x = .agg (bs m)) (hy : a.eval y = .agg (bs n)) :
    (execOp a.eval o).run Tryd.prog w = .ok (.value (.bool c)) w := by
  have e := run_equal_rows (P := Tryd.prog) w 9998 23 5 .u8 32 Tryd.underlying23 Tryd.underlying5 size5 (bt m) (bt n)
  have hc2 : decide (m = n) = !c := by rw [← hc, decide_not, Bool.not_not]
  rw [all_b m n hm hn, hc2] at e
  have e' : (Op.equalIn 10000 23 (.agg (bs m)) (.agg (bs n))).run Tryd.prog w = .ok (!c) w := e
  clear e
  unfold execOp
  simp only [ho, hx, hy]
  generalize a.eval = f at *
  go_simp
end Go.Proofs.YtfpphinnngblgaaDoor.Fld
