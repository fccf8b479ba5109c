import Derived.Test.YtnmaaijeamlplaaDoorMem
import Derived.Lib.AppendStr
import Derived.Laws.DeepStrings4
import Derived.Laws.Cover1
import Derived.Laws.BitsLemmas
import Derived.Lib.BufferRead
set_option linter.unusedVariables false
set_option linter.unusedSimpArgs false
namespace Go.Proofs.YtnmaaijeamlplaaDoor.Mem
open Go.RowKit
def tx (l : List UInt8) : ByteArray := ⟨l.toArray⟩
def bl (s : ByteArray) : List UInt8 := s.data.toList
theorem tx_bl (s : ByteArray) : tx (bl s) = s := by simp [tx, bl]
theorem tx_size (l : List UInt8) : (tx l).size = l.length := by simp [tx, ByteArray.size]
theorem tx_app (a b : List UInt8) : tx a ++ tx b = tx (a ++ b) := by
 apply ByteArray.ext
 rw [ByteArray.data_append]
 simp [tx]
theorem tx_get (l : List UInt8) (i : Nat) (h : i < (tx l).size) : (tx l)[i]'h = l[i]'(by rw [tx_size] at h; exact h) := rfl
theorem tx_cut (l : List UInt8) (i j : Nat) : (tx l).extract i j = tx ((l.take j).drop i) := by
 apply ByteArray.ext
 simp [tx, ByteArray.data_extract, List.extract_toArray, List.extract, List.drop_take]
theorem tx_list (l : List UInt8) : (tx l).toList = l := by rw [ByteArray.toList_eq]; simp [tx]
def by' (l : List UInt8) (i : Nat) : Nat := (l.getD i 0).toNat
theorem by_at (l : List UInt8) (i : Nat) (h : i < l.length) : (l[i]'h).toNat = by' l i := by simp [by', h]
theorem by_lt (l : List UInt8) (i : Nat) : by' l i < 256 := (l.getD i 0).toNat_lt
section
variable {P : Program} {o : Oper} {a : Act} {w : World} {x y lo hi : Operand} {T T' : TypeId} {k k' : IntKind}
theorem t_len {l : List UInt8} (ho : o.op = .call { callee := .builtin .len, args := #[x], argTypes := #[T] }) (hT : P.underlying T = some .string) (hx : a.eval x = .string (tx l)) : (execOp a.eval o).run P w = .ok (.value (.int .i64 ((l.length : Nat) : Int))) w := by
 have := Sx.r_len (P := P) (w := w) ho hT hx
 rw [tx_size] at this
 exact this
theorem t_char (l : List UInt8) (i : Nat) (hi : i < l.length) (hT : P.underlying T = some .string) (ho : o.op = .index T x y) (hx : a.eval x = .string (tx l)) (hy : a.eval y = .int k (i : Int)) :
  (execOp a.eval o).run P w = .ok (.value (.int .u8 ((by' l i : Nat) : Int))) w :=
 Sx.r_char i (by' l i) (by rw [tx_size]; exact hi) (by rw [tx_get, by_at]) hT ho hx hy
theorem t_cat (s t : List UInt8) (hst : s.length + t.length ≤ 9223372036854775807) (ho : o.op = .binOp .add T x y T') (hx : a.eval x = .string (tx s)) (hy : a.eval y = .string (tx t)) : (execOp a.eval o).run P w = .ok (.value (.string (tx (s ++ t)))) w := by
 have := Sx.r_cat (P := P) (w := w) (tx s) (tx t) (by rw [tx_size, tx_size]; exact hst) ho hx hy
 rw [tx_app] at this
 exact this
theorem t_cut (s : List UInt8) (i j : Nat) (h1 : i ≤ j) (h2 : j ≤ s.length) (hT : P.underlying T = some .string) (ho : o.op = .slice T x (some lo) (some hi) none) (hx : a.eval x = .string (tx s)) (hl : a.eval lo = .int k (i : Int)) (hh : a.eval hi = .int k' (j : Int)) :
  (execOp a.eval o).run P w = .ok (.value (.string (tx ((s.take j).drop i)))) w := by
 have e := run_slice_string (P := P) (w := w) T (tx s) k k' i j hT (by omega) (by omega) (by rw [tx_size]; omega)
 rw [Int.toNat_natCast, Int.toNat_natCast, tx_cut] at e
 unfold execOp
 simp only [ho, hx, hl, hh, Option.map_some, Option.map_none]
 simp only [Sem.run_bind, Instr.sliceAt, run_underlying hT, Result.andThen_ok, e]
 rfl
theorem t_to (s : List UInt8) (j : Nat) (h1 : j ≤ s.length) (hT : P.underlying T = some .string) (ho : o.op = .slice T x none (some hi) none) (hx : a.eval x = .string (tx s)) (hh : a.eval hi = .int k (j : Int)) :
  (execOp a.eval o).run P w = .ok (.value (.string (tx (s.take j)))) w := by
 have e := run_slice_string_h (P := P) w T (tx s) hT k j (by omega) (by rw [tx_size]; omega)
 rw [Int.toNat_natCast, tx_cut, List.drop_zero] at e
 unfold execOp
 simp only [ho, hx, hh, Option.map_some, Option.map_none]
 simp only [Sem.run_bind, Instr.sliceAt, run_underlying hT, Result.andThen_ok, e]
 rfl
theorem t_eql (s t : List UInt8) (ho : o.op = .binOp .eql T x y T') (hx : a.eval x = .string (tx s)) (hy : a.eval y = .string (tx t)) : (execOp a.eval o).run P w = .ok (.value (.bool (decide (s = t)))) w := by
 have e : ((tx s).toList == (tx t).toList) = decide (s = t) := by rw [tx_list, tx_list, Bool.eq_iff_iff, beq_iff_eq, decide_eq_true_iff]
 unfold execOp
 simp only [ho, hx, hy]
 generalize a.eval = f at *
 go_simp
theorem t_neq (s t : List UInt8) (ho : o.op = .binOp .neq T x y T') (hx : a.eval x = .string (tx s)) (hy : a.eval y = .string (tx t)) : (execOp a.eval o).run P w = .ok (.value (.bool (decide (¬ s = t)))) w := by
 have e : ((tx s).toList == (tx t).toList) = decide (s = t) := by rw [tx_list, tx_list, Bool.eq_iff_iff, beq_iff_eq, decide_eq_true_iff]
 have e2 : ((tx s).toList != (tx t).toList) = decide (¬ s = t) := by unfold bne; rw [e, decide_not]
 unfold execOp
 simp only [ho, hx, hy]
 generalize a.eval = f at *
 go_simp
end
def Rd (W : World) (v : Value) (n size : Nat) (xs : List Value) : Prop :=
 xs.length = n * size ∧ ((n = 0 ∧ ∃ ao c, v = .slice ao 0 c) ∨ ∃ g o c, v = .slice (some ⟨g, o, none⟩) n c ∧ (∀ j u, xs[j]? = some u → W.cell? ⟨g, o + j, none⟩ = some u) ∧ n ≤ c)
section
variable {P : Program} {W W' : World} {v : Value} {n size : Nat} {xs : List Value} {e : TypeId}
theorem Rd.below (h : Rd W v n size xs) (hb : Below W.heap.size W W') : Rd W' v n size xs := by
 refine ⟨h.1, h.2.imp id ?_⟩
 rintro ⟨g, o, c, rfl, hc, hnc⟩
 exact ⟨g, o, c, rfl, fun j u hu => (hb.cell (p := ⟨g, o + j, none⟩) (block_lt_of_cell (hc j u hu))).trans (hc j u hu), hnc⟩
theorem Rd.drew (h : Rd W v n size xs) : Rd W.drew v n size xs := h
theorem Rd.of_row (h : W.ownsRow 0 e size v n xs) : Rd W v n size xs := by
 refine ⟨h.1, ?_⟩
 rcases h.2 with hn | ⟨g, cap, cur, rfl, _, _, hnc, _⟩
 ·exact .inl ⟨hn.2, _, _, hn.1⟩
 refine .inr ⟨g, 0, cap, rfl, fun j u hu => ?_, hnc⟩
 have := h.cells (g := g) rfl j u hu
 rw [add_lit] at this
 exact this
theorem Rd.nil (W : World) (size : Nat) : Rd W (.slice none 0 0) 0 size [] := ⟨by simp, .inl ⟨rfl, _, _, rfl⟩⟩
theorem Rd.form (h : Rd W v n size xs) : ∃ ao c, v = .slice ao n c := by
 rcases h.2 with ⟨rfl, ao, c, rfl⟩ | ⟨g, o, c, rfl, _⟩
 ·exact ⟨_, _, rfl⟩
 exact ⟨_, _, rfl⟩
variable {o : Oper} {a : Act} {x y : Operand} {T : TypeId} {k : IntKind}
theorem s_len (h : Rd W' v n size xs) (ho : o.op = .call { callee := .builtin .len, args := #[x], argTypes := #[T] }) (hT : P.underlying T = some (.slice e)) (hx : a.eval x = v) : (execOp a.eval o).run P W = .ok (.value (.int .i64 (n : Int))) W := by
 obtain ⟨ao, c, rfl⟩ := h.form
 exact Sx.r_lenS ho hT hx
end
theorem r_stringR {P : Program} {o : Oper} {a : Act} {w : World} {x : Operand} {T e T' : TypeId} {v : Value} {n : Nat} (l : List UInt8) (h : Rd w v n 1 (l.map bv)) (hs : P.underlying T = some (.slice e)) (he : P.underlying e = some (.int .u8)) (hd : P.underlying T' = some .string)
  (ho : o.op = .convert T T' x) (hx : a.eval x = v) : (execOp a.eval o).run P w = .ok (.value (.string (tx l))) w := by
 have hn : l.length = n := by have := h.1; simpa using this
 rcases h.2 with ⟨h0, ao, c', rfl⟩ | ⟨g, i, c', rfl, hc, _⟩
 ·have hl : l = [] := List.eq_nil_of_length_eq_zero (by omega)
  subst hl
  cases ao with
  | none =>
   have h1 := Lib.run_convert_nil_bytes (P := P) w T T' e c' hs he hd
   unfold execOp
   simp only [ho, hx]
   simp only [Sem.run_bind, h1]
   rfl
  | some g =>
   have h1 := run_convert_bytes_back (P := P) w T T' e g c' [] hs he hd (fun j hj => absurd hj (Nat.not_lt_zero _))
   rw [List.length_nil] at h1
   unfold execOp
   simp only [ho, hx]
   simp only [Sem.run_bind, h1]
   rfl
 have h1 := run_convert_bytes_back (P := P) w T T' e ⟨g, i, none⟩ c' l hs he hd (fun j hj => by
  rw [add_lit]
  exact hc j _ (by simp [hj, bv]))
 rw [hn] at h1
 unfold execOp
 simp only [ho, hx]
 simp only [Sem.run_bind, h1]
 rfl
section
variable {P : Program} {o : Oper} {a : Act} {w : World} {x y : Operand} {T T' : TypeId} {k yk : IntKind}
theorem z_lss (n m : Int) (ho : o.op = .binOp .lss T x y T') (hx : a.eval x = .int k n) (hy : a.eval y = .int k m) : (execOp a.eval o).run P w = .ok (.value (.bool (decide (n < m)))) w := by
 unfold execOp
 simp only [ho, hx, hy]
 generalize a.eval = f at *
 go_simp
theorem z_gtr (n m : Int) (ho : o.op = .binOp .gtr T x y T') (hx : a.eval x = .int k n) (hy : a.eval y = .int k m) : (execOp a.eval o).run P w = .ok (.value (.bool (decide (m < n)))) w := by
 unfold execOp
 simp only [ho, hx, hy]
 generalize a.eval = f at *
 go_simp
theorem z_leq (n m : Int) (ho : o.op = .binOp .leq T x y T') (hx : a.eval x = .int k n) (hy : a.eval y = .int k m) : (execOp a.eval o).run P w = .ok (.value (.bool (decide (n ≤ m)))) w := by
 unfold execOp
 simp only [ho, hx, hy]
 generalize a.eval = f at *
 go_simp
theorem z_geq (n m : Int) (ho : o.op = .binOp .geq T x y T') (hx : a.eval x = .int k n) (hy : a.eval y = .int k m) : (execOp a.eval o).run P w = .ok (.value (.bool (decide (m ≤ n)))) w := by
 unfold execOp
 simp only [ho, hx, hy]
 generalize a.eval = f at *
 go_simp
theorem z_eql (n m : Int) (ho : o.op = .binOp .eql T x y T') (hx : a.eval x = .int k n) (hy : a.eval y = .int k m) : (execOp a.eval o).run P w = .ok (.value (.bool (decide (n = m)))) w := by
 have e : (n == m) = decide (n = m) := by rw [Bool.eq_iff_iff]; simp
 unfold execOp
 simp only [ho, hx, hy]
 generalize a.eval = f at *
 go_simp
theorem z_neq (n m : Int) (ho : o.op = .binOp .neq T x y T') (hx : a.eval x = .int k n) (hy : a.eval y = .int k m) : (execOp a.eval o).run P w = .ok (.value (.bool (decide (¬ n = m)))) w := by
 have e : (n != m) = decide (¬ n = m) := by rw [Bool.eq_iff_iff]; simp
 unfold execOp
 simp only [ho, hx, hy]
 generalize a.eval = f at *
 go_simp
theorem z_add (n m z : Int) (h : k.wrap (n + m) = z) (ho : o.op = .binOp .add T x y T') (hx : a.eval x = .int k n) (hy : a.eval y = .int k m) : (execOp a.eval o).run P w = .ok (.value (.int k z)) w := by
 unfold execOp
 simp only [ho, hx, hy]
 generalize a.eval = f at *
 go_simp
theorem z_conv {k' : IntKind} (n m : Int) (hs : (P.underlying T).isSome = true) (hd : P.underlying T' = some (.int k')) (hm : k'.wrap n = m) (ho : o.op = .convert T T' x) (hx : a.eval x = .int k n) :
  (execOp a.eval o).run P w = .ok (.value (.int k' m)) w := by
 have hk : P.intKind T' = k' := by unfold Program.intKind; rw [hd]
 have e := run_convert_int (P := P) w T T' k n hs (by rw [hk]; exact hd)
 rw [hk, hm] at e
 unfold execOp
 simp only [ho, hx]
 simp only [Sem.run_bind, e]
 rfl
end
theorem lvb {P : Program} {ops : Array Oper} {Q : Exit → Act → World → Prop} {oi : Oper} {rest : List Oper} {a : Act} {w : World} (d : Tmp) (p : Prop) [Decidable p] (hg : Region.wanted oi (yielded ops a.tmps) = true) (hd : oi.dst = some d) (hrun : (execOp a.eval oi).run P w = .ok (.value (.bool (decide p))) w)
  (h1 : p → wpList P ops Q rest { a with tmps := a.tmps.setIfInBounds d (.bool true) } w) (h2 : ¬ p → wpList P ops Q rest { a with tmps := a.tmps.setIfInBounds d (.bool false) } w) : wpList P ops Q (oi :: rest) a w := by
 refine Sym.lst hg (Sym.w_value d _ hd hrun ?_)
 by_cases h : p
 ·rw [decide_eq_true h]; exact h1 h
 rw [decide_eq_false h]; exact h2 h
theorem Blk.news {w : World} {g : Nat} {c : Array Value} {T : TypeId} (h : Blk w g c T) : ∀ (j : Nat) (u : Value), c.toList[j]? = some u → w.cell? ((⟨g, 0, none⟩ : Addr).add j) = some u := by
 intro j u hu
 rw [add_lit, h.cell, Nat.zero_add]
 simpa using hu
theorem Mm.nilrow {r : Option Nat} {S : Nat → Prop} {w W : World} {l : List Ent} (h : Mm r S w W l) (e : TypeId) (size : Nat) : Mm r S w W (l ++ [.row (.slice none 0 0) 0 [] e size]) :=
 h.more (Below.refl _ _) (World.ownsRow_nil W 0 e size) (fun g hg => by cases (show (Value.slice none 0 0).ownBlock = some g from hg))
theorem Mm.start {S : Nat → Prop} {w : World} {v : Value} {n : Nat} {xs : List Value} {e : TypeId} {size : Nat} (h : w.ownsRow 0 e size v n xs) : Mm v.ownBlock S w w [.row v n xs e size] := by
 refine ⟨fun i x hi => ?_, fun i x g hi hg => ?_, fun i R F g hi => ?_, fun i j x y g hi hj hij => ?_, grown_refl _ _⟩
 ·cases i with
  | zero => simp at hi; subst hi; exact h
  | succ i => simp at hi
 ·cases i with
  | zero => simp at hi; subst hi; exact .inr hg
  | succ i => simp at hi
 ·cases i with
  | zero => simp at hi
  | succ i => simp at hi
 cases i with
 | zero =>
  cases j with
  | zero => exact absurd rfl hij
  | succ j => simp at hj
 | succ i => simp at hi
theorem own_base {W : World} {b : Nat} {v : Value} {n : Nat} {xs : List Value} {e : TypeId} {size : Nat} (h : W.ownsRow 0 e size v n xs) (hb : ∀ g, v.ownBlock = some g → b ≤ g) : W.ownsRow b e size v n xs := by
 refine ⟨h.1, ?_⟩
 rcases h.2 with hn | ⟨g, cap, cur, rfl, _, rest⟩
 ·exact .inl hn
 exact .inr ⟨g, cap, cur, rfl, hb g rfl, rest⟩
theorem Mm.gives {S : Nat → Prop} {w W : World} {l : List Ent} (h : Mm none S w W l) (i : Nat) {v : Value} {n : Nat} {xs : List Value} {e : TypeId} {size : Nat} (hi : l[i]? = some (.row v n xs e size)) : W.ownsRow w.heap.size e size v n xs :=
 own_base (h.row i hi) (fun g hg => (h.low i _ g hi hg).elim id (fun e => by cases e))
theorem Mm.turned {S : Nat → Prop} {w W : World} {v v' : Value} {l : List Ent} (h : Mm v.ownBlock S w W l) {n : Nat} {xs : List Value} {e : TypeId} {size : Nat} (i : Nat) (hi : l[i]? = some (.row v' n xs e size)) : W.ownsRow 0 e size v' n xs ∧ (∀ g, v'.ownBlock = some g → v.ownBlock = some g ∨ w.heap.size ≤ g) :=
 ⟨h.row i hi, fun g hg => (h.low i _ g hi hg).symm⟩
theorem tkb {P : Program} {ops : Array Oper} {Q : Exit → Act → World → Prop} {md : Region.Mode} {S : World → Prop} {oi : Oper} {fuel : Nat} {listed : Array Bool} {a : Act} {w : World} (i : Nat) (d : Tmp) (p : Prop) [Decidable p] (hi : ops[i]? = some oi) (hd : oi.dst = some d)
  (hw : Region.wanted oi (yielded ops a.tmps) = true) (hy : ∀ w, S w → (execOp a.eval oi).run P w = .ok (.value (.bool (decide p))) w) (hS : S w)
  (h1 : p → wpAnyH P md ops Q S fuel (listed.setIfInBounds i true) { a with tmps := a.tmps.setIfInBounds d (.bool true) } w)
  (h2 : ¬ p → wpAnyH P md ops Q S fuel (listed.setIfInBounds i true) { a with tmps := a.tmps.setIfInBounds d (.bool false) } w)
  (hs : Region.noSelect ops = true := by kernel_rfl) (hf : Region.free md ops listed i = true := by kernel_rfl) (hr : (Region.ready md ops listed).contains i = true := by kernel_rfl)
  (hQ : ∀ c a w v, Q (.panic c) (a.put oi.dst v) w → Q (.panic c) a w := by exact fun _ _ _ _ h => h) : wpAnyH P md ops Q S (fuel + 1) listed a w := by
 by_cases h : p
 ·refine Sym.take_at i d (.bool true) hi hd hs hf hr (fun c a w => hQ c a w _) hw (fun w hS' => ?_) hS (h1 h)
  have := hy w hS'
  rw [decide_eq_true h] at this
  exact this
 refine Sym.take_at i d (.bool false) hi hd hs hf hr (fun c a w => hQ c a w _) hw (fun w hS' => ?_) hS (h2 h)
 have := hy w hS'
 rw [decide_eq_false h] at this
 exact this
theorem skx {P : Program} {ops : Array Oper} {Q : Exit → Act → World → Prop} {md : Region.Mode} {S : World → Prop} {oi : Oper} {a : Act} {w : World} {fuel : Nat} {listed : Array Bool} (i : Nat) (d : Tmp) (hi : ops[i]? = some oi) (hd : oi.dst = some d) (hw : Region.wanted oi (yielded ops a.tmps) = false) (hS : S w)
  (h : wpAnyH P md ops Q S fuel (listed.setIfInBounds i true) { a with tmps := a.tmps.setIfInBounds d undef } w)
  (hs : Region.noSelect ops = true := by kernel_rfl) (hf : Region.free md ops listed i = true := by kernel_rfl) (hr : (Region.ready md ops listed).contains i = true := by kernel_rfl)
  (hQ : ∀ c a w, Q (.panic c) (a.put oi.dst undef) w → Q (.panic c) a w := by exact fun _ _ _ h => h) : wpAnyH P md ops Q S (fuel + 1) listed a w :=
 Sym.skip_at i d hi hd hs hf hr hQ hw hS h
theorem Rd.cells {W : World} {g o n c size : Nat} {xs : List Value} (h : Rd W (.slice (some ⟨g, o, none⟩) n c) n size xs) : ∀ (j : Nat) (u : Value), xs[j]? = some u → W.cell? ⟨g, o + j, none⟩ = some u := by
 rcases h.2 with ⟨h1, _⟩ | ⟨g', o', c', h1, hc, _⟩
 ·intro j u hj
  have hl := h.1
  rw [h1, Nat.zero_mul] at hl
  rw [List.eq_nil_of_length_eq_zero hl] at hj
  cases hj
 simp only [Value.slice.injEq, Option.some.injEq, Addr.mk.injEq, and_true, true_and] at h1
 obtain ⟨⟨rfl, rfl⟩, rfl⟩ := h1
 exact hc
theorem res_ct {P : Program} {fn : Func} {p q : Tmp} {ty : TypeId} {tmps : Array Value} {w : World} {g : Nat} {t : TypeId} {cs : Array Value} {d : TypeDesc} {v : Value} (h : fn.results = #[.cell p ty, .tmp q]) (hp : tmps.getD p undef = .pointer (some ⟨g, 0, none⟩)) (hg : Blk w g cs t) (hu : P.underlying ty = some d) (hd : (match d with | .struct _ | .array _ _ => true | _ => false) = true) (hi : (P.info? ty).map (·.size) = some cs.size)
  (hq : tmps.getD q undef = v) : (results fn tmps).run P w = .ok (.tuple #[.agg cs, v]) w := by
 obtain ⟨fz, hg, _⟩ := hg
 have hp' : tmps[p]?.getD undef = .pointer (some ⟨g, 0, none⟩) := by simpa using hp
 have hq' : tmps[q]?.getD undef = v := by simpa using hq
 simp [results, h, hp', hq', asAddr, run_loadVar_row w g t ty cs fz d hg hu hd hi]
theorem own_one {W : World} {b : Nat} {v : Value} {n : Nat} {xs : List Value} {e : TypeId} {size : Nat} (h : W.ownsRow b e size v n xs) : v.oneCell' = true := by
 rcases h.2 with ⟨rfl, _⟩ | ⟨g, cap, cur, rfl, _⟩ <;> rfl
theorem rd_one {W : World} {v : Value} {n size : Nat} {xs : List Value} (h : Rd W v n size xs) : v.oneCell' = true := by
 obtain ⟨ao, c, rfl⟩ := h.form
 rfl
theorem cells_one {v : Value} (h : v.oneCell' = true) : v.cells = #[v] := by
 cases v <;> first | rfl | cases h
theorem Rd.of_blk {W : World} {g : Nat} {c : Array Value} {T : TypeId} {n size cap : Nat} (h : Blk W g c T) (hl : c.size = n * size) (hcap : n ≤ cap) : Rd W (.slice (some ⟨g, 0, none⟩) n cap) n size c.toList :=
 ⟨by simpa using hl, .inr ⟨g, 0, cap, rfl, fun j u hu => by rw [h.cell, Nat.zero_add]; simpa using hu, hcap⟩⟩
def fp (v : Value) (xs : List Value) (g : Nat) : Prop := xs ≠ [] ∧ ∃ o n c, v = .slice (some ⟨g, o, none⟩) n c
theorem cell_same {W W' : World} {g j : Nat} (h : W'.heap[g]? = W.heap[g]?) : W'.cell? ⟨g, j, none⟩ = W.cell? ⟨g, j, none⟩ := by
 unfold World.cell?
 simp only [h]
theorem Seal.rd {W : World} {v : Value} {n size : Nat} {xs : List Value} (h : Rd W v n size xs) : Seal (fun W => Rd W v n size xs) (fp v xs) W := by
 refine ⟨fun g hg => ?_, h, fun W' hW => ⟨h.1, h.2.imp id ?_⟩⟩
 ·obtain ⟨hx, o, n', c, rfl⟩ := hg
  have hn : n ≠ 0 := fun e => hx (List.eq_nil_of_length_eq_zero (by rw [h.1, e, Nat.zero_mul]))
  rcases h.2 with ⟨h0, _⟩ | ⟨g', o', c', e, hc, _⟩
  ·exact absurd h0 hn
  simp only [Value.slice.injEq, Option.some.injEq, Addr.mk.injEq] at e
  obtain ⟨⟨rfl, rfl, _⟩, _⟩ := e
  obtain ⟨u, rest, rfl⟩ := List.exists_cons_of_ne_nil hx
  exact block_lt_of_cell (hc 0 u rfl)
 rintro ⟨g, o, c, rfl, hc, hnc⟩
 refine ⟨g, o, c, rfl, fun j u hu => ?_, hnc⟩
 have hx : xs ≠ [] := fun e => by rw [e] at hu; cases hu
 rw [cell_same (hW g ⟨hx, o, _, _, rfl⟩)]
 exact hc j u hu
theorem fp_own {W : World} {b : Nat} {v : Value} {n : Nat} {xs : List Value} {e : TypeId} {size : Nat} (h : W.ownsRow b e size v n xs) {g : Nat} (hg : fp v xs g) : v.ownBlock = some g := by
 obtain ⟨_, o, n', c, rfl⟩ := hg
 rcases h.2 with ⟨h1, _⟩ | ⟨g', cap, cur, h1, _⟩
 ·cases h1
 simp only [Value.slice.injEq, Option.some.injEq, Addr.mk.injEq] at h1
 obtain ⟨⟨rfl, _⟩, _⟩ := h1
 rfl
theorem Seal.row {W : World} {v : Value} {n : Nat} {xs : List Value} {e : TypeId} {size : Nat} (h : W.ownsRow 0 e size v n xs) : Seal (fun W => Rd W v n size xs) (fp v xs) W := Seal.rd (Rd.of_row h)
section
variable {S : Nat → Prop} {r : Option Nat} {w W : World} {l : List Ent} {v : Value} {n : Nat} {xs : List Value} {e : TypeId} {size : Nat}
theorem Mm.freeze (h : Mm none S w W l) (i : Nat) (hi : l[i]? = some (.row v n xs e size)) : Mm none S w W (l.set i (.see (fun W => Rd W v n size xs) (fp v xs))) := by
 have hr := h.row i hi
 refine h.changeG i hi (o := none) (grown_refl _ _) (fun _ e => by cases e) (Seal.row hr) (fun g hg => .inl (fp_own hr hg)) (fun g hg => hg.elim) (fun R F g e' hg => ?_)
 simp only [Ent.see.injEq] at e'
 obtain ⟨_, rfl⟩ := e'
 exact .inl ((h.low i _ g hi (fp_own hr hg)).elim id (fun e => by cases e))
end
end Go.Proofs.YtnmaaijeamlplaaDoor.Mem
