import Derived.Test.YtnmaaijeamlplaaDoorTxt
import Derived.Test.YtnmaaijeamlplaaDoorSkp
import Derived.Laws.OwnMore
set_option linter.unusedVariables false
set_option linter.unusedSimpArgs false
namespace Go.Proofs.YtnmaaijeamlplaaDoor.Mem
open Go.RowKit
def eS (s : List UInt8) : List Value := [.string (tx s)]
def eI (n : Int) : List Value := [.int .i64 n]
def eB (b : UInt8) : List Value := [bv b]
def Rs {α : Type} (enc : α → List Value) (size : Nat) (l : List α) (v : Value) (W : World) : Prop := Rd W v l.length size (l.flatMap enc)
theorem flat_len {α : Type} {enc : α → List Value} {size : Nat} (h : ∀ x, (enc x).length = size) : ∀ l : List α, (l.flatMap enc).length = l.length * size
 | [] => by simp
 | x :: l => by rw [List.flatMap_cons, List.length_append, h, flat_len h l, List.length_cons, Nat.add_mul, Nat.one_mul, Nat.add_comm]
theorem flat_at {α : Type} {enc : α → List Value} {size : Nat} (h : ∀ x, (enc x).length = size) (d : α) : ∀ (l : List α) (i j : Nat) (u : Value), i < l.length → (enc (l.getD i d))[j]? = some u → (l.flatMap enc)[i * size + j]? = some u
 | [], _, _, _, hi, _ => by simp at hi
 | x :: l, 0, j, u, _, hu => by
  have hj : j < (enc x).length := (List.getElem?_eq_some_iff.1 hu).1
  rw [List.flatMap_cons, Nat.zero_mul, Nat.zero_add, List.getElem?_append_left hj]
  exact hu
 | x :: l, i + 1, j, u, hi, hu => by
  rw [List.flatMap_cons, List.getElem?_append_right (by rw [h, Nat.add_mul]; omega), h, show (i + 1) * size + j - size = i * size + j by rw [Nat.add_mul]; omega]
  exact flat_at h d l i j u (by simpa using hi) (by simpa using hu)
theorem flat_set1 {α : Type} {enc : α → List Value} (h : ∀ x, (enc x).length = 1) (y : α) (u : Value) (hu : enc y = [u]) : ∀ (l : List α) (i : Nat), (l.set i y).flatMap enc = (l.flatMap enc).set i u
 | [], _ => by simp
 | x :: l, 0 => by
  obtain ⟨a, ha⟩ := List.length_eq_one_iff.1 (h x)
  simp [hu, ha]
 | x :: l, i + 1 => by
  obtain ⟨a, ha⟩ := List.length_eq_one_iff.1 (h x)
  simp only [List.set_cons_succ, List.flatMap_cons, ha, List.cons_append, List.nil_append]
  rw [flat_set1 h y u hu l i]
theorem arr_get {l : List Value} {j : Nat} {u : Value} (h : l.toArray[j]? = some u) : l[j]? = some u := by simpa using h
theorem eB_map (l : List UInt8) : l.flatMap eB = l.map bv := by
 induction l with
 | nil => rfl
 | cons a l ih => rw [List.flatMap_cons, ih]; rfl
theorem eS_len (x : List UInt8) : (eS x).length = 1 := rfl
theorem eB_len (x : UInt8) : (eB x).length = 1 := rfl
theorem eS_one (x : List UInt8) : ∀ u ∈ eS x, u.oneCell' = true := by intro u hu; simp only [eS, List.mem_singleton] at hu; subst hu; rfl
theorem flat_one {α : Type} {enc : α → List Value} (h : ∀ x, ∀ u ∈ enc x, u.oneCell' = true) (l : List α) : ∀ u ∈ l.flatMap enc, u.oneCell' = true := by
 intro u hu
 obtain ⟨x, _, hx⟩ := List.mem_flatMap.1 hu
 exact h x u hx
def bk : Value → Nat
 | .slice (some a) _ _ => a.block
 | _ => 0
def po : Value → Nat
 | .slice (some ⟨_, o, _⟩) _ _ => o
 | _ => 0
def ca : Value → Nat
 | .slice _ _ c => c
 | _ => 0
abbrev Pp (g o : Nat) : Value := .pointer (some ⟨g, o, none⟩)
abbrev Sl (g o n c : Nat) : Value := .slice (some ⟨g, o, none⟩) n c
abbrev wn := @wpList_nil
abbrev wk := @wp_seq_k
abbrev wq := @wp_region_lit
theorem a4 {a b c d : Value} (h1 : a.oneCell' = true := by first | rfl | assumption) (h2 : b.oneCell' = true := by first | rfl | assumption) (h3 : c.oneCell' = true := by first | rfl | assumption) (h4 : d.oneCell' = true := by first | rfl | assumption) : (Value.agg #[a, b, c, d]).cells.all (·.oneCell') = true := by
 rw [Array.all_eq_true_iff_forall_mem]; intro x hx; simp only [Value.cells, List.mem_toArray, List.mem_cons, List.not_mem_nil, or_false] at hx; rcases hx with rfl | rfl | rfl | rfl <;> assumption
abbrev J (z : Int) : Value := Value.int .i64 z
section
variable {W : World} {v : Value} {n size : Nat} {xs : List Value} {e : TypeId}
theorem Rd.lies (h : Rd W v n size xs) (hn : 0 < n) : v = .slice (some ⟨bk v, po v, none⟩) n (ca v) := by
 rcases h.2 with ⟨rfl, _⟩ | ⟨g, o, c, rfl, _⟩
 ·omega
 rfl
theorem Rd.cellz (h : Rd W v n size xs) (j : Nat) (u : Value) (hj : xs[j]? = some u) : W.cell? ⟨bk v, po v + j, none⟩ = some u := by
 rcases h.2 with ⟨h1, _⟩ | ⟨g, o, c, rfl, hc, _⟩
 ·have hl := h.1
  rw [h1, Nat.zero_mul] at hl
  rw [List.eq_nil_of_length_eq_zero hl] at hj
  cases hj
 exact hc j u hj
theorem row_lies (h : W.ownsRow 0 e size v n xs) (hn : 0 < n) : v = .slice (some ⟨bk v, 0, none⟩) n (ca v) ∧ po v = 0 ∧ v.ownBlock = some (bk v) := by
 rcases h.2 with ⟨_, rfl⟩ | ⟨g, cap, cur, rfl, _⟩
 ·omega
 exact ⟨rfl, rfl, rfl⟩
end
section
variable {α : Type} {enc : α → List Value} {size : Nat} {l : List α} {v : Value} {W : World}
theorem Rs.cell (h : Rs enc size l v W) (hl : ∀ x, (enc x).length = size) (d : α) (i : Nat) (hi : i < l.length) (j : Nat) (u : Value) (hu : (enc (l.getD i d))[j]? = some u) : W.cell? ⟨bk v, po v + i * size + j, none⟩ = some u := by
 rw [Nat.add_assoc]
 exact Rd.cellz h _ u (flat_at hl d l i j u hi hu)
theorem Rs.nil (enc : α → List Value) (size : Nat) (W : World) : Rs enc size [] (.slice none 0 0) W := Rd.nil W size
theorem Rs.row {e : TypeId} (h : W.ownsRow 0 e size v l.length (l.flatMap enc)) : Rs enc size l v W := Rd.of_row h
theorem Rs.blk {g : Nat} {c : Array Value} {T : TypeId} {n cap : Nat} (h : Blk W g c T) (hc : c.toList = l.flatMap enc) (hn : n = l.length) (hl : ∀ x, (enc x).length = size) (hcap : n ≤ cap := by omega) : Rs enc size l (.slice (some ⟨g, 0, none⟩) n cap) W := by
 subst hn
 unfold Rs
 rw [← hc]
 exact Rd.of_blk h (by rw [← Array.length_toList, hc, flat_len hl]) hcap
end
def From (S : Nat → Prop) (R : World → Prop) (W : World) : Prop := ∃ F, Seal R F W ∧ ∀ g, F g → S g
def seeS (l : List Ent) (g : Nat) : Prop := ∃ (i : Nat) (R : World → Prop) (F : Nat → Prop), l[i]? = some (.see R F) ∧ F g
section
variable {S : Nat → Prop} {R R' : World → Prop} {W W' w : World} {r : Option Nat} {l : List Ent}
theorem From.out (h : From S R W) : R W := by obtain ⟨F, h1, _⟩ := h; exact h1.out
theorem From.mono (h : From S R W) (f : ∀ W, R W → R' W) : From S R' W := by obtain ⟨F, h1, h2⟩ := h; exact ⟨F, h1.mono f, h2⟩
theorem From.and (h : From S R W) (k : From S R' W) : From S (fun W => R W ∧ R' W) W := by
 obtain ⟨F, h1, h2⟩ := h
 obtain ⟨F', k1, k2⟩ := k
 exact ⟨_, h1.and k1, fun g hg => hg.elim (h2 g) (k2 g)⟩
theorem From.pure {p : World → Prop} (h : ∀ W, p W) : From S p W := ⟨fun _ => False, ⟨fun _ h => h.elim, h W, fun W' _ => h W'⟩, fun _ h => h.elim⟩
theorem Mm.from (h : Mm r S w W l) (i : Nat) {F : Nat → Prop} (hi : l[i]? = some (.see R F)) : From (seeS l) R W := ⟨F, h.seal i hi, fun _ hg => ⟨i, R, F, hi, hg⟩⟩
theorem Mm.come (h : Mm none S w w l) (hf : From S R w) : ∃ F, Mm none S w w (l ++ [.see R F]) := by
 obtain ⟨F, h1, h2⟩ := hf
 exact ⟨F, h.came h1 h2⟩
theorem Mm.tookS (h : Mm r S w W l) (hb : Below W.heap.size W W') (hg : Gives W W' (seeS l) R) : ∃ F, Mm r S w W' (l ++ [.see R F]) :=
 h.took hb hg (fun _ h => h)
theorem Mm.derive (h : Mm r S w W l) (hf : From (seeS l) R W) : ∃ F, Mm r S w W (l ++ [.see R F]) := by
 obtain ⟨F, h1, h2⟩ := hf
 exact h.tookS (Below.refl _ _) ⟨F, h1, fun g hg => .inr (h2 g hg)⟩
theorem Rs.all {α : Type} {enc : α → List Value} {size : Nat} {x : List α} {v : Value} (h : Rs enc size x v W) : From (fun _ => True) (Rs enc size x v) W := ⟨_, Seal.rd h, fun _ _ => trivial⟩
theorem Mm.add (h : Mm r S w W l) {x : Ent} (hx : x.ok W) (hn : ∀ g, x.own g → w.heap.size ≤ g) (hu : ∀ g, x.uses g → ∀ (i : Nat) (y : Ent), l[i]? = some y → ¬ y.own g) (hv : ∀ g, x.own g → ∀ (i : Nat) (y : Ent), l[i]? = some y → ¬ y.uses g)
  (hs : ∀ R F g, x = .see R F → F g → w.heap.size ≤ g ∨ S g) : Mm r S w W (l ++ [x]) := by
 refine ⟨fun i y hi => ?_, fun i y g hi hg => ?_, fun i R F g hi hg => ?_, fun i j y z g hi hj hij hg hz => ?_, h.frame⟩
 ·rcases get_snoc _ _ hi with ⟨_, h1⟩ | ⟨_, rfl⟩
  ·exact h.ok _ _ h1
  exact hx
 ·rcases get_snoc _ _ hi with ⟨_, h1⟩ | ⟨_, rfl⟩
  ·exact h.low _ _ _ h1 hg
  exact .inl (hn g hg)
 ·rcases get_snoc _ _ hi with ⟨_, h1⟩ | ⟨_, e⟩
  ·exact h.src _ _ _ _ h1 hg
  exact hs _ _ _ e.symm hg
 rcases get_snoc _ _ hi with ⟨_, h1⟩ | ⟨e1, rfl⟩
 ·rcases get_snoc _ _ hj with ⟨_, h2⟩ | ⟨_, rfl⟩
  ·exact h.ne _ _ _ _ _ h1 h2 hij hg hz
  exact hu g hz _ _ h1 hg
 rcases get_snoc _ _ hj with ⟨_, h2⟩ | ⟨e2, rfl⟩
 ·exact hv g hg _ _ h2 hz
 omega
theorem Mm.gained2 {v v' : Value} {n n' : Nat} {xs xs' : List Value} {e e' : TypeId} {size size' : Nat} (h : Mm r S w W l) (hb : Below W.heap.size W W') (hv : W'.ownsRow W.heap.size e size v n xs) (hv' : W'.ownsRow W.heap.size e' size' v' n' xs')
  (hne : ∀ g, v.ownBlock = some g → v'.ownBlock ≠ some g) : Mm r S w W' (l ++ [.row v n xs e size, .row v' n' xs' e' size']) := by
 have h2 : Mm r S w W' ((l ++ [.row v n xs e size]) ++ [.row v' n' xs' e' size']) := by
  refine (h.gained hb hv).add (x := .row v' n' xs' e' size') (hv'.mono (Nat.zero_le _)) (fun g hg => Nat.le_trans h.frame.size (hv'.lt g hg).1) (fun g hg i y hi hy => ?_) (fun g hg i y hi hy => ?_) (fun R F g e _ => by cases e)
  ·rcases get_snoc _ _ hi with ⟨_, h3⟩ | ⟨_, rfl⟩
   ·exact absurd ((h.ok _ _ h3).lt (Ent.own_uses hy)) (Nat.not_lt.2 (hv'.lt g hg).1)
   exact hne g hy hg
  rcases get_snoc _ _ hi with ⟨_, h3⟩ | ⟨_, rfl⟩
  ·exact absurd ((h.ok _ _ h3).lt hy) (Nat.not_lt.2 (hv'.lt g hg).1)
  exact hne g hy hg
 rwa [List.append_assoc] at h2
theorem Mm.give (h : Mm none S w W l) (hf : From (seeS l) R W) : Gives w W S R := by
 obtain ⟨F, h1, h2⟩ := hf
 refine ⟨F, h1, fun g hg => ?_⟩
 obtain ⟨i, R', F', hi, hF⟩ := h2 g hg
 exact h.src i R' F' g hi hF
end
def fin {α β γ : Type} (x : Sum α β) (r : β → γ) (k : α → γ) : γ := match x with
 | .inl a => k a
 | .inr b => r b
section
variable {P : Program} {Q : Exit → Act → World → Prop} {a : Act} {w : World}
theorem wp_cutK {x : Code} (K : Act → World → Prop) (h1 : x.wp P (Exit.then K Q) a w) (h2 : ∀ a w, K a w → Q .normal a w) : x.wp P Q a w := by
 refine wp_mono h1 ?_
 intro e a' w' h
 cases e <;> first | exact h2 _ _ h | exact h
theorem cond_B {c : Operand} {x y : Code} (b : Bool) (hc : a.eval c = .bool b) (h1 : b = true → x.wp P Q a w) (h2 : ¬ b = true → y.wp P Q a w) : (Code.cond c x y).wp P Q a w :=
 Sx.cond_b b hc h1 (fun h => h2 (by rw [h]; decide))
end
section
variable {P : Program} {Q : Exit → Act → World → Prop} {K : Act → World → Prop} {oi : Oper} {a : Act} {r : Option Nat} {S : Nat → Prop} {w0 w : World} {L : List Ent} {T e : TypeId} {x y : Operand}
theorem lvw {ops : Array Oper} {rest : List Oper} (d : Tmp) (v : Value) (hg : Region.wanted oi (yielded ops a.tmps) = true) (hd : oi.dst = some d) (hrun : (execOp a.eval oi).run P w = .ok (.value v) w)
  (h : wpList P ops Q rest { a with tmps := a.tmps.setIfInBounds d v } w) : wpList P ops Q (oi :: rest) a w :=
 Sym.lst hg (Sym.w_value d v hd hrun h)
theorem lw {ops : Array Oper} {rest : List Oper} (d : Tmp) (v : Value) (hrun : (execOp a.eval oi).run P w = .ok (.value v) w)
  (h : wpList P ops Q rest { a with tmps := a.tmps.setIfInBounds d v } w) (hg : Region.wanted oi (yielded ops a.tmps) = true := by rfl) (hd : oi.dst = some d := by rfl) : wpList P ops Q (oi :: rest) a w :=
 lvw d v hg hd hrun h
theorem lm {ops : Array Oper} {rest : List Oper} (d : Tmp) (v : Value) (h : wpList P ops Q rest { a with tmps := a.tmps.setIfInBounds d v } w)
  (hg : Region.wanted oi (yielded ops a.tmps) = true := by rfl) (hd : oi.dst = some d := by rfl) (hrun : (execOp a.eval oi).run P w = .ok (.value v) w := by exact run_mv rfl rfl) : wpList P ops Q (oi :: rest) a w :=
 lvw d v hg hd hrun h
theorem la {ops : Array Oper} {rest : List Oper} (d : Tmp) (v : Value) (h : wpList P ops Q rest { a with tmps := a.tmps.setIfInBounds d v } w)
  (hg : Region.wanted oi (yielded ops a.tmps) = true := by rfl) (hd : oi.dst = some d := by rfl) (hrun : (execOp a.eval oi).run P w = .ok (.value v) w := by exact run_as rfl rfl) : wpList P ops Q (oi :: rest) a w :=
 lvw d v hg hd hrun h
theorem lvB {ops : Array Oper} {rest : List Oper} (d : Tmp) (b : Bool) (hg : Region.wanted oi (yielded ops a.tmps) = true) (hd : oi.dst = some d) (hrun : (execOp a.eval oi).run P w = .ok (.value (.bool b)) w)
  (h1 : b = true → wpList P ops Q rest { a with tmps := a.tmps.setIfInBounds d (.bool true) } w) (h2 : ¬ b = true → wpList P ops Q rest { a with tmps := a.tmps.setIfInBounds d (.bool false) } w) : wpList P ops Q (oi :: rest) a w := by
 refine Sym.lst hg (Sym.w_value d _ hd hrun ?_)
 cases b with
 | true => exact h1 rfl
 | false => exact h2 (by decide)
theorem z_sub {o : Oper} {T' : TypeId} {k : IntKind} (n m z : Int) (h : k.wrap (n - m) = z) (ho : o.op = .binOp .sub T x y T') (hx : a.eval x = .int k n) (hy : a.eval y = .int k m) : (execOp a.eval o).run P w = .ok (.value (.int k z)) w :=
 Sx.r_subZ n m z h ho hx hy
theorem z_quo {o : Oper} {T' : TypeId} {k : IntKind} (n m z : Int) (hm : m ≠ 0) (h : k.wrap (n.tdiv m) = z) (ho : o.op = .binOp .quo T x y T') (hx : a.eval x = .int k n) (hy : a.eval y = .int k m) : (execOp a.eval o).run P w = .ok (.value (.int k z)) w := by
 unfold execOp
 simp only [ho, hx, hy]
 generalize a.eval = f at *
 go_simp
theorem r_ixv {o : Oper} {k : IntKind} {W : World} {v : Value} {n size : Nat} {xs : List Value} (h : Rd W v n size xs) (i : Nat) (hi : i < n) (hT : P.underlying T = some (.slice e)) (hz : (P.info? e).map (·.size) = some size) (ho : o.op = .indexAddr T x y)
  (hx : a.eval x = v) (hy : a.eval y = .int k (i : Int)) : (execOp a.eval o).run P w = .ok (.value (.pointer (some ⟨bk v, po v + i * size, none⟩))) w :=
 r_ixS (bk v) (po v) i n (ca v) size hi hT hz ho (hx.trans (h.lies (by omega))) hy
theorem r_ixvZ {o : Oper} {k : IntKind} {W : World} {v : Value} {n size : Nat} {xs : List Value} (h : Rd W v n size xs) (i : Int) (h0 : 0 ≤ i) (hi : i < (n : Int)) (hT : P.underlying T = some (.slice e)) (hz : (P.info? e).map (·.size) = some size) (ho : o.op = .indexAddr T x y)
  (hx : a.eval x = v) (hy : a.eval y = .int k i) : (execOp a.eval o).run P w = .ok (.value (.pointer (some ⟨bk v, po v + i.toNat * size, none⟩))) w :=
 r_ixv h i.toNat (by omega) hT hz ho hx (by rw [hy]; congr 1; omega)
theorem bytesI {i : TypeInfo} {n b : Nat} (hb : i.bytes = b) (h : n * b ≤ 281474976710656) : (i.bytes : Int) * (n : Int) ≤ 281474976710656 := by
 rw [hb, ← Int.natCast_mul, Nat.mul_comm]
 omega
theorem m_makeR {α : Type} {enc : α → List Value} {size bytes : Nat} (n : Nat) (d : α) (inf : TypeInfo) (z : Value) {kl kc : IntKind} (hm : Mm r S w0 w L) (dst : Tmp) (hd : oi.dst = some dst) (ho : oi.op = .makeSlice T x y) (ht : P.underlying T = some (.slice e)) (hi : P.info? e = some inf) (hz : inf.zero = some z) (hs : inf.size = size) (hby : inf.bytes = bytes)
  (hlen : ∀ x, (enc x).length = size) (hzd : z.cells.toList = enc d) (hx : a.eval x = .int kl (n : Int)) (hy : a.eval y = .int kc (n : Int)) (hb : n * bytes ≤ 281474976710656) (hmax : n ≤ 9223372036854775807)
  (h : ∀ v' w', Mm r S w0 w' (L ++ [.row v' (List.replicate n d).length ((List.replicate n d).flatMap enc) e size]) → K { a with tmps := a.tmps.setIfInBounds dst v' } w') : oi.wp P a w K Q := by
 have hr := run_make (P := P) w T e inf z ht hi hz kl kc n n (by omega) (Int.le_refl _) (bytesI hby hb) (by omega)
 simp only [Int.toNat_natCast] at hr
 rw [hs] at hr
 have hcs : (madeCells z.cells (n * size)).toList = (List.replicate n d).flatMap enc := by
  have hzs : z.cells.size = size := by rw [← Array.length_toList, hzd, hlen]
  apply List.ext_getElem?
  intro j
  by_cases hj : j < n * size
  ·have hpos : 0 < size := by
    rcases Nat.eq_zero_or_pos size with h0 | h0
    ·rw [h0, Nat.mul_zero] at hj; omega
    exact h0
   have hi : j / size < n := Nat.div_lt_of_lt_mul (by rwa [Nat.mul_comm] at hj)
   have hjm : j % size < (enc d).length := by rw [hlen]; exact Nat.mod_lt _ hpos
   have e1 := flat_at (enc := enc) hlen d (List.replicate n d) (j / size) (j % size) ((enc d)[j % size]'hjm) (by simpa using hi) (by
    rw [List.getD_eq_getElem?_getD, List.getElem?_replicate, if_pos hi]
    simp [List.getElem?_eq_getElem hjm])
   rw [show j / size * size + j % size = j from by rw [Nat.mul_comm]; exact Nat.div_add_mod j size] at e1
   rw [e1]
   have hzj : j % size < z.cells.size := by rw [hzs]; exact Nat.mod_lt _ hpos
   have : (madeCells z.cells (n * size))[j]? = some (z.cells[j % size]'hzj) := by
    simp only [madeCells, hzs]
    rw [Array.getElem?_map, Array.getElem?_range, if_pos hj]
    simp only [Option.map_some, getElem!_pos z.cells (j % size) hzj]
   rw [Array.getElem?_toList, this]
   congr 1
   rw [← Array.getElem_toList]
   simp only [hzd]
  rw [List.getElem?_eq_none (by rw [Array.length_toList, size_madeCells]; omega), List.getElem?_eq_none (by rw [flat_len hlen, List.length_replicate]; omega)]
 have hown : (w.alloc (.cells (madeCells z.cells (n * size)) e)).ownsRow w.heap.size e size (.slice (some ⟨w.heap.size, 0, none⟩) n n) n (madeCells z.cells (n * size)).toList :=
  World.ownsRow_lit w _ n (Nat.le_refl _) (by unfold maxLen; omega) (size_madeCells _ _)
 rw [hcs] at hown
 unfold Oper.wp execOp
 simp only [ho, hx, hy, Sem.run_bind, hr]
 show K (a.put oi.dst _) _
 unfold Act.put
 rw [hd]
 refine h _ _ ?_
 rw [List.length_replicate]
 exact hm.more ((Below.refl _ _).alloc (Nat.le_refl _) _) (hown.mono (Nat.zero_le _)) (fun g hg => (hown.lt g hg).1)
theorem m_make0 {α : Type} {enc : α → List Value} {size bytes : Nat} (c : Nat) (inf : TypeInfo) (z : Value) {kl kc : IntKind} (hm : Mm r S w0 w L) (dst : Tmp) (hd : oi.dst = some dst) (ho : oi.op = .makeSlice T x y) (ht : P.underlying T = some (.slice e)) (hi : P.info? e = some inf) (hz : inf.zero = some z) (hs : inf.size = size) (hby : inf.bytes = bytes)
  (hx : a.eval x = .int kl 0) (hy : a.eval y = .int kc (c : Int)) (hb : c * bytes ≤ 281474976710656) (hmax : c ≤ 9223372036854775807)
  (h : ∀ v' w', Mm r S w0 w' (L ++ [.row v' ([] : List α).length (([] : List α).flatMap enc) e size]) → K { a with tmps := a.tmps.setIfInBounds dst v' } w') : oi.wp P a w K Q := by
 have hr := run_make (P := P) w T e inf z ht hi hz kl kc 0 c (by omega) (by omega) (bytesI hby hb) (by omega)
 simp only [Int.toNat_natCast, Int.toNat_zero] at hr
 rw [hs] at hr
 have hown : (w.alloc (.cells (madeCells z.cells (c * size)) e)).ownsRow w.heap.size e size (.slice (some ⟨w.heap.size, 0, none⟩) 0 c) 0 [] :=
  World.ownsRow_made w _ c (Nat.le_refl _) (by unfold maxLen; omega) (size_madeCells _ _)
 unfold Oper.wp execOp
 simp only [ho, hx, hy, Sem.run_bind, hr]
 show K (a.put oi.dst _) _
 unfold Act.put
 rw [hd]
 exact h _ _ (hm.more ((Below.refl _ _).alloc (Nat.le_refl _) _) (hown.mono (Nat.zero_le _)) (fun g hg => (hown.lt g hg).1))
theorem m_lit0 {α : Type} {enc : α → List Value} {size : Nat} (hm : Mm r S w0 w L) (dst : Tmp) (hd : oi.dst = some dst) (hrun : (execOp a.eval oi).run P w = .ok (.value (.slice (some ⟨w.heap.size, 0, none⟩) 0 0)) (w.alloc (.cells #[] e)))
  (h : ∀ v' w', Mm r S w0 w' (L ++ [.row v' ([] : List α).length (([] : List α).flatMap enc) e size]) → K { a with tmps := a.tmps.setIfInBounds dst v' } w') : oi.wp P a w K Q := by
 have hown : (w.alloc (.cells #[] e)).ownsRow w.heap.size e size (.slice (some ⟨w.heap.size, 0, none⟩) 0 0) 0 [] :=
  World.ownsRow_made w _ 0 (Nat.le_refl _) (Nat.zero_le _) (by simp)
 unfold Oper.wp
 rw [hrun]
 show K (a.put oi.dst _) _
 unfold Act.put
 rw [hd]
 exact h _ _ (hm.more ((Below.refl _ _).alloc (Nat.le_refl _) _) (hown.mono (Nat.zero_le _)) (fun g hg => (hown.lt g hg).1))
theorem run_append_nothing (w : World) (base : Nat) (t ty e : TypeId) (i : TypeInfo) (ht : P.underlying t = some (.slice e)) (hi : P.info? e = some i)
  (v : Value) (n : Nat) (xs : List Value) {size : Nat} (hown : w.ownsRow base e size v n xs) (c : Nat) :
  (Builtin.append_ #[t, t] ty #[v, .slice none 0 c]).run P w = .ok v w := by
 rcases hown.2 with ⟨rfl, rfl⟩ | ⟨g, cap, cur, rfl, _, _, hnc, _⟩
 ·simp [Builtin.append_, run_underlying ht, sizeOf, typeInfo, hi, Builtin.lenOf, Builtin.firstCells]
 simp [Builtin.append_, run_underlying ht, sizeOf, typeInfo, hi, Builtin.lenOf, Builtin.firstCells, hnc, storeCells]
theorem m_appendR {α : Type} {enc : α → List Value} (i : Nat) {v : Value} {l l2 : List α} {size bytes : Nat} (inf : TypeInfo) (z : Value) (s : Operand) (ty : TypeId) (xv : Value) (hm : Mm r S w0 w L) (hi : L[i]? = some (.row v l.length (l.flatMap enc) e size)) (d : Tmp) (hd : oi.dst = some d)
  (ho : oi.op = .call { callee := .builtin .append, args := #[s, x], argTypes := #[ty, ty] }) (ht : P.underlying ty = some (.slice e)) (hinf : P.info? e = some inf) (hz : inf.zero = some z)
  (hsize : inf.size = size) (hby : inf.bytes = bytes) (hlen : ∀ x, (enc x).length = size) (hone : ∀ x, ∀ u ∈ enc x, u.oneCell' = true) (hzs : z.cells.size = size) (hsz : 0 < size) (hs : a.eval s = v) (hx : a.eval x = xv) (hsrc : Rs enc size l2 xv w)
  (h63 : l.length + l2.length ≤ 9223372036854775807) (hbytes : (l.length + l2.length) * bytes ≤ 180000000000000)
  (h : ∀ v' w', Mm r S w0 w' (L.set i (.row v' (l ++ l2).length ((l ++ l2).flatMap enc) e size)) → K { a with tmps := a.tmps.setIfInBounds d v' } w') (hbb : bytes ≤ 4096 := by decide) : oi.wp P a w K Q := by
 have e1 : (l ++ l2).flatMap enc = l.flatMap enc ++ l2.flatMap enc := List.flatMap_append
 obtain ⟨ao, c, rfl⟩ := Rd.form hsrc
 cases ao with
 | none =>
  have hl2 : l2 = [] := by
   rcases hsrc.2 with ⟨h0, _⟩ | ⟨g, o, c', h0, _⟩
   ·exact List.eq_nil_of_length_eq_zero h0
   cases h0
  subst hl2
  have hr := run_append_nothing (P := P) w 0 ty oi.type e inf ht hinf v l.length (l.flatMap enc) (hm.row i hi) c
  have := h v w (by
   rw [List.append_nil]
   have e2 : L.set i (.row v l.length (l.flatMap enc) e size) = L := by
    obtain ⟨hl, he⟩ := List.getElem?_eq_some_iff.1 hi
    rw [← he, List.set_getElem_self]
   rw [e2]
   exact hm)
  unfold Oper.wp execOp
  simp only [ho, resolve, invoke, builtin, Sem.run_bind, Sem.run_pure, Result.andThen_ok, List.map_toArray, List.map_cons, List.map_nil, hs, hx]
  simp only [List.length_nil] at hr ⊢
  simp only [hr]
  show K (a.put oi.dst _) _
  unfold Act.put
  rw [hd]
  exact this
 | some ad =>
  have hcells : ∀ (j : Nat) (u : Value), (l2.flatMap enc)[j]? = some u → w.cell? (ad.add j) = some u := by
   rcases hsrc.2 with ⟨h0, _⟩ | ⟨g, o, c', h0, hc, _⟩
   ·intro j u hu
    rw [List.eq_nil_of_length_eq_zero h0] at hu
    cases hu
   simp only [Value.slice.injEq, Option.some.injEq] at h0
   obtain ⟨rfl, _⟩ := h0
   intro j u hu
   rw [add_lit]
   exact hc j u hu
  refine m_append (P := P) i (news := l2.flatMap enc) inf z s x ty ad hm hi d hd ho ht hinf hz hsize hby hzs hsz hs hx (flat_len hlen l2) hcells (flat_one hone l2) (by unfold maxLen; omega) hbb hbytes (fun v' w' _ hm' => h v' w' ?_)
  rw [List.length_append, e1]
  exact hm'
theorem m_setR {α : Type} {enc : α → List Value} (i : Nat) {v : Value} {l : List α} (k : Nat) (y' : α) (u : Value) (hm : Mm r S w0 w L) (hi : L[i]? = some (.row v l.length (l.flatMap enc) e 1)) (hd : oi.dst = none)
  (ho : oi.op = .store T x y) (hk : k < l.length) (hx : a.eval x = .pointer (some ⟨bk v, po v + k * 1, none⟩)) (hy : a.eval y = u) (hz : (P.info? T).map (·.size) = some 1) (hlen : ∀ x, (enc x).length = 1) (hu : enc y' = [u]) (h1 : u.oneCell' = true)
  (h : ∀ w', Mm r S w0 w' (L.set i (.row v (l.set k y').length ((l.set k y').flatMap enc) e 1)) → K a w') : oi.wp P a w K Q := by
 have hown := hm.row i hi
 obtain ⟨hv, hp, hb⟩ := row_lies hown (by omega)
 have hkl : k < (l.flatMap enc).length := by rw [flat_len hlen]; omega
 rw [hp, Nat.zero_add, Nat.mul_one] at hx
 rw [hv] at hown
 have hcell := hown.cellAt k (by omega)
 rw [List.getElem?_eq_getElem hkl] at hcell
 have hfro := hown.frozenAt k
 obtain ⟨h2, h3⟩ := hown.stored k u
 rw [← hv] at h2
 have hst : (store ⟨bk v, k, none⟩ u).run P w = .ok () (w.setCell ⟨bk v, k, none⟩ u) := by
  rw [run_store P w _ u _ h1, hcell]
  simp [hfro]
 have hc1 := cells_one h1
 have hst2 : (storeCells ⟨bk v, k, none⟩ u.cells.toList 0).run P w = .ok () (w.setCell ⟨bk v, k, none⟩ u) := by
  rw [hc1]
  simp only [storeCells, Sem.run_bind, add_lit, Nat.add_zero, hst, Result.andThen_ok]
  rfl
 have hrun : (storeVar T ⟨bk v, k, none⟩ u).run P w = .ok () (w.setCell ⟨bk v, k, none⟩ u) := by
  cases hq : P.info? T with
  | none => simp [hq] at hz
  | some inf =>
   have hs : inf.size = 1 := by simpa [hq] using hz
   have hf : inf.size = u.cells.size := by rw [hs, hc1]; rfl
   simp [storeVar, sizeOf, typeInfo, hq, hf, hst2]
 unfold Oper.wp execOp
 simp only [ho, hx, hy, Instr.storeAt, Instr.sureAddr, Sem.run_bind, Sem.run_pure, Result.andThen_ok, hrun]
 show K (a.put oi.dst undef) _
 unfold Act.put
 rw [hd]
 refine h _ (hm.change i hi h3 (fun g e => by show v.ownBlock = some g; rw [hb]; exact e) ?_ (fun g hg => .inl hg))
 ·show World.ownsRow _ 0 e 1 v (l.set k y').length ((l.set k y').flatMap enc)
  rw [List.length_set, flat_set1 hlen y' u hu]
  exact h2
end
theorem Mm.freezeB {S : Nat → Prop} {w W : World} {l : List Ent} {g : Nat} {c : Array Value} {T : TypeId} {α : Type} {enc : α → List Value} {size n cap : Nat} {ll : List α} (h : Mm none S w W l) (i : Nat) (hi : l[i]? = some (.blk g c T)) (hc : c.toList = ll.flatMap enc) (hn : n = ll.length) (hl : ∀ x, (enc x).length = size) (hcap : n ≤ cap := by omega) :
  Mm none S w W (l.set i (.see (Rs enc size ll (.slice (some ⟨g, 0, none⟩) n cap)) (fp (.slice (some ⟨g, 0, none⟩) n cap) (ll.flatMap enc)))) := by
 have hr : Rs enc size ll (.slice (some ⟨g, 0, none⟩) n cap) W := Rs.blk (h.at i hi) hc hn hl hcap
 have hg : ∀ g', fp (.slice (some ⟨g, 0, none⟩) n cap) (ll.flatMap enc) g' → g = g' := by
  rintro g' ⟨_, o, n', c', e⟩
  simp only [Value.slice.injEq, Option.some.injEq, Addr.mk.injEq] at e
  exact e.1.1
 refine h.changeG i hi (o := none) (grown_refl _ _) (fun _ e => by cases e) (Seal.rd hr) (fun g' hg' => .inl (hg g' hg')) (fun g' hg' => hg'.elim) (fun R F g' e hg' => ?_)
 simp only [Ent.see.injEq] at e
 obtain ⟨_, rfl⟩ := e
 exact .inl ((h.low i _ g' hi (hg g' hg')).elim id (fun e => by cases e))
section
variable {r : Option Nat} {S : Nat → Prop} {w W : World} {l : List Ent} {vs : List Value} {ls : List (List Value)} {e : TypeId}
theorem Mm.fam (h : Mm r S w W l) (i : Nat) (hi : l[i]? = some (.fam vs ls e)) : Fam W vs ls e := h.ok i _ hi
end
theorem Fam.rs {α : Type} {enc : α → List Value} {W : World} {vs : List Value} {ls : List (List α)} {e : TypeId} (h : Fam W vs (ls.map fun l => l.flatMap enc) e) (hlen : ∀ x, (enc x).length = 1) (k : Nat) (hk : k < ls.length) (dv : Value) : Rs enc 1 (ls.getD k []) (vs.getD k dv) W := by
 have hkv : k < vs.length := by rw [h.1, List.length_map]; exact hk
 have h1 := h.2.1 k vs[k] _ (List.getElem?_eq_getElem hkv) (by rw [List.getElem?_map, List.getElem?_eq_getElem hk]; rfl)
 rw [List.getD_eq_getElem?_getD, List.getD_eq_getElem?_getD, List.getElem?_eq_getElem hk, List.getElem?_eq_getElem hkv]
 refine Rs.row (e := e) ?_
 have h2 : (ls[k].flatMap enc).length = ls[k].length := by rw [flat_len hlen, Nat.mul_one]
 rw [h2] at h1
 exact h1
theorem Fam.one {W : World} {vs : List Value} {ls : List (List Value)} {e : TypeId} {k : Nat} {v : Value} (h : Fam W (vs.set k v) ls e) (hk : k < vs.length) : v.oneCell' = true := by
 obtain ⟨l, _, hl⟩ := h.at (k := k) (v := v) (List.getElem?_set_self hk)
 exact own_one hl
theorem Fam.len {W : World} {vs : List Value} {α : Type} {enc : α → List Value} {ls : List (List α)} {e : TypeId} (h : Fam W vs (ls.map fun l => l.flatMap enc) e) : vs.length = ls.length := by rw [h.1, List.length_map]
section
variable {P : Program} {fn : Func} {p q : Tmp} {ty ty' : TypeId} {tmps : Array Value} {w : World} {g g' : Nat} {t t' : TypeId} {cs cs' : Array Value} {d d' : TypeDesc} {v : Value}
theorem res_c (h : fn.results = #[.cell p ty]) (hp : tmps.getD p undef = .pointer (some ⟨g, 0, none⟩)) (hg : Blk w g cs t) (hu : P.underlying ty = some d) (hd : (match d with | .struct _ | .array _ _ => true | _ => false) = true) (hi : (P.info? ty).map (·.size) = some cs.size) :
  (results fn tmps).run P w = .ok (.agg cs) w := by
 obtain ⟨fz, hg, _⟩ := hg
 have hp' : tmps[p]?.getD undef = .pointer (some ⟨g, 0, none⟩) := by simpa using hp
 simp [results, h, hp', asAddr, run_loadVar_row w g t ty cs fz d hg hu hd hi]
end
end Go.Proofs.YtnmaaijeamlplaaDoor.Mem
