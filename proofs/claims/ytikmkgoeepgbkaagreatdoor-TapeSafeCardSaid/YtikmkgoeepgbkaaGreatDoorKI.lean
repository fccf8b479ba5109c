/- Walks by program, the whole function by itself: encoders, slices that are read, rows of elements, joins: at any program. -/
import Derived.Test.YtikmkgoeepgbkaaGreatDoorKA
import Derived.Laws.OwnMore
import Derived.WalkKit
import Derived.ProofKit
import Derived.OpenShut
import Derived.ChangeMaps5
import Derived.Carry
import Derived.SizedLaws
import Derived.Deep.Slices
import Derived.Test.YtikmkgoeepgbkaaGreatDoorKD
set_option linter.all false
namespace Go.Proofs.YtikmkgoeepgbkaaGreatDoor.Mem
open Go.RowKit

/-! ### Elements as cells -/
def eS (s : List UInt8) : List Value := [.string (tx s)]
def eI (n : Int) : List Value := [.int .i64 n]
def eB (b : UInt8) : List Value := [bv b]
/-- The slice v reads as the elements l. -/
def Rs {α : Type} (enc : α → List Value) (size : Nat) (l : List α) (v : Value) (W : World) : Prop := Rd W v l.length size (l.flatMap enc)
theorem flat_len {α : Type} {enc : α → List Value} {size : Nat} (h : ∀ x, (enc x).length = size) : ∀ l : List α, (l.flatMap enc).length = l.length * size
  | [] => by simp
  | x :: l => by rw [List.flatMap_cons, List.length_append, h, flat_len h l, List.length_cons, Nat.add_mul, Nat.one_mul, Nat.add_comm]
theorem flat_at {α : Type} {enc : α → List Value} {size : Nat} (h : ∀ x, (enc x).length = size) (d : α) : ∀ (l : List α) (i j : Nat) (u : Value), i < l.length → (enc (l.getD i d))[j]? = some u → (l.flatMap enc)[i * size + j]? = some u
  | [], _, _, _, hi, _ => by simp at hi
  | x :: l, 0, j, u, _, hu => by
    have hj : j < (enc x).length := (List.getElem?_eq_some_iff.1 hu).1
    rw [List.flatMap_cons, Nat.zero_mul, Nat.zero_add, List.getElem?_append_left hj]
    exact hu
  | x :: l, i + 1, j, u, hi, hu => by
    rw [List.flatMap_cons, List.getElem?_append_right (by rw [h, Nat.add_mul]; omega), h, show (i + 1) * size + j - size = i * size + j by rw [Nat.add_mul]; omega]
    exact flat_at h d l i j u (by simpa using hi) (by simpa using hu)
theorem flat_set1 {α : Type} {enc : α → List Value} (h : ∀ x, (enc x).length = 1) (y : α) (u : Value) (hu : enc y = [u]) : ∀ (l : List α) (i : Nat), (l.set i y).flatMap enc = (l.flatMap enc).set i u
  | [], _ => by simp
  | x :: l, 0 => by
    obtain ⟨a, ha⟩ := List.length_eq_one_iff.1 (h x)
    simp [hu, ha]
  | x :: l, i + 1 => by
    obtain ⟨a, ha⟩ := List.length_eq_one_iff.1 (h x)
    simp only [List.set_cons_succ, List.flatMap_cons, ha, List.cons_append, List.nil_append]
    rw [flat_set1 h y u hu l i]
theorem arr_get {l : List Value} {j : Nat} {u : Value} (h : l.toArray[j]? = some u) : l[j]? = some u := by simpa using h
theorem eB_map (l : List UInt8) : l.flatMap eB = l.map bv := by
  induction l with
  | nil => rfl
  | cons a l ih => rw [List.flatMap_cons, ih]; rfl
theorem eS_map (l : List (List UInt8)) : l.flatMap eS = l.map fun s => .string (tx s) := by
  induction l with
  | nil => rfl
  | cons a l ih => rw [List.flatMap_cons, ih]; rfl
theorem eI_map (l : List Int) : l.flatMap eI = l.map fun n => .int .i64 n := by
  induction l with
  | nil => rfl
  | cons a l ih => rw [List.flatMap_cons, ih]; rfl
theorem eS_len (x : List UInt8) : (eS x).length = 1 := rfl
theorem eI_len (x : Int) : (eI x).length = 1 := rfl
theorem eB_len (x : UInt8) : (eB x).length = 1 := rfl
theorem eS_one (x : List UInt8) : ∀ u ∈ eS x, u.oneCell' = true := by intro u hu; simp only [eS, List.mem_singleton] at hu; subst hu; rfl
theorem eI_one (x : Int) : ∀ u ∈ eI x, u.oneCell' = true := by intro u hu; simp only [eI, List.mem_singleton] at hu; subst hu; rfl
theorem eB_one (x : UInt8) : ∀ u ∈ eB x, u.oneCell' = true := by intro u hu; simp only [eB, bv, List.mem_singleton] at hu; subst hu; rfl
theorem flat_one {α : Type} {enc : α → List Value} (h : ∀ x, ∀ u ∈ enc x, u.oneCell' = true) (l : List α) : ∀ u ∈ l.flatMap enc, u.oneCell' = true := by
  intro u hu
  obtain ⟨x, _, hx⟩ := List.mem_flatMap.1 hu
  exact h x u hx

/-! ### Where a slice lies -/
def bk : Value → Nat
  | .slice (some a) _ _ => a.block
  | _ => 0
def po : Value → Nat
  | .slice (some ⟨_, o, _⟩) _ _ => o
  | _ => 0
def ca : Value → Nat
  | .slice _ _ c => c
  | _ => 0
section
variable {W : World} {v : Value} {n size : Nat} {xs : List Value} {e : TypeId}
theorem Rd.lies (h : Rd W v n size xs) (hn : 0 < n) : v = .slice (some ⟨bk v, po v, none⟩) n (ca v) := by
  rcases h.2 with ⟨rfl, _⟩ | ⟨g, o, c, rfl, _⟩
  · omega
  · rfl
theorem Rd.cellz (h : Rd W v n size xs) (j : Nat) (u : Value) (hj : xs[j]? = some u) : W.cell? ⟨bk v, po v + j, none⟩ = some u := by
  rcases h.2 with ⟨h1, _⟩ | ⟨g, o, c, rfl, hc, _⟩
  · have hl := h.1
    rw [h1, Nat.zero_mul] at hl
    rw [List.eq_nil_of_length_eq_zero hl] at hj
    cases hj
  · exact hc j u hj
theorem row_lies (h : W.ownsRow 0 e size v n xs) (hn : 0 < n) : v = .slice (some ⟨bk v, 0, none⟩) n (ca v) ∧ po v = 0 ∧ v.ownBlock = some (bk v) := by
  rcases h.2 with ⟨_, rfl⟩ | ⟨g, cap, cur, rfl, _⟩
  · omega
  · exact ⟨rfl, rfl, rfl⟩
end
section
variable {α : Type} {enc : α → List Value} {size : Nat} {l : List α} {v : Value} {W : World}
theorem Rs.cell (h : Rs enc size l v W) (hl : ∀ x, (enc x).length = size) (d : α) (i : Nat) (hi : i < l.length) (j : Nat) (u : Value) (hu : (enc (l.getD i d))[j]? = some u) : W.cell? ⟨bk v, po v + i * size + j, none⟩ = some u := by
  rw [Nat.add_assoc]
  exact Rd.cellz h _ u (flat_at hl d l i j u hi hu)
theorem Rs.nil (enc : α → List Value) (size : Nat) (W : World) : Rs enc size [] (.slice none 0 0) W := Rd.nil W size
theorem Rs.row {e : TypeId} (h : W.ownsRow 0 e size v l.length (l.flatMap enc)) : Rs enc size l v W := Rd.of_row h
theorem Rs.blk {g : Nat} {c : Array Value} {T : TypeId} {n cap : Nat} (h : Blk W g c T) (hc : c.toList = l.flatMap enc) (hn : n = l.length) (hl : ∀ x, (enc x).length = size) (hcap : n ≤ cap := by omega) : Rs enc size l (.slice (some ⟨g, 0, none⟩) n cap) W := by
  subst hn
  unfold Rs
  rw [← hc]
  exact Rd.of_blk h (by rw [← Array.length_toList, hc, flat_len hl]) hcap
end

/-! ### What is read -/
def From (S : Nat → Prop) (R : World → Prop) (W : World) : Prop := ∃ F, Seal R F W ∧ ∀ g, F g → S g
def seeS (l : List Ent) (g : Nat) : Prop := ∃ (i : Nat) (R : World → Prop) (F : Nat → Prop), l[i]? = some (.see R F) ∧ F g
section
variable {S : Nat → Prop} {R R' : World → Prop} {W W' w : World} {r : Option Nat} {l : List Ent}
theorem From.out (h : From S R W) : R W := by obtain ⟨F, h1, _⟩ := h; exact h1.out
theorem From.mono (h : From S R W) (f : ∀ W, R W → R' W) : From S R' W := by obtain ⟨F, h1, h2⟩ := h; exact ⟨F, h1.mono f, h2⟩
theorem From.and (h : From S R W) (k : From S R' W) : From S (fun W => R W ∧ R' W) W := by
  obtain ⟨F, h1, h2⟩ := h
  obtain ⟨F', k1, k2⟩ := k
  exact ⟨_, h1.and k1, fun g hg => hg.elim (h2 g) (k2 g)⟩
theorem From.pure {p : World → Prop} (h : ∀ W, p W) : From S p W := ⟨fun _ => False, ⟨fun _ h => h.elim, h W, fun W' _ => h W'⟩, fun _ h => h.elim⟩
theorem Mm.from (h : Mm r S w W l) (i : Nat) {F : Nat → Prop} (hi : l[i]? = some (.see R F)) : From (seeS l) R W := ⟨F, h.seal i hi, fun _ hg => ⟨i, R, F, hi, hg⟩⟩
theorem Mm.come (h : Mm none S w w l) (hf : From S R w) : ∃ F, Mm none S w w (l ++ [.see R F]) := by
  obtain ⟨F, h1, h2⟩ := hf
  exact ⟨F, h.came h1 h2⟩
theorem Mm.tookS (h : Mm r S w W l) (hb : Below W.heap.size W W') (hg : Gives W W' (seeS l) R) : ∃ F, Mm r S w W' (l ++ [.see R F]) :=
  h.took hb hg (fun _ h => h)
theorem Mm.derive (h : Mm r S w W l) (hf : From (seeS l) R W) : ∃ F, Mm r S w W (l ++ [.see R F]) := by
  obtain ⟨F, h1, h2⟩ := hf
  exact h.tookS (Below.refl _ _) ⟨F, h1, fun g hg => .inr (h2 g hg)⟩
theorem Rs.all {α : Type} {enc : α → List Value} {size : Nat} {x : List α} {v : Value} (h : Rs enc size x v W) : From (fun _ => True) (Rs enc size x v) W := ⟨_, Seal.rd h, fun _ _ => trivial⟩
/-- One more, of this world. -/
theorem Mm.add (h : Mm r S w W l) {x : Ent} (hx : x.ok W) (hn : ∀ g, x.own g → w.heap.size ≤ g) (hu : ∀ g, x.uses g → ∀ (i : Nat) (y : Ent), l[i]? = some y → ¬ y.own g) (hv : ∀ g, x.own g → ∀ (i : Nat) (y : Ent), l[i]? = some y → ¬ y.uses g)
    (hs : ∀ R F g, x = .see R F → F g → w.heap.size ≤ g ∨ S g) : Mm r S w W (l ++ [x]) := by
  refine ⟨fun i y hi => ?_, fun i y g hi hg => ?_, fun i R F g hi hg => ?_, fun i j y z g hi hj hij hg hz => ?_, h.frame⟩
  · rcases get_snoc _ _ hi with ⟨_, h1⟩ | ⟨_, rfl⟩
    · exact h.ok _ _ h1
    · exact hx
  · rcases get_snoc _ _ hi with ⟨_, h1⟩ | ⟨_, rfl⟩
    · exact h.low _ _ _ h1 hg
    · exact .inl (hn g hg)
  · rcases get_snoc _ _ hi with ⟨_, h1⟩ | ⟨_, e⟩
    · exact h.src _ _ _ _ h1 hg
    · exact hs _ _ _ e.symm hg
  · rcases get_snoc _ _ hi with ⟨_, h1⟩ | ⟨e1, rfl⟩
    · rcases get_snoc _ _ hj with ⟨_, h2⟩ | ⟨_, rfl⟩
      · exact h.ne _ _ _ _ _ h1 h2 hij hg hz
      · exact hu g hz _ _ h1 hg
    · rcases get_snoc _ _ hj with ⟨_, h2⟩ | ⟨e2, rfl⟩
      · exact hv g hg _ _ h2 hz
      · omega
/-- Two rows that a call has made. -/
theorem Mm.gained2 {v v' : Value} {n n' : Nat} {xs xs' : List Value} {e e' : TypeId} {size size' : Nat} (h : Mm r S w W l) (hb : Below W.heap.size W W') (hv : W'.ownsRow W.heap.size e size v n xs) (hv' : W'.ownsRow W.heap.size e' size' v' n' xs')
    (hne : ∀ g, v.ownBlock = some g → v'.ownBlock ≠ some g) : Mm r S w W' (l ++ [.row v n xs e size, .row v' n' xs' e' size']) := by
  have h2 : Mm r S w W' ((l ++ [.row v n xs e size]) ++ [.row v' n' xs' e' size']) := by
    refine (h.gained hb hv).add (x := .row v' n' xs' e' size') (hv'.mono (Nat.zero_le _)) (fun g hg => Nat.le_trans h.frame.size (hv'.lt g hg).1) (fun g hg i y hi hy => ?_) (fun g hg i y hi hy => ?_) (fun R F g e _ => by cases e)
    · rcases get_snoc _ _ hi with ⟨_, h3⟩ | ⟨_, rfl⟩
      · exact absurd ((h.ok _ _ h3).lt (Ent.own_uses hy)) (Nat.not_lt.2 (hv'.lt g hg).1)
      · exact hne g hy hg
    · rcases get_snoc _ _ hi with ⟨_, h3⟩ | ⟨_, rfl⟩
      · exact absurd ((h.ok _ _ h3).lt hy) (Nat.not_lt.2 (hv'.lt g hg).1)
      · exact hne g hy hg
  rwa [List.append_assoc] at h2
/-- Out of what is read: handed back. -/
theorem Mm.give (h : Mm none S w W l) (hf : From (seeS l) R W) : Gives w W S R := by
  obtain ⟨F, h1, h2⟩ := hf
  refine ⟨F, h1, fun g hg => ?_⟩
  obtain ⟨i, R', F', hi, hF⟩ := h2 g hg
  exact h.src i R' F' g hi hF
end

/-! ### Joins, loops -/
def fin {α β γ : Type} (x : Sum α β) (r : β → γ) (k : α → γ) : γ := match x with
  | .inl a => k a
  | .inr b => r b
section
variable {P : Program} {Q : Exit → Act → World → Prop} {a : Act} {w : World}
theorem wp_seq_cut {x y : Code} (K : Act → World → Prop) (h1 : x.wp P (Exit.then K Q) a w) (h2 : ∀ a w, K a w → y.wp P Q a w) : (Code.seq x y).wp P Q a w := by
  refine wp_seq_k fun K' hK => wp_mono h1 ?_
  intro e a' w' h
  cases e <;> first | exact hK _ _ (h2 _ _ h) | exact h
theorem wp_cutK {x : Code} (K : Act → World → Prop) (h1 : x.wp P (Exit.then K Q) a w) (h2 : ∀ a w, K a w → Q .normal a w) : x.wp P Q a w := by
  refine wp_mono h1 ?_
  intro e a' w' h
  cases e <;> first | exact h2 _ _ h | exact h
theorem cond_B {c : Operand} {x y : Code} (b : Bool) (hc : a.eval c = .bool b) (h1 : b = true → x.wp P Q a w) (h2 : ¬ b = true → y.wp P Q a w) : (Code.cond c x y).wp P Q a w :=
  Sx.cond_b b hc h1 (fun h => h2 (by rw [h]; decide))
end
section
variable {P : Program} {Q : Exit → Act → World → Prop} {K : Act → World → Prop} {oi : Oper} {a : Act} {r : Option Nat} {S : Nat → Prop} {w0 w : World} {L : List Ent} {T e : TypeId} {x y : Operand}
theorem lvw {ops : Array Oper} {rest : List Oper} (d : Tmp) (v : Value) (hg : Region.wanted oi (yielded ops a.tmps) = true) (hd : oi.dst = some d) (hrun : (execOp a.eval oi).run P w = .ok (.value v) w)
    (h : wpList P ops Q rest { a with tmps := a.tmps.setIfInBounds d v } w) : wpList P ops Q (oi :: rest) a w :=
  Sym.lst hg (Sym.w_value d v hd hrun h)
theorem lvB {ops : Array Oper} {rest : List Oper} (d : Tmp) (b : Bool) (hg : Region.wanted oi (yielded ops a.tmps) = true) (hd : oi.dst = some d) (hrun : (execOp a.eval oi).run P w = .ok (.value (.bool b)) w)
    (h1 : b = true → wpList P ops Q rest { a with tmps := a.tmps.setIfInBounds d (.bool true) } w) (h2 : ¬ b = true → wpList P ops Q rest { a with tmps := a.tmps.setIfInBounds d (.bool false) } w) : wpList P ops Q (oi :: rest) a w := by
  refine Sym.lst hg (Sym.w_value d _ hd hrun ?_)
  cases b with
  | true => exact h1 rfl
  | false => exact h2 (by decide)
/-! Operations -/
theorem z_sub {o : Oper} {T' : TypeId} {k : IntKind} (n m z : Int) (h : k.wrap (n - m) = z) (ho : o.op = .binOp .sub T x y T') (hx : a.eval x = .int k n) (hy : a.eval y = .int k m) : (execOp a.eval o).run P w = .ok (.value (.int k z)) w :=
  Sx.r_subZ n m z h ho hx hy
theorem z_mul {o : Oper} {T' : TypeId} {k : IntKind} (n m z : Int) (h : k.wrap (n * m) = z) (ho : o.op = .binOp .mul T x y T') (hx : a.eval x = .int k n) (hy : a.eval y = .int k m) : (execOp a.eval o).run P w = .ok (.value (.int k z)) w := by
  unfold execOp
  simp only [ho, hx, hy]
  generalize a.eval = f at *
  go_simp
theorem z_quo {o : Oper} {T' : TypeId} {k : IntKind} (n m z : Int) (hm : m ≠ 0) (h : k.wrap (n.tdiv m) = z) (ho : o.op = .binOp .quo T x y T') (hx : a.eval x = .int k n) (hy : a.eval y = .int k m) : (execOp a.eval o).run P w = .ok (.value (.int k z)) w := by
  unfold execOp
  simp only [ho, hx, hy]
  generalize a.eval = f at *
  go_simp
theorem z_rem {o : Oper} {T' : TypeId} {k : IntKind} (n m z : Int) (hm : m ≠ 0) (h : n.tmod m = z) (ho : o.op = .binOp .rem T x y T') (hx : a.eval x = .int k n) (hy : a.eval y = .int k m) : (execOp a.eval o).run P w = .ok (.value (.int k z)) w := by
  unfold execOp
  simp only [ho, hx, hy]
  generalize a.eval = f at *
  go_simp
/-- Where an element of a slice lies. -/
theorem r_ixv {o : Oper} {k : IntKind} {W : World} {v : Value} {n size : Nat} {xs : List Value} (h : Rd W v n size xs) (i : Nat) (hi : i < n) (hT : P.underlying T = some (.slice e)) (hz : (P.info? e).map (·.size) = some size) (ho : o.op = .indexAddr T x y)
    (hx : a.eval x = v) (hy : a.eval y = .int k (i : Int)) : (execOp a.eval o).run P w = .ok (.value (.pointer (some ⟨bk v, po v + i * size, none⟩))) w :=
  r_ixS (bk v) (po v) i n (ca v) size hi hT hz ho (hx.trans (h.lies (by omega))) hy
theorem r_ixvZ {o : Oper} {k : IntKind} {W : World} {v : Value} {n size : Nat} {xs : List Value} (h : Rd W v n size xs) (i : Int) (h0 : 0 ≤ i) (hi : i < (n : Int)) (hT : P.underlying T = some (.slice e)) (hz : (P.info? e).map (·.size) = some size) (ho : o.op = .indexAddr T x y)
    (hx : a.eval x = v) (hy : a.eval y = .int k i) : (execOp a.eval o).run P w = .ok (.value (.pointer (some ⟨bk v, po v + i.toNat * size, none⟩))) w :=
  r_ixv h i.toNat (by omega) hT hz ho hx (by rw [hy]; congr 1; omega)
theorem bytesI {i : TypeInfo} {n b : Nat} (hb : i.bytes = b) (h : n * b ≤ 281474976710656) : (i.bytes : Int) * (n : Int) ≤ 281474976710656 := by
  rw [hb, ← Int.natCast_mul, Nat.mul_comm]
  omega
/-- 'make': elements of nought. -/
theorem m_makeR {α : Type} {enc : α → List Value} {size bytes : Nat} (n : Nat) (d : α) (inf : TypeInfo) (z : Value) {kl kc : IntKind} (hm : Mm r S w0 w L) (dst : Tmp) (hd : oi.dst = some dst) (ho : oi.op = .makeSlice T x y) (ht : P.underlying T = some (.slice e)) (hi : P.info? e = some inf) (hz : inf.zero = some z) (hs : inf.size = size) (hby : inf.bytes = bytes)
    (hlen : ∀ x, (enc x).length = size) (hzd : z.cells.toList = enc d) (hx : a.eval x = .int kl (n : Int)) (hy : a.eval y = .int kc (n : Int)) (hb : n * bytes ≤ 281474976710656) (hmax : n ≤ 9223372036854775807)
    (h : ∀ v' w', Mm r S w0 w' (L ++ [.row v' (List.replicate n d).length ((List.replicate n d).flatMap enc) e size]) → K { a with tmps := a.tmps.setIfInBounds dst v' } w') : oi.wp P a w K Q := by
  have hr := run_make (P := P) w T e inf z ht hi hz kl kc n n (by omega) (Int.le_refl _) (bytesI hby hb) (by omega)
  simp only [Int.toNat_natCast] at hr
  rw [hs] at hr
  have hcs : (madeCells z.cells (n * size)).toList = (List.replicate n d).flatMap enc := by
    have hzs : z.cells.size = size := by rw [← Array.length_toList, hzd, hlen]
    apply List.ext_getElem?
    intro j
    by_cases hj : j < n * size
    · have hpos : 0 < size := by
        rcases Nat.eq_zero_or_pos size with h0 | h0
        · rw [h0, Nat.mul_zero] at hj; omega
        · exact h0
      have hi : j / size < n := Nat.div_lt_of_lt_mul (by rwa [Nat.mul_comm] at hj)
      have hjm : j % size < (enc d).length := by rw [hlen]; exact Nat.mod_lt _ hpos
      have e1 := flat_at (enc := enc) hlen d (List.replicate n d) (j / size) (j % size) ((enc d)[j % size]'hjm) (by simpa using hi) (by
        rw [List.getD_eq_getElem?_getD, List.getElem?_replicate, if_pos hi]
        simp [List.getElem?_eq_getElem hjm])
      rw [show j / size * size + j % size = j from by rw [Nat.mul_comm]; exact Nat.div_add_mod j size] at e1
      rw [e1]
      have hzj : j % size < z.cells.size := by rw [hzs]; exact Nat.mod_lt _ hpos
      have : (madeCells z.cells (n * size))[j]? = some (z.cells[j % size]'hzj) := by
        simp only [madeCells, hzs]
        rw [Array.getElem?_map, Array.getElem?_range, if_pos hj]
        simp only [Option.map_some, getElem!_pos z.cells (j % size) hzj]
      rw [Array.getElem?_toList, this]
      congr 1
      rw [← Array.getElem_toList]
      simp only [hzd]
    · rw [List.getElem?_eq_none (by rw [Array.length_toList, size_madeCells]; omega), List.getElem?_eq_none (by rw [flat_len hlen, List.length_replicate]; omega)]
  have hown : (w.alloc (.cells (madeCells z.cells (n * size)) e)).ownsRow w.heap.size e size (.slice (some ⟨w.heap.size, 0, none⟩) n n) n (madeCells z.cells (n * size)).toList :=
    World.ownsRow_lit w _ n (Nat.le_refl _) (by unfold maxLen; omega) (size_madeCells _ _)
  rw [hcs] at hown
  unfold Oper.wp execOp
  simp only [ho, hx, hy, Sem.run_bind, hr]
  show K (a.put oi.dst _) _
  unfold Act.put
  rw [hd]
  refine h _ _ ?_
  rw [List.length_replicate]
  exact hm.more ((Below.refl _ _).alloc (Nat.le_refl _) _) (hown.mono (Nat.zero_le _)) (fun g hg => (hown.lt g hg).1)
/-- 'make' of no elements, with room. -/
theorem m_make0 {α : Type} {enc : α → List Value} {size bytes : Nat} (c : Nat) (inf : TypeInfo) (z : Value) {kl kc : IntKind} (hm : Mm r S w0 w L) (dst : Tmp) (hd : oi.dst = some dst) (ho : oi.op = .makeSlice T x y) (ht : P.underlying T = some (.slice e)) (hi : P.info? e = some inf) (hz : inf.zero = some z) (hs : inf.size = size) (hby : inf.bytes = bytes)
    (hx : a.eval x = .int kl 0) (hy : a.eval y = .int kc (c : Int)) (hb : c * bytes ≤ 281474976710656) (hmax : c ≤ 9223372036854775807)
    (h : ∀ v' w', Mm r S w0 w' (L ++ [.row v' ([] : List α).length (([] : List α).flatMap enc) e size]) → K { a with tmps := a.tmps.setIfInBounds dst v' } w') : oi.wp P a w K Q := by
  have hr := run_make (P := P) w T e inf z ht hi hz kl kc 0 c (by omega) (by omega) (bytesI hby hb) (by omega)
  simp only [Int.toNat_natCast, Int.toNat_zero] at hr
  rw [hs] at hr
  have hown : (w.alloc (.cells (madeCells z.cells (c * size)) e)).ownsRow w.heap.size e size (.slice (some ⟨w.heap.size, 0, none⟩) 0 c) 0 [] :=
    World.ownsRow_made w _ c (Nat.le_refl _) (by unfold maxLen; omega) (size_madeCells _ _)
  unfold Oper.wp execOp
  simp only [ho, hx, hy, Sem.run_bind, hr]
  show K (a.put oi.dst _) _
  unfold Act.put
  rw [hd]
  exact h _ _ (hm.more ((Below.refl _ _).alloc (Nat.le_refl _) _) (hown.mono (Nat.zero_le _)) (fun g hg => (hown.lt g hg).1))
/-- A slice of no elements, written out. -/
theorem m_lit0 {α : Type} {enc : α → List Value} {size : Nat} (hm : Mm r S w0 w L) (dst : Tmp) (hd : oi.dst = some dst) (hrun : (execOp a.eval oi).run P w = .ok (.value (.slice (some ⟨w.heap.size, 0, none⟩) 0 0)) (w.alloc (.cells #[] e)))
    (h : ∀ v' w', Mm r S w0 w' (L ++ [.row v' ([] : List α).length (([] : List α).flatMap enc) e size]) → K { a with tmps := a.tmps.setIfInBounds dst v' } w') : oi.wp P a w K Q := by
  have hown : (w.alloc (.cells #[] e)).ownsRow w.heap.size e size (.slice (some ⟨w.heap.size, 0, none⟩) 0 0) 0 [] :=
    World.ownsRow_made w _ 0 (Nat.le_refl _) (Nat.zero_le _) (by simp)
  unfold Oper.wp
  rw [hrun]
  show K (a.put oi.dst _) _
  unfold Act.put
  rw [hd]
  exact h _ _ (hm.more ((Below.refl _ _).alloc (Nat.le_refl _) _) (hown.mono (Nat.zero_le _)) (fun g hg => (hown.lt g hg).1))
theorem run_append_nothing (w : World) (base : Nat) (t ty e : TypeId) (i : TypeInfo) (ht : P.underlying t = some (.slice e)) (hi : P.info? e = some i)
    (v : Value) (n : Nat) (xs : List Value) {size : Nat} (hown : w.ownsRow base e size v n xs) (c : Nat) :
    (Builtin.append_ #[t, t] ty #[v, .slice none 0 c]).run P w = .ok v w := by
  rcases hown.2 with ⟨rfl, rfl⟩ | ⟨g, cap, cur, rfl, _, _, hnc, _⟩
  · simp [Builtin.append_, run_underlying ht, sizeOf, typeInfo, hi, Builtin.lenOf, Builtin.firstCells]
  · simp [Builtin.append_, run_underlying ht, sizeOf, typeInfo, hi, Builtin.lenOf, Builtin.firstCells, hnc, storeCells]
/-- 'append' of a slice that is read to a row. -/
theorem m_appendR {α : Type} {enc : α → List Value} (i : Nat) {v : Value} {l l2 : List α} {size bytes : Nat} (inf : TypeInfo) (z : Value) (s : Operand) (ty : TypeId) (xv : Value) (hm : Mm r S w0 w L) (hi : L[i]? = some (.row v l.length (l.flatMap enc) e size)) (d : Tmp) (hd : oi.dst = some d)
    (ho : oi.op = .call { callee := .builtin .append, args := #[s, x], argTypes := #[ty, ty] }) (ht : P.underlying ty = some (.slice e)) (hinf : P.info? e = some inf) (hz : inf.zero = some z)
    (hsize : inf.size = size) (hby : inf.bytes = bytes) (hlen : ∀ x, (enc x).length = size) (hone : ∀ x, ∀ u ∈ enc x, u.oneCell' = true) (hzs : z.cells.size = size) (hsz : 0 < size) (hs : a.eval s = v) (hx : a.eval x = xv) (hsrc : Rs enc size l2 xv w)
    (h63 : l.length + l2.length ≤ 9223372036854775807) (hbytes : (l.length + l2.length) * bytes ≤ 180000000000000)
    (h : ∀ v' w', Mm r S w0 w' (L.set i (.row v' (l ++ l2).length ((l ++ l2).flatMap enc) e size)) → K { a with tmps := a.tmps.setIfInBounds d v' } w') (hbb : bytes ≤ 4096 := by decide) : oi.wp P a w K Q := by
  have e1 : (l ++ l2).flatMap enc = l.flatMap enc ++ l2.flatMap enc := List.flatMap_append
  obtain ⟨ao, c, rfl⟩ := Rd.form hsrc
  cases ao with
  | none =>
    have hl2 : l2 = [] := by
      rcases hsrc.2 with ⟨h0, _⟩ | ⟨g, o, c', h0, _⟩
      · exact List.eq_nil_of_length_eq_zero h0
      · cases h0
    subst hl2
    have hr := run_append_nothing (P := P) w 0 ty oi.type e inf ht hinf v l.length (l.flatMap enc) (hm.row i hi) c
    have := h v w (by
      rw [List.append_nil]
      have e2 : L.set i (.row v l.length (l.flatMap enc) e size) = L := by
        obtain ⟨hl, he⟩ := List.getElem?_eq_some_iff.1 hi
        rw [← he, List.set_getElem_self]
      rw [e2]
      exact hm)
    unfold Oper.wp execOp
    simp only [ho, resolve, invoke, builtin, Sem.run_bind, Sem.run_pure, Result.andThen_ok, List.map_toArray, List.map_cons, List.map_nil, hs, hx]
    simp only [List.length_nil] at hr ⊢
    simp only [hr]
    show K (a.put oi.dst _) _
    unfold Act.put
    rw [hd]
    exact this
  | some ad =>
    have hcells : ∀ (j : Nat) (u : Value), (l2.flatMap enc)[j]? = some u → w.cell? (ad.add j) = some u := by
      rcases hsrc.2 with ⟨h0, _⟩ | ⟨g, o, c', h0, hc, _⟩
      · intro j u hu
        rw [List.eq_nil_of_length_eq_zero h0] at hu
        cases hu
      · simp only [Value.slice.injEq, Option.some.injEq] at h0
        obtain ⟨rfl, _⟩ := h0
        intro j u hu
        rw [add_lit]
        exact hc j u hu
    refine m_append (P := P) i (news := l2.flatMap enc) inf z s x ty ad hm hi d hd ho ht hinf hz hsize hby hzs hsz hs hx (flat_len hlen l2) hcells (flat_one hone l2) (by unfold maxLen; omega) hbb hbytes (fun v' w' _ hm' => h v' w' ?_)
    rw [List.length_append, e1]
    exact hm'
/-- One element of a row is written: elements of one cell. -/
theorem m_setR {α : Type} {enc : α → List Value} (i : Nat) {v : Value} {l : List α} (k : Nat) (y' : α) (u : Value) (hm : Mm r S w0 w L) (hi : L[i]? = some (.row v l.length (l.flatMap enc) e 1)) (hd : oi.dst = none)
    (ho : oi.op = .store T x y) (hk : k < l.length) (hx : a.eval x = .pointer (some ⟨bk v, po v + k * 1, none⟩)) (hy : a.eval y = u) (hz : (P.info? T).map (·.size) = some 1) (hlen : ∀ x, (enc x).length = 1) (hu : enc y' = [u]) (h1 : u.oneCell' = true) 
    (h : ∀ w', Mm r S w0 w' (L.set i (.row v (l.set k y').length ((l.set k y').flatMap enc) e 1)) → K a w') : oi.wp P a w K Q := by
  have hown := hm.row i hi
  obtain ⟨hv, hp, hb⟩ := row_lies hown (by omega)
  have hkl : k < (l.flatMap enc).length := by rw [flat_len hlen]; omega
  rw [hp, Nat.zero_add, Nat.mul_one] at hx
  rw [hv] at hown
  have hcell := hown.cellAt k (by omega)
  rw [List.getElem?_eq_getElem hkl] at hcell
  have hfro := hown.frozenAt k
  obtain ⟨h2, h3⟩ := hown.stored k u
  rw [← hv] at h2
  have hst : (store ⟨bk v, k, none⟩ u).run P w = .ok () (w.setCell ⟨bk v, k, none⟩ u) := by
    rw [run_store P w _ u _ h1, hcell]
    simp [hfro]
  have hc1 := cells_one h1
  have hst2 : (storeCells ⟨bk v, k, none⟩ u.cells.toList 0).run P w = .ok () (w.setCell ⟨bk v, k, none⟩ u) := by
    rw [hc1]
    simp only [storeCells, Sem.run_bind, add_lit, Nat.add_zero, hst, Result.andThen_ok]
    rfl
  have hrun : (storeVar T ⟨bk v, k, none⟩ u).run P w = .ok () (w.setCell ⟨bk v, k, none⟩ u) := by
    cases hq : P.info? T with
    | none => simp [hq] at hz
    | some inf =>
      have hs : inf.size = 1 := by simpa [hq] using hz
      have hf : inf.size = u.cells.size := by rw [hs, hc1]; rfl
      simp [storeVar, sizeOf, typeInfo, hq, hf, hst2]
  unfold Oper.wp execOp
  simp only [ho, hx, hy, Instr.storeAt, Instr.sureAddr, Sem.run_bind, Sem.run_pure, Result.andThen_ok, hrun]
  show K (a.put oi.dst undef) _
  unfold Act.put
  rw [hd]
  refine h _ (hm.change i hi h3 (fun g e => by show v.ownBlock = some g; rw [hb]; exact e) ?_ (fun g hg => .inl hg))
  · show World.ownsRow _ 0 e 1 v (l.set k y').length ((l.set k y').flatMap enc)
    rw [List.length_set, flat_set1 hlen y' u hu]
    exact h2
end

/-- A slice written out is written no more. -/
theorem Mm.freezeB {S : Nat → Prop} {w W : World} {l : List Ent} {g : Nat} {c : Array Value} {T : TypeId} {α : Type} {enc : α → List Value} {size n cap : Nat} {ll : List α} (h : Mm none S w W l) (i : Nat) (hi : l[i]? = some (.blk g c T)) (hc : c.toList = ll.flatMap enc) (hn : n = ll.length) (hl : ∀ x, (enc x).length = size) (hcap : n ≤ cap := by omega) :
    Mm none S w W (l.set i (.see (Rs enc size ll (.slice (some ⟨g, 0, none⟩) n cap)) (fp (.slice (some ⟨g, 0, none⟩) n cap) (ll.flatMap enc)))) := by
  have hr : Rs enc size ll (.slice (some ⟨g, 0, none⟩) n cap) W := Rs.blk (h.at i hi) hc hn hl hcap
  have hg : ∀ g', fp (.slice (some ⟨g, 0, none⟩) n cap) (ll.flatMap enc) g' → g = g' := by
    rintro g' ⟨_, o, n', c', e⟩
    simp only [Value.slice.injEq, Option.some.injEq, Addr.mk.injEq] at e
    exact e.1.1
  refine h.changeG i hi (o := none) (grown_refl _ _) (fun _ e => by cases e) (Seal.rd hr) (fun g' hg' => .inl (hg g' hg')) (fun g' hg' => hg'.elim) (fun R F g' e hg' => ?_)
  simp only [Ent.see.injEq] at e
  obtain ⟨_, rfl⟩ := e
  exact .inl ((h.low i _ g' hi (hg g' hg')).elim id (fun e => by cases e))

/-! ### Rows in a row -/
def eV (v : Value) : List Value := [v]
theorem eV_len (x : Value) : (eV x).length = 1 := rfl
theorem fam_nil (W : World) (n : Nat) (e : TypeId) : Fam W (List.replicate n (.slice none 0 0)) (List.replicate n []) e := by
  refine ⟨by simp, fun k v l hv hl => ?_, fun i j v v' g _ hv _ hg => ?_⟩
  · rw [List.getElem?_replicate] at hv hl
    by_cases hk : k < n
    · rw [if_pos hk] at hv hl
      obtain rfl := Option.some.inj hv
      obtain rfl := Option.some.inj hl
      exact World.ownsRow_nil W 0 e 1
    · rw [if_neg hk] at hv; cases hv
  · rw [List.getElem?_replicate] at hv
    by_cases hk : i < n
    · rw [if_pos hk] at hv
      obtain rfl := Option.some.inj hv
      cases hg
    · rw [if_neg hk] at hv; cases hv
section
variable {r : Option Nat} {S : Nat → Prop} {w W : World} {l : List Ent} {vs : List Value} {ls : List (List Value)} {e : TypeId}
theorem Mm.fam (h : Mm r S w W l) (i : Nat) (hi : l[i]? = some (.fam vs ls e)) : Fam W vs ls e := h.ok i _ hi
theorem Mm.newfam (h : Mm r S w W l) (n : Nat) (e : TypeId) : Mm r S w W (l ++ [.fam (List.replicate n (.slice none 0 0)) (List.replicate n []) e]) :=
  h.more (Below.refl _ _) (fam_nil W n e) (fun g hg => by
    obtain ⟨k, v, hv, hg⟩ := hg
    rw [List.getElem?_replicate] at hv
    by_cases hk : k < n
    · rw [if_pos hk] at hv
      obtain rfl := Option.some.inj hv
      cases hg
    · rw [if_neg hk] at hv; cases hv)
end
/-- What a family's row reads as. -/
theorem Fam.rs {α : Type} {enc : α → List Value} {W : World} {vs : List Value} {ls : List (List α)} {e : TypeId} (h : Fam W vs (ls.map fun l => l.flatMap enc) e) (hlen : ∀ x, (enc x).length = 1) (k : Nat) (hk : k < ls.length) (dv : Value) : Rs enc 1 (ls.getD k []) (vs.getD k dv) W := by
  have hkv : k < vs.length := by rw [h.1, List.length_map]; exact hk
  have h1 := h.2.1 k vs[k] _ (List.getElem?_eq_getElem hkv) (by rw [List.getElem?_map, List.getElem?_eq_getElem hk]; rfl)
  rw [List.getD_eq_getElem?_getD, List.getD_eq_getElem?_getD, List.getElem?_eq_getElem hk, List.getElem?_eq_getElem hkv]
  refine Rs.row (e := e) ?_
  have h2 : (ls[k].flatMap enc).length = ls[k].length := by rw [flat_len hlen, Nat.mul_one]
  rw [h2] at h1
  exact h1
theorem Fam.one {W : World} {vs : List Value} {ls : List (List Value)} {e : TypeId} {k : Nat} {v : Value} (h : Fam W (vs.set k v) ls e) (hk : k < vs.length) : v.oneCell' = true := by
  obtain ⟨l, _, hl⟩ := h.at (k := k) (v := v) (List.getElem?_set_self hk)
  exact own_one hl
theorem Fam.len {W : World} {vs : List Value} {α : Type} {enc : α → List Value} {ls : List (List α)} {e : TypeId} (h : Fam W vs (ls.map fun l => l.flatMap enc) e) : vs.length = ls.length := by rw [h.1, List.length_map]
theorem s_lenF {P : Program} {o : Oper} {a : Act} {W W' : World} {x : Operand} {T e : TypeId} {v : Value} {n m size : Nat} {xs : List Value} (h : Rd W' v n size xs) (hn : n = m) (ho : o.op = .call { callee := .builtin .len, args := #[x], argTypes := #[T] }) (hT : P.underlying T = some (.slice e)) (hx : a.eval x = v) : (execOp a.eval o).run P W = .ok (.value (.int .i64 (m : Int))) W := by
  subst hn
  exact s_len h ho hT hx
/-- 'append' to a row of a family. -/
theorem m_appendF {P : Program} {Q : Exit → Act → World → Prop} {K : Act → World → Prop} {oi : Oper} {a : Act} {r : Option Nat} {S : Nat → Prop} {w0 w : World} {L : List Ent} {x : Operand} {e : TypeId} {α : Type} {enc : α → List Value} (i k : Nat) {vs : List Value} {ls : List (List α)} (dv : Value) (y : α) {bytes : Nat} (inf : TypeInfo) (z : Value) (s : Operand) (ty : TypeId) (ad : Addr) (c : Nat) (hm : Mm r S w0 w L) (hi : L[i]? = some (.fam vs (ls.map fun l => l.flatMap enc) e)) (hk : k < ls.length) (d : Tmp) (hd : oi.dst = some d)
    (ho : oi.op = .call { callee := .builtin .append, args := #[s, x], argTypes := #[ty, ty] }) (ht : P.underlying ty = some (.slice e)) (hinf : P.info? e = some inf) (hz : inf.zero = some z)
    (hsize : inf.size = 1) (hby : inf.bytes = bytes) (hlen : ∀ x, (enc x).length = 1) (hone : ∀ x, ∀ u ∈ enc x, u.oneCell' = true) (hzs : z.cells.size = 1) (hs : a.eval s = vs.getD k dv) (hx : a.eval x = .slice (some ad) 1 c) (hsrc : ∀ (j : Nat) (u : Value), (enc y)[j]? = some u → w.cell? (ad.add j) = some u)
    (h63 : (ls.getD k []).length + 1 ≤ 9223372036854775807) (hbytes : ((ls.getD k []).length + 1) * bytes ≤ 140737488355328)
    (h : ∀ v' w', Mm r S w0 w' (L.set i (.fam (vs.set k v') ((ls.set k (ls.getD k [] ++ [y])).map fun l => l.flatMap enc) e)) → K { a with tmps := a.tmps.setIfInBounds d v' } w') : oi.wp P a w K Q := by
  have hf := hm.fam i hi
  have hkv : k < vs.length := by rw [hf.1, List.length_map]; exact hk
  have hvk : vs[k]? = some (vs.getD k dv) := by rw [List.getD_eq_getElem?_getD, List.getElem?_eq_getElem hkv]; rfl
  have hlk : ls[k]? = some (ls.getD k []) := by rw [List.getD_eq_getElem?_getD, List.getElem?_eq_getElem hk]; rfl
  have hown := hf.2.1 k _ _ hvk (by rw [List.getElem?_map, hlk]; rfl)
  have h2l : ((ls.getD k []).flatMap enc).length = (ls.getD k []).length := by rw [flat_len hlen, Nat.mul_one]
  rw [h2l] at hown
  obtain ⟨v', w', hr, h2, h3, h4, h5⟩ := run_append_own_at (P := P) w 0 ty oi.type e inf z 1 bytes ht hinf hz hsize hby hzs (by decide) _ _ _ hown ad 1 c (enc y) (by rw [hlen]) hsrc (hone y) (by unfold maxLen; omega) hbytes (Nat.zero_le _)
  have h6 : ∀ g, v'.ownBlock = some g → (vs.getD k dv).ownBlock = some g ∨ w.heap.size ≤ g := by
    intro g hg
    rcases h5 with h5 | h5
    · exact .inl (by rw [← h5, hg])
    · rw [hg, Option.some.injEq] at h5
      exact .inr (by omega)
  have e1 : (ls.getD k []).flatMap enc ++ enc y = (ls.getD k [] ++ [y]).flatMap enc := by rw [List.flatMap_append]; simp
  have hlt : ∀ (j : Nat) (v : Value) (g : Nat), vs[j]? = some v → v.ownBlock = some g → g < w.heap.size := fun j v g hv hg => (hm.ok i _ hi).lt ⟨j, v, hv, hg⟩
  have hfam : Fam w' (vs.set k v') ((ls.set k (ls.getD k [] ++ [y])).map fun l => l.flatMap enc) e := by
    refine ⟨by rw [List.length_set, List.length_map, List.length_set, hf.1, List.length_map], fun j v l hv hl => ?_, fun j1 j2 v1 v2 g hj hv1 hv2 hg hg2 => ?_⟩
    · rw [List.getElem?_map] at hl
      by_cases hj : j = k
      · subst hj
        rw [List.getElem?_set_self hkv] at hv
        rw [List.getElem?_set_self hk] at hl
        obtain rfl := Option.some.inj hv
        obtain rfl := Option.some.inj hl
        show w'.ownsRow 0 e 1 v' ((ls.getD j [] ++ [y]).flatMap enc).length ((ls.getD j [] ++ [y]).flatMap enc)
        rw [flat_len hlen, Nat.mul_one, List.length_append, ← e1]
        exact h2
      · rw [List.getElem?_set_ne (fun e => hj e.symm)] at hv hl
        refine row_kept (hf.2.1 j v l hv (by rw [List.getElem?_map]; exact hl)) (fun g hg => h3.block g (hlt j v g hv hg) (fun e => ?_))
        exact hf.2.2 k j _ _ g (fun e => hj e.symm) hvk hv e.symm hg
    · by_cases h1 : j1 = k
      · subst h1
        rw [List.getElem?_set_self hkv] at hv1
        obtain rfl := Option.some.inj hv1
        rw [List.getElem?_set_ne hj] at hv2
        rcases h6 g hg with h7 | h7
        · exact hf.2.2 j1 j2 _ _ g hj hvk hv2 h7 hg2
        · exact absurd h7 (Nat.not_le.2 (hlt j2 _ g hv2 hg2))
      · rw [List.getElem?_set_ne (fun e => h1 e.symm)] at hv1
        by_cases h8 : j2 = k
        · subst h8
          rw [List.getElem?_set_self hkv] at hv2
          obtain rfl := Option.some.inj hv2
          rcases h6 g hg2 with h7 | h7
          · exact hf.2.2 j2 j1 _ _ g (fun e => hj e.symm) hvk hv1 h7 hg
          · exact absurd h7 (Nat.not_le.2 (hlt j1 _ g hv1 hg))
        · rw [List.getElem?_set_ne (fun e => h8 e.symm)] at hv2
          exact hf.2.2 j1 j2 _ _ g hj hv1 hv2 hg hg2
  have hnew : ∀ g, (∃ (j : Nat) (v : Value), (vs.set k v')[j]? = some v ∧ v.ownBlock = some g) → (∃ (j : Nat) (v : Value), vs[j]? = some v ∧ v.ownBlock = some g) ∨ w.heap.size ≤ g := by
    rintro g ⟨j, v, hv, hg⟩
    by_cases hj : j = k
    · subst hj
      rw [List.getElem?_set_self hkv] at hv
      obtain rfl := Option.some.inj hv
      exact (h6 g hg).imp (fun h => ⟨j, _, hvk, h⟩) id
    · rw [List.getElem?_set_ne (fun e => hj e.symm)] at hv
      exact .inl ⟨j, v, hv, hg⟩
  have := h v' w' (hm.change i hi h3 (fun g hg => ⟨k, _, hvk, hg⟩) hfam hnew)
  unfold Oper.wp execOp
  simp only [ho, resolve, invoke, builtin, Sem.run_bind, Sem.run_pure, Result.andThen_ok, List.map_toArray, List.map_cons, List.map_nil, hs, hx, hr]
  show K (a.put oi.dst _) _
  unfold Act.put
  rw [hd]
  exact this
/-- 'make' of slices. -/
theorem m_makeF {P : Program} {Q : Exit → Act → World → Prop} {K : Act → World → Prop} {oi : Oper} {a : Act} {r : Option Nat} {S : Nat → Prop} {w0 w : World} {L : List Ent} {x y : Operand} {T t e : TypeId} {bytes : Nat} (n : Nat) (inf : TypeInfo) (z : Value) {kl kc : IntKind} (hm : Mm r S w0 w L) (dst : Tmp) (hd : oi.dst = some dst) (ho : oi.op = .makeSlice T x y) (ht : P.underlying T = some (.slice t)) (hi : P.info? t = some inf) (hz : inf.zero = some z) (hs : inf.size = 1) (hby : inf.bytes = bytes)
    (hzd : z.cells.toList = eV (.slice none 0 0)) (hx : a.eval x = .int kl (n : Int)) (hy : a.eval y = .int kc (n : Int)) (hb : n * bytes ≤ 281474976710656) (hmax : n ≤ 9223372036854775807)
    (h : ∀ v' w', Mm r S w0 w' (L ++ [.row v' (List.replicate n (Value.slice none 0 0)).length ((List.replicate n (Value.slice none 0 0)).flatMap eV) t 1, .fam (List.replicate n (.slice none 0 0)) (List.replicate n []) e]) → K { a with tmps := a.tmps.setIfInBounds dst v' } w') : oi.wp P a w K Q :=
  m_makeR (enc := eV) (size := 1) n (.slice none 0 0) inf z hm dst hd ho ht hi hz hs hby eV_len hzd hx hy hb hmax (fun v' w' h' => h v' w' (by
    have := h'.newfam n e
    rwa [List.append_assoc] at this))
section
variable {P : Program} {fn : Func} {p q : Tmp} {ty ty' : TypeId} {tmps : Array Value} {w : World} {g g' : Nat} {t t' : TypeId} {cs cs' : Array Value} {d d' : TypeDesc} {v : Value}
theorem res_c (h : fn.results = #[.cell p ty]) (hp : tmps.getD p undef = .pointer (some ⟨g, 0, none⟩)) (hg : Blk w g cs t) (hu : P.underlying ty = some d) (hd : (match d with | .struct _ | .array _ _ => true | _ => false) = true) (hi : (P.info? ty).map (·.size) = some cs.size) :
    (results fn tmps).run P w = .ok (.agg cs) w := by
  obtain ⟨fz, hg, _⟩ := hg
  have hp' : tmps[p]?.getD undef = .pointer (some ⟨g, 0, none⟩) := by simpa using hp
  simp [results, h, hp', asAddr, run_loadVar_row w g t ty cs fz d hg hu hd hi]
theorem res_tc (h : fn.results = #[.tmp q, .cell p ty]) (hq : tmps.getD q undef = v) (hp : tmps.getD p undef = .pointer (some ⟨g, 0, none⟩)) (hg : Blk w g cs t) (hu : P.underlying ty = some d) (hd : (match d with | .struct _ | .array _ _ => true | _ => false) = true) (hi : (P.info? ty).map (·.size) = some cs.size) :
    (results fn tmps).run P w = .ok (.tuple #[v, .agg cs]) w := by
  obtain ⟨fz, hg, _⟩ := hg
  have hp' : tmps[p]?.getD undef = .pointer (some ⟨g, 0, none⟩) := by simpa using hp
  have hq' : tmps[q]?.getD undef = v := by simpa using hq
  simp [results, h, hp', hq', asAddr, run_loadVar_row w g t ty cs fz d hg hu hd hi]
theorem res_cc (h : fn.results = #[.cell p ty, .cell q ty']) (hp : tmps.getD p undef = .pointer (some ⟨g, 0, none⟩)) (hg : Blk w g cs t) (hu : P.underlying ty = some d) (hd : (match d with | .struct _ | .array _ _ => true | _ => false) = true) (hi : (P.info? ty).map (·.size) = some cs.size)
    (hq : tmps.getD q undef = .pointer (some ⟨g', 0, none⟩)) (hg' : Blk w g' cs' t') (hu' : P.underlying ty' = some d') (hd' : (match d' with | .struct _ | .array _ _ => true | _ => false) = true) (hi' : (P.info? ty').map (·.size) = some cs'.size) :
    (results fn tmps).run P w = .ok (.tuple #[.agg cs, .agg cs']) w := by
  obtain ⟨fz, hg, _⟩ := hg
  obtain ⟨fz', hg', _⟩ := hg'
  have hp' : tmps[p]?.getD undef = .pointer (some ⟨g, 0, none⟩) := by simpa using hp
  have hq' : tmps[q]?.getD undef = .pointer (some ⟨g', 0, none⟩) := by simpa using hq
  simp [results, h, hp', hq', asAddr, run_loadVar_row w g t ty cs fz d hg hu hd hi, run_loadVar_row w g' t' ty' cs' fz' d' hg' hu' hd' hi']
end
end Go.Proofs.YtikmkgoeepgbkaaGreatDoor.Mem
namespace Go.Proofs.YtikmkgoeepgbkaaGreatDoor.Mem
open Go.ChangeShapes Go.WideShapes Go.ChangeAt Go.RowKit Go.ChangeMaps
def Small {H : Type} (R : Nat) (P : Program) (t : TypeId) (d : DataW H) : Prop := ∀ n ∈ DataW.weights P t d, n ≤ R
def Opens (R : Nat) (P : Program) (e : TypeId) {α : Type} (ec : α → List Value) (ok : α → Prop) : Prop :=
  ∀ {H : Type} {enc : TypeId × Value → H} {W : World} {base : Nat} {held : Bool} {m : Nat} {cs : List Value} {x : DataW H × List MemPlace}, DataW.trod enc P W base (fun _ => true) held m e cs = some x → Small R P e x.1 → ∃ y, cs = ec y ∧ ok y
theorem opens_int {R : Nat} {P : Program} {t : TypeId} (ht : P.underlying t = some (.int .i64)) : Opens R P t eI (fun n => -9223372036854775808 ≤ n ∧ n ≤ 9223372036854775807) := by
  intro H enc W base held m cs x h _
  obtain ⟨n, rfl, _, hw⟩ := DataW.trod_int ht h
  exact ⟨n, rfl, bounds_i64 hw⟩
theorem opens_u8 {R : Nat} {P : Program} {t : TypeId} (ht : P.underlying t = some (.int .u8)) : Opens R P t eB (fun _ => True) := by
  intro H enc W base held m cs x h _
  obtain ⟨n, rfl, _, hw⟩ := DataW.trod_int ht h
  have hb := bounds_u8 hw
  refine ⟨UInt8.ofNat n.toNat, ?_, trivial⟩
  unfold eB bv
  congr 2
  simp
  omega
theorem opens_string {R : Nat} {P : Program} {t : TypeId} (ht : P.underlying t = some .string) : Opens R P t eS (fun s => s.length ≤ R) := by
  intro H enc W base held m cs x h hs
  obtain ⟨s, rfl, hx, _⟩ := DataW.trod_string ht h
  refine ⟨bl s, by rw [eS, tx_bl], ?_⟩
  have h1 := hs s.data.toList.length (by rw [hx]; simp [DataW.weights])
  exact h1
def eT (b : Bool) : List Value := [.bool b]
theorem opens_bool {R : Nat} {P : Program} {t : TypeId} (ht : P.underlying t = some .bool) : Opens R P t eT (fun _ => True) := by
  intro H enc W base held m cs x h _
  obtain ⟨b, rfl, _⟩ := DataW.trod_bool ht h
  exact ⟨b, rfl, trivial⟩
theorem weights_all {H : Type} {P : Program} {e : TypeId} {d : DataW H} : ∀ {l : List (DataW H)}, d ∈ l → ∀ n ∈ DataW.weights P e d, n ∈ DataW.weightsAll P e l
  | x :: l, h, n, hn => by
    unfold DataW.weightsAll
    rcases List.mem_cons.1 h with rfl | h
    · exact List.mem_append.2 (.inl hn)
    · exact List.mem_append.2 (.inr (weights_all h n hn))
theorem spot_none {W : World} {a : Addr} {v : Value} (h : W.cell? ((a.add 0).add 0) = some v) : a.spot = none := by
  have := World.cell?_spot h
  simpa [Addr.add] using this
theorem open_rs {R : Nat} {P : Program} {t e : TypeId} {α : Type} [Inhabited α] {ec : α → List Value} {ok : α → Prop} {k b : Nat} (ht : P.underlying t = some (.slice e)) (hk : P.cellsOf e = k) (hb : P.bytesOf e = b) (hk0 : 0 < k) (hlen : ∀ y, (ec y).length = k) (O : Opens R P e ec ok)
    {H : Type} {enc : TypeId × Value → H} {W : World} {base : Nat} {held : Bool} {m : Nat} {v : Value} {x : DataW H × List MemPlace} (h : DataW.trod enc P W base (fun _ => true) held m t [v] = some x) (hs : Small R P t x.1) :
    ∃ l : List α, Rs ec k l v W ∧ (∀ y ∈ l, ok y) ∧ l.length * b ≤ R := by
  rcases Go.Deep.open_slice ht h with ⟨hcs, _⟩ | ⟨a, len, cap, m', n, D, Pl, hcs, _, hlc, hl, hm, hx, hel⟩
  · simp only [List.cons.injEq, and_true] at hcs
    subst hcs
    exact ⟨[], Rs.nil ec k W, fun y hy => (by cases hy), by simp⟩
  · simp only [List.cons.injEq, and_true] at hcs
    subst hcs
    simp only [if_true] at hm
    subst hm
    rw [hk] at hel
    have hw : ∀ i, i < len → ∃ y, W.cells? base (a.add (i * k)) k = some (ec y) ∧ ok y := by
      intro i hi
      obtain ⟨cs', h1, h2⟩ := hel i (by omega)
      obtain ⟨y, rfl, hy⟩ := O h2 (fun n hn => hs n (by
        rw [hx]
        unfold DataW.weights
        simp only [ht]
        exact List.mem_cons_of_mem _ (List.mem_append.2 (.inl (weights_all (d := D i) (List.mem_map.2 ⟨i, List.mem_range.2 hi, rfl⟩) n hn)))))
      exact ⟨y, h1, hy⟩
    obtain ⟨Y, hY⟩ := Go.Deep.choose_lt hw
    have hll : ((List.range len).map Y).length = len := by simp
    refine ⟨(List.range len).map Y, ⟨flat_len hlen _, ?_⟩, fun y hy => ?_, ?_⟩
    · rw [hll]
      by_cases h0 : len = 0
      · exact .inl ⟨h0, some a, m', by rw [h0]⟩
      · have c0 := (World.cells?_some (hY 0 (by omega)).1).2.2 0 hk0
        have hspot : a.spot = none := by
          rw [List.getElem?_eq_getElem (by rw [hlen]; exact hk0), Nat.zero_mul] at c0
          exact spot_none c0
        obtain ⟨b', o', s'⟩ := a
        obtain rfl : s' = none := hspot
        refine .inr ⟨b', o', m', rfl, fun j u hu => ?_, hlc⟩
        have hj : j < len * k := by
          have := (List.getElem?_eq_some_iff.1 hu).1
          rwa [flat_len hlen, hll] at this
        have hi : j / k < len := Nat.div_lt_of_lt_mul (by rwa [Nat.mul_comm] at hj)
        have hr : j % k < k := Nat.mod_lt _ hk0
        have hjj : j / k * k + j % k = j := by rw [Nat.mul_comm]; exact Nat.div_add_mod j k
        have c1 := (World.cells?_some (hY (j / k) hi).1).2.2 (j % k) hr
        have hg : ((List.range len).map Y).getD (j / k) default = Y (j / k) := by
          rw [List.getD_eq_getElem?_getD, List.getElem?_map, List.getElem?_range hi]; rfl
        have hlt : j % k < (ec (Y (j / k))).length := by rw [hlen]; exact hr
        have h3 := flat_at hlen default ((List.range len).map Y) (j / k) (j % k) ((ec (Y (j / k)))[j % k]'hlt) (by rw [hll]; exact hi) (by rw [hg]; exact List.getElem?_eq_getElem hlt)
        rw [hjj, hu] at h3
        obtain rfl := Option.some.inj h3
        rw [List.getElem?_eq_getElem hlt, add_lit, add_lit, Nat.add_assoc, hjj] at c1
        exact c1
    · obtain ⟨i, hi, rfl⟩ := List.mem_map.1 hy
      exact (hY i (List.mem_range.1 hi)).2
    · have h1 := hs ((((List.range len).map D).length + ((List.range (m' - len)).map fun j => D (len + j)).length) * P.bytesOf e) (by
        rw [hx]
        unfold DataW.weights
        simp only [ht]
        exact List.mem_cons_self)
      rw [hll]
      rw [hb] at h1
      simp only [List.length_map, List.length_range] at h1
      exact Nat.le_trans (Nat.mul_le_mul_right _ (by omega)) h1
theorem field_open {R : Nat} {P : Program} {T : TypeId} {fs : Array Field} (ht : P.underlying T = some (.struct fs)) {H : Type} {enc : TypeId × Value → H} {W : World} {base : Nat} {held : Bool} {m : Nat} {cs : List Value} {x : DataW H × List MemPlace} (h : DataW.trod enc P W base (fun _ => true) held m T cs = some x) (hs : Small R P T x.1) :
    cs.length = P.cellsOf T ∧ ∃ n, ∀ (i : Nat) (f : Field), fs[i]? = some f → ∃ y, DataW.trod enc P W base (fun _ => true) held n f.type ((cs.drop f.offset).take (P.cellsOf f.type)) = some y ∧ Small R P f.type y.1 := by
  obtain ⟨xs, n, _, hx, hl, hlen, hel⟩ := DataW.trod_struct ht h
  refine ⟨hl, n, fun i f hf => ?_⟩
  have hi : i < fs.size := (Array.getElem?_eq_some_iff.1 hf).1
  have h1 := hel i f hf
  rw [List.getElem?_eq_getElem (by omega)] at h1
  refine ⟨_, h1, fun w hw => hs w ?_⟩
  rw [hx]
  unfold DataW.weights
  simp only [ht]
  exact DataW.weights_mem_each (j := i) (t := f.type) (d := (xs[i]'(by omega)).1) (by simp [hf]) (by rw [List.getElem?_map, List.getElem?_eq_getElem (by omega)]; rfl) w hw
end Go.Proofs.YtikmkgoeepgbkaaGreatDoor.Mem
namespace Go.Proofs.YtikmkgoeepgbkaaGreatDoor.Ev
open Go.ChangeShapes Go.WideShapes Go.ChangeAt Go.RowKit Go.ChangeMaps
open Go.Proofs.YtikmkgoeepgbkaaGreatDoor.Mem
set_option linter.unusedVariables false
def In (W : World) : Nat → Prop := fun g => g < W.heap.size
def reps (W : World) (l : List V) (c : List Value) : Prop := ∀ (q : Nat) (y : V) (v : Value), l[q]? = some y → c[q]? = some v → Rep (In W) W G0 y v
/-- What comes in at a type stands for a value. -/
def OpV (R : Nat) (P : Program) (t : TypeId) (k : Nat) {α : Type} (ev : α → V) (ok : α → Prop) : Prop :=
  ∀ {H : Type} {enc : TypeId × Value → H} {W : World} {base : Nat} {held : Bool} {m : Nat} {c : List Value} {x : DataW H × List MemPlace}, DataW.trod enc P W base (fun _ => true) held m t c = some x → Mem.Small R P t x.1 → ∃ y, ok y ∧ c.length = k ∧ reps W (cs (ev y)) c
theorem reps_nil (W : World) (c : List Value) : reps W [] c := fun q y v h => by simp at h
theorem reps_cons {W : World} {l rest : List V} {c : List Value} {off k : Nat} (h : reps W l ((c.drop off).take k)) (hl : l.length = k) (hr : reps W rest (c.drop (off + k))) : reps W (l ++ rest) (c.drop off) := fun q y v h1 h2 => by
  rcases Nat.lt_or_ge q k with hq | hq
  · rw [List.getElem?_append_left (by omega)] at h1
    exact h q y v h1 (by rw [List.getElem?_take_of_lt hq]; exact h2)
  · rw [List.getElem?_append_right (by omega), hl] at h1
    refine hr (q - k) y v h1 ?_
    rw [List.getElem?_drop] at h2 ⊢
    rw [← h2]
    congr 1
    omega
theorem reps_one {W : World} {y : V} {v : Value} (h : Rep (In W) W G0 y v) : reps W [y] [v] := fun q y' v' h1 h2 => by
  cases q with
  | zero => simp at h1 h2; subst h1; subst h2; exact h
  | succ q => simp at h1
section
variable {R : Nat} {P : Program} {t e : TypeId}
theorem opv_int {k : IntKind} (ht : P.underlying t = some (.int k)) : OpV R P t 1 (fun n : Int => .n k n) (fun n => (Lit.int k n).wf = true) := by
  intro H enc W base held m c x h _
  obtain ⟨n, rfl, _, hw⟩ := DataW.trod_int ht h
  exact ⟨n, hw, rfl, reps_one (.n _ _ _)⟩
theorem opv_u8 (ht : P.underlying t = some (.int .u8)) : OpV R P t 1 eB (fun _ => True) := by
  intro H enc W base held m c x h _
  obtain ⟨n, rfl, _, hw⟩ := DataW.trod_int ht h
  have hb := bounds_u8 hw
  refine ⟨UInt8.ofNat n.toNat, trivial, rfl, reps_one ?_⟩
  have : n = ((UInt8.ofNat n.toNat).toNat : Int) := by simp; omega
  unfold eB
  rw [← this]
  exact .n _ _ _
theorem opv_string (ht : P.underlying t = some .string) : OpV R P t 1 V.s (fun s => s.length ≤ R) := by
  intro H enc W base held m c x h hs
  obtain ⟨s, rfl, hx, _⟩ := DataW.trod_string ht h
  refine ⟨bl s, hs s.data.toList.length (by rw [hx]; simp [DataW.weights]), rfl, reps_one ?_⟩
  have := Rep.s (F := In W) (W := W) G0 (bl s)
  rwa [tx_bl] at this
theorem opv_bool (ht : P.underlying t = some .bool) : OpV R P t 1 V.b (fun _ => True) := by
  intro H enc W base held m c x h _
  obtain ⟨b, rfl, _⟩ := DataW.trod_bool ht h
  exact ⟨b, trivial, rfl, reps_one (.b _ _)⟩
theorem opv_map {α β : Type} {k : Nat} {ev : α → V} {ok : α → Prop} (O : OpV R P t k ev ok) (f : α → β) (ev' : β → V) (ok' : β → Prop) (h : ∀ y, ok y → ev' (f y) = ev y ∧ ok' (f y)) : OpV R P t k ev' ok' := by
  intro H enc W base held m c x hx hs
  obtain ⟨y, h1, h2, h3⟩ := O hx hs
  exact ⟨f y, (h y h1).2, h2, by rw [(h y h1).1]; exact h3⟩
theorem opv_slice {α : Type} {ev : α → V} {ok : α → Prop} {k b : Nat} (ht : P.underlying t = some (.slice e)) (hk : P.cellsOf e = k) (hb : P.bytesOf e = b) (hk0 : 0 < k) (hlen : ∀ y, (cs (ev y)).length = k) (hm : ∀ y i, men (ev y) i = false) (d : α) (O : OpV R P e k ev ok) :
    OpV R P t 1 (fun l : List α => .sl k α d l ev) (fun l => (∀ y ∈ l, ok y) ∧ l.length * b ≤ R) := by
  intro H enc W base held m c x h hs
  rcases Go.Deep.open_slice ht h with ⟨hcs, _⟩ | ⟨a, len, cap, m', n, D, Pl, hcs, _, hlc, hl, hm', hx, hel⟩
  · subst hcs
    exact ⟨[], ⟨fun y hy => (by cases hy), by simp⟩, rfl, reps_one (.sl0 _ _ _ _ _ _ _)⟩
  · subst hcs
    simp only [if_true] at hm'
    subst hm'
    rw [hk] at hel
    have hw : ∀ i, i < len → ∃ p : α × List Value, W.cells? base (a.add (i * k)) k = some p.2 ∧ ok p.1 ∧ reps W (cs (ev p.1)) p.2 := by
      intro i hi
      obtain ⟨cs', h1, h2⟩ := hel i (by omega)
      obtain ⟨y, hy, _, h3⟩ := O h2 (fun n hn => hs n (by
        rw [hx]
        unfold DataW.weights
        simp only [ht]
        exact List.mem_cons_of_mem _ (List.mem_append.2 (.inl (weights_all (d := D i) (List.mem_map.2 ⟨i, List.mem_range.2 hi, rfl⟩) n hn)))))
      exact ⟨(y, cs'), h1, hy, h3⟩
    haveI : Inhabited (α × List Value) := ⟨(d, [])⟩
    obtain ⟨Y, hY⟩ := Go.Deep.choose_lt hw
    have hll : ((List.range len).map fun i => (Y i).1).length = len := by simp
    have hget : ∀ (i : Nat) (y : α), ((List.range len).map fun i => (Y i).1)[i]? = some y → i < len ∧ y = (Y i).1 := fun i y h => by
      rw [List.getElem?_map] at h
      rcases Nat.lt_or_ge i len with hi | hi
      · rw [List.getElem?_range hi, Option.map_some, Option.some.injEq] at h
        exact ⟨hi, h.symm⟩
      · rw [List.getElem?_eq_none (by simpa using hi)] at h
        cases h
    refine ⟨(List.range len).map fun i => (Y i).1, ⟨fun y hy => ?_, ?_⟩, rfl, reps_one ?_⟩
    · obtain ⟨i, hi, rfl⟩ := List.mem_map.1 hy
      exact (hY i (List.mem_range.1 hi)).2.1
    · have h1 := hs ((((List.range len).map D).length + ((List.range (m' - len)).map fun j => D (len + j)).length) * P.bytesOf e) (by
        rw [hx]
        unfold DataW.weights
        simp only [ht]
        exact List.mem_cons_self)
      rw [hll]
      rw [hb] at h1
      simp only [List.length_map, List.length_range] at h1
      exact Nat.le_trans (Nat.mul_le_mul_right _ (by omega)) h1
    · by_cases h0 : len = 0
      · subst h0
        exact .sl0 _ _ _ _ _ _ _
      · have hc0 := World.cells?_some (hY 0 (by omega)).1
        have c0 := hc0.2.2 0 hk0
        have hl0 : 0 < (Y 0).2.length := by
          rcases Nat.eq_zero_or_pos (Y 0).2.length with hz | hz
          · have := hc0.1
            omega
          · exact hz
        have hspot : a.spot = none := by
          rw [List.getElem?_eq_getElem hl0, Nat.zero_mul] at c0
          exact spot_none c0
        obtain ⟨b', o', s'⟩ := a
        obtain rfl : s' = none := hspot
        have hcell : ∀ i, i < len → ∀ q, q < k → W.cell? ⟨b', o' + (i * k + q), none⟩ = some ((Y i).2.getD q undef) := fun i hi q hq => by
          have h1 := World.cells?_some (hY i hi).1
          have h2 := h1.2.2 q hq
          rw [add_lit, add_lit, Nat.add_assoc] at h2
          rw [h2, List.getD_eq_getElem?_getD, List.getElem?_eq_getElem (by have := h1.1; omega)]
          rfl
        have hlt : b' < W.heap.size := block_lt_of_cell (hcell 0 (by omega) 0 hk0)
        have hR := Rep.sl (F := In W) (W := W) G0 k α d ((List.range len).map fun i => (Y i).1) ev b' o' m' (fun i q => (Y i).2.getD q undef) hlt (by rw [hll]; exact hlc) (fun i y h i' => hm y i') (fun i y h => hlen y) (fun i y q yv h1 h2 => ?_) (fun i y q yv h1 h2 => ?_)
        · rw [hll] at hR
          exact hR
        · obtain ⟨hi, rfl⟩ := hget i y h1
          exact hcell i hi q (by have := (List.getElem?_eq_some_iff.1 h2).1; rw [hlen] at this; exact this)
        · obtain ⟨hi, rfl⟩ := hget i y h1
          have hq : q < k := by have := (List.getElem?_eq_some_iff.1 h2).1; rw [hlen] at this; exact this
          have h3 := World.cells?_some (hY i hi).1
          exact (hY i hi).2.2 q yv _ h2 (by rw [List.getD_eq_getElem?_getD, List.getElem?_eq_getElem (by have := h3.1; omega)]; rfl)
/-- A field of a struct. -/
theorem opv_field {α : Type} {ev : α → V} {ok : α → Prop} {k off : Nat} {H : Type} {enc : TypeId × Value → H} {W : World} {base : Nat} {held : Bool} {n : Nat} {c : List Value} (O : OpV R P e k ev ok) (hk : P.cellsOf e = k)
    (h : ∃ y, DataW.trod enc P W base (fun _ => true) held n e ((c.drop off).take (P.cellsOf e)) = some y ∧ Mem.Small R P e y.1) : ∃ y, ok y ∧ reps W (cs (ev y)) ((c.drop off).take k) := by
  obtain ⟨y, h1, h2⟩ := h
  rw [hk] at h1
  obtain ⟨z, h3, _, h4⟩ := O h1 h2
  exact ⟨z, h3, h4⟩
/-- An argument of one cell. -/
theorem arg_one {α : Type} {ev : α → V} {ok : α → Prop} (O : OpV R P t 1 ev ok) (h1 : ∀ y, cs (ev y) = [ev y]) {H : Type} {enc : TypeId × Value → H} {W : World} {base : Nat} {held : Bool} {v : Value} {d : DataW H} {p : List MemPlace} (hc : v.cells = #[v]) (h : DataW.Trod enc P W base (fun _ => true) held t v d p) (hs : Mem.Small R P t d) : ∃ y, ok y ∧ Rep (In W) W G0 (ev y) v := by
  obtain ⟨fuel, hh⟩ := h
  rw [hc] at hh
  obtain ⟨y, h2, _, h3⟩ := O hh hs
  exact ⟨y, h2, h3 0 _ v (by rw [h1]; rfl) rfl⟩
theorem arg_ag {α : Type} {evl : α → List V} {ok : α → Prop} {k : Nat} (O : OpV R P t k (fun y => .ag (evl y)) ok) (hlen : ∀ y, (evl y).length = k) {H : Type} {enc : TypeId × Value → H} {W : World} {base : Nat} {held : Bool} {c : Array Value} {d : DataW H} {p : List MemPlace} (h : DataW.Trod enc P W base (fun _ => true) held t (.agg c) d p) (hs : Mem.Small R P t d) : ∃ y, ok y ∧ Rep (In W) W G0 (.ag (evl y)) (.agg c) := by
  obtain ⟨fuel, hh⟩ := h
  obtain ⟨y, h2, h3, h4⟩ := O hh hs
  refine ⟨y, h2, .ag _ _ _ ?_ fun q yv v e1 e2 => h4 q yv v e1 ?_⟩
  · rw [hlen]; simpa [Value.cells] using h3
  · simpa [Value.cells] using e2
end
end Go.Proofs.YtikmkgoeepgbkaaGreatDoor.Ev
