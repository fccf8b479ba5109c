/- Numbers of words and of bytes: plain facts, no program. -/
import Derived.Lib.Strings
import Derived.Test.YtikmkgoeepgbkaaGreatDoorRows
import Derived.WalkKit
import Derived.ProofKit
import Derived.Lib.Hide
import Derived.IntWalk
import Derived.WalkSmall
import Derived.BigQuiet
import Derived.StillTailTactics
import Derived.Stop.BytesEq
import Derived.Deep.RegionHeld3
import Derived.Lib.EndianBits
import Derived.Laws.IdiomStrings
import Derived.Laws.MakeOwn
import Derived.Laws.AppendOwn
import Derived.Deep.Onto
import Derived.Deep.AppendLies
import Derived.Lib.AppendStr
import Derived.Laws.DeepStrings4
import Derived.Laws.Cover1
import Derived.Laws.BitsLemmas
import Derived.Lib.BufferRead
set_option linter.all false
namespace Go.Proofs.YtikmkgoeepgbkaaGreatDoor.Num

/-- The number of n digits to base b, the lowest first. -/
def val (b : Nat) (f : Nat → Nat) : Nat → Nat
  | 0 => 0
  | n + 1 => val b f n + f n * b ^ n
def up (f : Nat → Nat) (i x : Nat) : Nat → Nat := fun j => if j = i then x else f j
theorem val_congr {b : Nat} {f g : Nat → Nat} : ∀ {n : Nat}, (∀ j, j < n → f j = g j) → val b f n = val b g n
  | 0, _ => rfl
  | n + 1, h => by rw [val, val, val_congr (fun j hj => h j (by omega)), h n (by omega)]
theorem val_add (b : Nat) (f : Nat → Nat) (m : Nat) : ∀ n : Nat, val b f (m + n) = val b f m + b ^ m * val b (fun j => f (m + j)) n
  | 0 => by simp [val]
  | n + 1 => by
    rw [← Nat.add_assoc, val, val_add b f m n, val, Nat.mul_add, Nat.pow_add, Nat.add_assoc]
    congr 2
    rw [Nat.mul_left_comm]
theorem val_lt {b : Nat} {f : Nat → Nat} : ∀ {n : Nat}, (∀ j, j < n → f j < b) → val b f n < b ^ n
  | 0, _ => by simp [val]
  | n + 1, h => by
    have ih := val_lt (n := n) (fun j hj => h j (by omega))
    have hn := h n (by omega)
    have : (f n + 1) * b ^ n ≤ b * b ^ n := Nat.mul_le_mul_right _ hn
    rw [Nat.add_mul, Nat.one_mul] at this
    rw [val, Nat.pow_succ, Nat.mul_comm (b ^ n) b]
    omega
theorem val_up {b : Nat} {f : Nat → Nat} {k x : Nat} : ∀ {n : Nat}, k < n → val b (up f k x) n + f k * b ^ k = val b f n + x * b ^ k
  | n + 1, h => by
    rw [val, val]
    by_cases e : k = n
    · subst e
      rw [val_congr (f := up f k x) (g := f) (fun j hj => by unfold up; rw [if_neg (by omega)])]
      show _ + (if k = k then x else f k) * _ + _ = _
      rw [if_pos rfl]; omega
    · have ih := val_up (b := b) (f := f) (k := k) (x := x) (n := n) (by omega)
      have : up f k x n = f n := by unfold up; rw [if_neg (fun e' => e e'.symm)]
      rw [this]; omega
theorem val_digits (b x : Nat) : ∀ n, val b (fun j => x / b ^ j % b) n = x % b ^ n
  | 0 => by simp [val, Nat.mod_one]
  | n + 1 => by rw [val, val_digits b x n, Nat.mod_pow_succ, Nat.mul_comm (b ^ n)]
theorem val_head (b : Nat) (f : Nat → Nat) (m : Nat) : val b f (1 + m) = f 0 + b * val b (fun j => f (1 + j)) m := by
  rw [val_add]; simp [val]
theorem val_word {b : Nat} {f : Nat → Nat} {n q : Nat} (h : ∀ j, j < n → f j < b) (hq : q < n) : val b f n / b ^ q % b = f q := by
  have hb : 0 < b := Nat.lt_of_le_of_lt (Nat.zero_le _) (h q hq)
  obtain ⟨m, rfl⟩ : ∃ m, n = q + (1 + m) := ⟨n - q - 1, by omega⟩
  rw [val_add, Nat.add_mul_div_left _ _ (Nat.pow_pos hb), Nat.div_eq_of_lt (val_lt fun j hj => h j (by omega)), Nat.zero_add, val_head, Nat.add_mul_mod_self_left, Nat.mod_eq_of_lt (h _ (by omega))]
  rfl
theorem val_split (b : Nat) (f : Nat → Nat) (m : Nat) : ∀ n : Nat, val (b ^ m) (fun i => val b (fun j => f (m * i + j)) m) n = val b f (m * n)
  | 0 => by simp [val]
  | n + 1 => by
    rw [val, val_split b f m n, Nat.mul_succ, val_add, ← Nat.pow_mul, Nat.mul_comm (b ^ (m * n))]

/-- What is borrowed ahead of word n of a less b; the words of the difference. -/
def bor (a b : Nat → Nat) : Nat → Nat
  | 0 => 0
  | n + 1 => if a n < b n + bor a b n then 1 else 0
def dif (a b : Nat → Nat) (i : Nat) : Nat := (a i + 18446744073709551616 - b i - bor a b i) % 18446744073709551616
theorem bor_le (a b : Nat → Nat) : ∀ n, bor a b n ≤ 1
  | 0 => by simp [bor]
  | n + 1 => by rw [bor]; split <;> omega
theorem dif_lt (a b : Nat → Nat) (i : Nat) : dif a b i < 18446744073709551616 := Nat.mod_lt _ (by decide)
theorem dif_val (a b : Nat → Nat) : ∀ n, (∀ j, j < n → a j < 18446744073709551616) → (∀ j, j < n → b j < 18446744073709551616) →
    val 18446744073709551616 (dif a b) n + val 18446744073709551616 b n = val 18446744073709551616 a n + bor a b n * 18446744073709551616 ^ n
  | 0, _, _ => by simp [val, bor]
  | n + 1, ha, hb => by
    have ih := dif_val a b n (fun j hj => ha j (by omega)) (fun j hj => hb j (by omega))
    have h1 := ha n (by omega)
    have h2 := hb n (by omega)
    have h3 := bor_le a b n
    have e : dif a b n + b n + bor a b n = a n + bor a b (n + 1) * 18446744073709551616 := by
      unfold dif; rw [bor]; split <;> omega
    rw [val, val, val, Nat.pow_succ, Nat.mul_comm (18446744073709551616 ^ n), ← Nat.mul_assoc]
    generalize 18446744073709551616 ^ n = P at *
    have e2 := congrArg (· * P) e
    simp only [Nat.add_mul] at e2
    omega
theorem bor_val (a b : Nat → Nat) (n : Nat) (ha : ∀ j, j < n → a j < 18446744073709551616) (hb : ∀ j, j < n → b j < 18446744073709551616) :
    bor a b n = if val 18446744073709551616 a n < val 18446744073709551616 b n then 1 else 0 := by
  have h := dif_val a b n ha hb
  have h2 : val 18446744073709551616 (dif a b) n < 18446744073709551616 ^ n := val_lt fun j _ => dif_lt a b j
  have h3 := bor_le a b n
  have h4 : bor a b n = 0 ∨ bor a b n = 1 := by omega
  rcases h4 with h4 | h4
  · rw [h4] at h ⊢; rw [if_neg (by omega)]
  · rw [h4] at h ⊢; rw [if_pos (by omega)]

/-- What comes into word n of twice w; its words. -/
def dc (w : Nat → Nat) (c : Nat) : Nat → Nat
  | 0 => c
  | n + 1 => w n / 9223372036854775808
def dbl (w : Nat → Nat) (c i : Nat) : Nat := w i * 2 % 18446744073709551616 + dc w c i
theorem dc_le (w : Nat → Nat) (c n : Nat) (hc : c ≤ 1) (hw : ∀ j, j < n → w j < 18446744073709551616) : dc w c n ≤ 1 := by
  cases n with
  | zero => exact hc
  | succ n => have := hw n (by omega); rw [dc]; omega
theorem dbl_lt (w : Nat → Nat) (c n : Nat) (hc : c ≤ 1) (hw : ∀ j, j < n + 1 → w j < 18446744073709551616) : dbl w c n < 18446744073709551616 := by
  have := dc_le w c n hc (fun j hj => hw j (by omega))
  unfold dbl; omega
theorem dbl_val (w : Nat → Nat) (c : Nat) : ∀ n, (∀ j, j < n → w j < 18446744073709551616) →
    val 18446744073709551616 (dbl w c) n + dc w c n * 18446744073709551616 ^ n = 2 * val 18446744073709551616 w n + c
  | 0, _ => by simp [val, dc]
  | n + 1, hw => by
    have ih := dbl_val w c n (fun j hj => hw j (by omega))
    have h1 := hw n (by omega)
    have e : dbl w c n + dc w c (n + 1) * 18446744073709551616 = 2 * w n + dc w c n := by
      unfold dbl; rw [dc]; omega
    rw [val, val, Nat.pow_succ, Nat.mul_comm (18446744073709551616 ^ n), ← Nat.mul_assoc]
    generalize 18446744073709551616 ^ n = P at *
    have e2 := congrArg (· * P) e
    simp only [Nat.add_mul] at e2
    have e3 : 2 * w n * P = 2 * (w n * P) := Nat.mul_assoc _ _ _
    omega
end Go.Proofs.YtikmkgoeepgbkaaGreatDoor.Num
namespace Go.Proofs.YtikmkgoeepgbkaaGreatDoor.Arr
open Go.RowKit
open Go.Proofs.YtikmkgoeepgbkaaGreatDoor.Num (up)

/-- The numbers f(0), f(1), .. up to n, as cells of kind k. -/
def rowOf (k : IntKind) (f : Nat → Nat) (n : Nat) : Array Value := ((List.range n).map fun j => Value.int k (f j : Int)).toArray
theorem rowOf_size (k : IntKind) (f : Nat → Nat) (n : Nat) : (rowOf k f n).size = n := by simp [rowOf]
theorem rowOf_get (k : IntKind) (f : Nat → Nat) (n j : Nat) (h : j < n) : (rowOf k f n)[j]? = some (.int k (f j : Int)) := by
  unfold rowOf
  rw [List.getElem?_toArray, List.getElem?_map, List.getElem?_range h]; rfl
theorem rowOf_one (k : IntKind) (f : Nat → Nat) (n : Nat) : (rowOf k f n).all (·.oneCell') = true := by
  rw [Array.all_eq_true_iff_forall_mem]
  intro x hx
  unfold rowOf at hx
  rw [List.mem_toArray, List.mem_map] at hx
  obtain ⟨_, _, rfl⟩ := hx
  rfl
theorem rowOf_congr {k : IntKind} {f g : Nat → Nat} {n : Nat} (h : ∀ j, j < n → f j = g j) : rowOf k f n = rowOf k g n := by
  unfold rowOf
  congr 1
  exact List.map_congr_left fun j hj => by rw [h j (List.mem_range.1 hj)]
theorem rowOf_set (k : IntKind) (f : Nat → Nat) (n i x : Nat) : (rowOf k f n).setIfInBounds i (.int k (x : Int)) = rowOf k (up f i x) n := by
  apply Array.ext
  · simp [rowOf_size]
  · intro j h1 h2
    rw [rowOf_size] at h2
    have e2 := rowOf_get k (up f i x) n j h2
    have e1 : ((rowOf k f n).setIfInBounds i (.int k (x : Int)))[j]? = some (.int k ((up f i x j : Nat) : Int)) := by
      rw [Array.getElem?_setIfInBounds, rowOf_size, rowOf_get k f n j h2]
      unfold up
      by_cases hij : i = j
      · subst hij; simp [h2]
      · rw [if_neg hij, if_neg (fun e => hij e.symm)]
    rw [← e1] at e2
    rw [Array.getElem?_eq_getElem h1, Array.getElem?_eq_getElem (by rw [rowOf_size]; exact h2)] at e2
    exact (Option.some.inj e2).symm
/-- Block B holds the n numbers f(0), f(1), .. -/
def Row (w : World) (B n T : Nat) (k : IntKind) (f : Nat → Nat) : Prop := w.heap[B]? = some (.cells (rowOf k f n) T (0, 0))
section
variable {w w' : World} {B n T : Nat} {k : IntKind} {f : Nat → Nat}
theorem Row.heap (h : Row w B n T k f) : w.heap[B]? = some (.cells (rowOf k f n) T (0, 0)) := h
theorem Row.at (h : Row w B n T k f) (j : Nat) (hj : j < n) : w.cell? ⟨B, j, none⟩ = some (.int k (f j : Int)) ∧ w.frozen? ⟨B, j, none⟩ = false :=
  ⟨by rw [cell_of_row w B j _ T (0, 0) h, rowOf_get k f n j hj], frozen_of_row w B j _ T h⟩
theorem Row.set (h : Row w B n T k f) (i x : Nat) : Row (w.setCell ⟨B, i, none⟩ (.int k (x : Int))) B n T k (up f i x) := by
  unfold Row
  rw [heap_setCell_same w B i _ T _ h, rowOf_set]
theorem Row.other (h : Row w B n T k f) (p : Addr) (v : Value) (hp : p.block ≠ B) : Row (w.setCell p v) B n T k f := by
  unfold Row
  rw [heap_setCell_other w p B v (fun e => hp e.symm)]; exact h
theorem Row.below {b : Nat} (h : Row w B n T k f) (hb : Below b w w') (hB : B < b) : Row w' B n T k f := by
  unfold Row
  rw [hb.block B hB]; exact h
theorem Row.drew (h : Row w B n T k f) : Row w.drew B n T k f := h
theorem Row.drewN (h : Row w B n T k f) (m : Nat) : Row (w.drewN m) B n T k f := h
theorem Row.lt (h : Row w B n T k f) : B < w.heap.size := (Array.getElem?_eq_some_iff.1 h).1
theorem Row.lit (w : World) (T n : Nat) (c : Array Value) (k : IntKind) (f : Nat → Nat) (hc : c = rowOf k f n) : Row (w.alloc (.cells c T)) w.heap.size n T k f := by
  unfold Row
  rw [heap_alloc_new w _, hc]
theorem Row.setRow {n' : Nat} {g : Nat → Nat} (h : Row w B n T k f) (hn : n = n') : Row (w.setRow B (rowOf k g n')) B n T k g := by
  subst hn
  exact setRow_heap w B _ _ T (0, 0) h
theorem Row.setRow_other {g : Nat} {cs : Array Value} (h : Row w B n T k f) (hg : B ≠ g) : Row (w.setRow g cs) B n T k f := by
  unfold Row
  rw [Go.setRow_other w g B cs hg]; exact h
theorem Row.congr {g : Nat → Nat} (h : Row w B n T k f) (hg : ∀ j, j < n → f j = g j) : Row w B n T k g := by
  unfold Row at h ⊢
  rw [h, rowOf_congr hg]
end
theorem below_setRow {b : Nat} {a w : World} {g : Nat} {cs : Array Value} (h : Below b a w) (hg : b ≤ g) : Below b a (w.setRow g cs) :=
  h.trans ⟨rfl, rfl, rfl, by simp, fun k hk => setRow_other w g k cs (by omega)⟩
/-- For regions that draw their order: all that was there at a is as it was. -/
theorem sstep {a W w' : World} (hb : Below W.heap.size W w') (h : Below a.heap.size a W) : Below a.heap.size a w' := h.trans (hb.mono h.size)
theorem slt {b : Nat} {W w' : World} (hb : Below b W w') : ∀ k, k < W.heap.size → k < w'.heap.size := fun _ h => Nat.lt_of_lt_of_le h hb.size
theorem salloc {a W : World} (h : Below a.heap.size a W) (o : Obj) : Below a.heap.size a (W.alloc o) := h.alloc h.size o
theorem sset {a W : World} (h : Below a.heap.size a W) (p : Addr) (v : Value) (hp : a.heap.size ≤ p.block) : Below a.heap.size a (W.setCell p v) := h.setCell hp v
theorem sdrew (a : World) : Below a.heap.size a a.drew := (Below.refl _ _).drew
theorem scell {a w' : World} (h : Below a.heap.size a w') (b o : Nat) {x : Value} (hx : a.cell? ⟨b, o, none⟩ = some x) : w'.cell? ⟨b, o, none⟩ = some x :=
  (h.cell (p := ⟨b, o, none⟩) (block_lt_of_cell hx)).trans hx
end Go.Proofs.YtikmkgoeepgbkaaGreatDoor.Arr
namespace Go.Proofs.YtikmkgoeepgbkaaGreatDoor.Sym
open Go.RowKit
open Go.Proofs.YtikmkgoeepgbkaaGreatDoor.Arr (below_setRow)

/-- Block g holds the cells c. -/
def Blk (W : World) (g : Nat) (c : Array Value) (T : TypeId) : Prop := W.heap[g]? = some (.cells c T (0, 0))
section
variable {w W W' : World} {g g' : Nat} {c d : Array Value} {T : TypeId}
theorem Blk.lt (h : Blk W g c T) : g < W.heap.size := (Array.getElem?_eq_some_iff.1 h).1
theorem Blk.call (h : Blk W g c T) (hb : Below W.heap.size W W') : Blk W' g c T := by
  unfold Blk
  rw [hb.block _ h.lt]; exact h
theorem Blk.new (he : W' = W.alloc (.cells c T)) : Blk W' W.heap.size c T := by
  subst he; exact heap_alloc_new W _
theorem Blk.alloc {o : Obj} (h : Blk W g c T) (he : W' = W.alloc o) : Blk W' g c T := by
  subst he; exact h.call ((Below.refl _ _).alloc (Nat.le_refl _) _)
theorem Blk.set (h : Blk W g c T) (he : W' = W.setRow g d) : Blk W' g d T := by
  subst he; exact setRow_heap _ _ _ _ _ _ h
theorem Blk.other (h : Blk W g c T) (hg : g ≠ g') (he : W' = W.setRow g' d) : Blk W' g c T := by
  subst he; unfold Blk; rw [Go.setRow_other W g' g d hg]; exact h
theorem Blk.drew (h : Blk W g c T) : Blk W.drew g c T := h
theorem bel_call (h : Below w.heap.size w W) (hb : Below W.heap.size W W') : Below w.heap.size w W' := h.trans (hb.mono h.size)
theorem bel_alloc {o : Obj} (h : Below w.heap.size w W) (he : W' = W.alloc o) : Below w.heap.size w W' := by subst he; exact h.alloc h.size _
theorem bel_set (h : Below w.heap.size w W) (hg : w.heap.size ≤ g) (he : W' = W.setRow g d) : Below w.heap.size w W' := by subst he; exact below_setRow h hg
theorem lt_alloc {o : Obj} (hg : g < W.heap.size) (he : W' = W.alloc o) : g < W'.heap.size := by subst he; simp; omega
end
section
variable {P : Program} {ops : Array Oper} {Q : Exit → Act → World → Prop} {md : Region.Mode} {S : World → Prop}
theorem wanted_none {o : Oper} {ys : Nat → Option Bool} (h : o.guard = none) : Region.wanted o ys = true := by unfold Region.wanted; rw [h]
/-- Number i yields v in every world that S holds of: it is taken first. -/
theorem take_at {oi : Oper} {fuel : Nat} {listed : Array Bool} {a : Act} {w : World} (i : Nat) (d : Tmp) (v : Value) (hi : ops[i]? = some oi) (hd : oi.dst = some d)
    (hs : Region.noSelect ops = true) (hf : Region.free md ops listed i = true) (hr : (Region.ready md ops listed).contains i = true)
    (hQ : ∀ c a w, Q (.panic c) (a.put oi.dst v) w → Q (.panic c) a w) (hw : Region.wanted oi (yielded ops a.tmps) = true) (hy : ∀ w, S w → (execOp a.eval oi).run P w = .ok (.value v) w) (hS : S w)
    (h : wpAnyH P md ops Q S fuel (listed.setIfInBounds i true) { a with tmps := a.tmps.setIfInBounds d v } w) : wpAnyH P md ops Q S (fuel + 1) listed a w :=
  wpAnyH_take hi hs hf hr hQ (.inl ⟨hw, hy⟩) hS (by unfold Act.put; rw [hd]; exact h)
theorem one_ready {fuel : Nat} {listed : Array Bool} {a : Act} {w : World} (i : Nat) (hr : Region.ready md ops listed = [i])
    (h : wpOp P ops Q i (fun a' w' => S w' ∧ wpAnyH P md ops Q S fuel (listed.setIfInBounds i true) a' w') a w) : wpAnyH P md ops Q S (fuel + 1) listed a w :=
  wpAnyH_all hr (by simp) (fun k hk => by rw [List.mem_singleton] at hk; rw [hk]; exact h)
theorem two_ready {fuel : Nat} {listed : Array Bool} {a : Act} {w : World} (i j : Nat) (hr : Region.ready md ops listed = [i, j])
    (h : wpOp P ops Q i (fun a' w' => S w' ∧ wpAnyH P md ops Q S fuel (listed.setIfInBounds i true) a' w') a w)
    (h' : wpOp P ops Q j (fun a' w' => S w' ∧ wpAnyH P md ops Q S fuel (listed.setIfInBounds j true) a' w') a w) : wpAnyH P md ops Q S (fuel + 1) listed a w :=
  wpAnyH_all hr (by simp) (fun k hk => by
    rcases List.mem_cons.1 hk with rfl | hk
    · exact h
    · rw [List.mem_singleton] at hk; rw [hk]; exact h')
theorem three_ready {fuel : Nat} {listed : Array Bool} {a : Act} {w : World} (i j k : Nat) (hr : Region.ready md ops listed = [i, j, k])
    (h : wpOp P ops Q i (fun a' w' => S w' ∧ wpAnyH P md ops Q S fuel (listed.setIfInBounds i true) a' w') a w)
    (h' : wpOp P ops Q j (fun a' w' => S w' ∧ wpAnyH P md ops Q S fuel (listed.setIfInBounds j true) a' w') a w)
    (h'' : wpOp P ops Q k (fun a' w' => S w' ∧ wpAnyH P md ops Q S fuel (listed.setIfInBounds k true) a' w') a w) : wpAnyH P md ops Q S (fuel + 1) listed a w :=
  wpAnyH_all hr (by simp) (fun m hm => by
    rcases List.mem_cons.1 hm with rfl | hm
    · exact h
    · rcases List.mem_cons.1 hm with rfl | hm
      · exact h'
      · rw [List.mem_singleton] at hm; rw [hm]; exact h'')
section
variable {oi : Oper} {a : Act} {w : World} {i : Nat} {K : Act → World → Prop}
theorem opd (hi : ops[i]? = some oi) (hw : Region.wanted oi (yielded ops a.tmps) = true) (h : oi.wp P a w K Q) : wpOp P ops Q i K a w := by
  unfold wpOp
  simp only [hi]
  rw [if_pos hw]
  exact .inl h
theorem lst {rest : List Oper} (hw : Region.wanted oi (yielded ops a.tmps) = true) (h : oi.wp P a w (wpList P ops Q rest) Q) : wpList P ops Q (oi :: rest) a w := by
  unfold wpList
  rw [if_pos hw]
  exact .inl h
theorem w_value (d : Tmp) (v : Value) (hd : oi.dst = some d) (hrun : (execOp a.eval oi).run P w = .ok (.value v) w) (h : K { a with tmps := a.tmps.setIfInBounds d v } w) : oi.wp P a w K Q := by
  unfold Oper.wp
  rw [hrun]
  show K (a.put oi.dst v) w
  unfold Act.put
  rw [hd]
  exact h
theorem w_enter {f : FuncId} {args : Array Value} (d : Tmp) (v : Value) (hd : oi.dst = some d) (hrun : (execOp a.eval oi).run P w = .ok (.enter f args) w) (hc : Calls P f args w fun e w' => e = .returned v ∧ Below w.heap.size w w')
    (h : ∀ w', Below w.heap.size w w' → K { a with tmps := a.tmps.setIfInBounds d v } w') : oi.wp P a w K Q := by
  unfold Oper.wp
  rw [hrun]
  show Calls P f args w _
  refine hc.mono ?_
  rintro e w' ⟨rfl, hb⟩
  have := h w' hb
  show K (a.put oi.dst v) w'
  unfold Act.put
  rw [hd]
  exact this
theorem w_alloc {c : Array Value} {T : TypeId} (d : Tmp) (hd : oi.dst = some d) (hrun : (execOp a.eval oi).run P w = .ok (.value (.pointer (some ⟨w.heap.size, 0, none⟩))) (w.alloc (.cells c T)))
    (h : ∀ w', w' = w.alloc (.cells c T) → K { a with tmps := a.tmps.setIfInBounds d (.pointer (some ⟨w.heap.size, 0, none⟩)) } w') : oi.wp P a w K Q := by
  unfold Oper.wp
  rw [hrun]
  have := h _ rfl
  show K (a.put oi.dst _) _
  unfold Act.put
  rw [hd]
  exact this
theorem w_store (ty : TypeId) (x y : Operand) (g : Nat) (cells : Array Value) {t : TypeId} {old : Array Value} (hd : oi.dst = none)
    (ho : oi.op = .store ty x y) (hx : a.eval x = .pointer (some ⟨g, 0, none⟩)) (hy : a.eval y = .agg cells) (hh : Blk w g old t) (hz : (P.info? ty).map (·.size) = some cells.size)
    (hold : old.size = cells.size) (h1 : cells.all (·.oneCell') = true) (h : ∀ w', w' = w.setRow g cells → K a w') : oi.wp P a w K Q :=
  wp_store_row ty x y ho g cells hx hy t old hh hz hold h1 (by unfold Act.put; rw [hd]; exact h _ rfl)
end
end
theorem nz1 {α : Type} (l : List α) (i : Nat) (a : α) : l.toArray.setIfInBounds i a = (l.set i a).toArray := List.setIfInBounds_toArray _ _ _
theorem nz2 {α : Type} {a b : α} {l : List α} : (a :: l).set 0 b = b :: l := List.set_cons_zero
theorem nz3 {α : Type} {l : List α} {a b : α} {n : Nat} : (a :: l).set (n + 1) b = a :: l.set n b := List.set_cons_succ
theorem lv {P : Program} {ops : Array Oper} {Q : Exit → Act → World → Prop} {oi : Oper} {rest : List Oper} {a : Act} {w : World} (d : Tmp) (v : Value) (hg : oi.guard = none) (hd : oi.dst = some d) (hrun : (execOp a.eval oi).run P w = .ok (.value v) w) (h : wpList P ops Q rest { a with tmps := a.tmps.setIfInBounds d v } w) : wpList P ops Q (oi :: rest) a w :=
  lst (wanted_none hg) (w_value d v hd hrun h)
theorem tk {P : Program} {ops : Array Oper} {Q : Exit → Act → World → Prop} {md : Region.Mode} {S : World → Prop} {oi : Oper} {fuel : Nat} {listed : Array Bool} {a : Act} {w : World} (i : Nat) (d : Tmp) (v : Value) (hi : ops[i]? = some oi) (hd : oi.dst = some d)
    (hy : ∀ w, S w → (execOp a.eval oi).run P w = .ok (.value v) w) (hS : S w)
    (h : wpAnyH P md ops Q S fuel (listed.setIfInBounds i true) { a with tmps := a.tmps.setIfInBounds d v } w)
    (hs : Region.noSelect ops = true := by kernel_rfl) (hf : Region.free md ops listed i = true := by kernel_rfl) (hr : (Region.ready md ops listed).contains i = true := by kernel_rfl)
    (hQ : ∀ c a w, Q (.panic c) (a.put oi.dst v) w → Q (.panic c) a w := by exact fun _ _ _ h => h) (hg : oi.guard = none := by rfl) : wpAnyH P md ops Q S (fuel + 1) listed a w :=
  take_at i d v hi hd hs hf hr hQ (wanted_none hg) hy hS h
section
variable {P : Program} {o : Oper} {a : Act} {w : World}
theorem run_mv {x : Operand} {v : Value} (ho : o.op = .move x) (hx : a.eval x = v) : (execOp a.eval o).run P w = .ok (.value v) w := by
  unfold execOp; simp only [ho, hx]; rfl
theorem run_as {x : Operand} {v : Value} (ho : o.op = .assign x) (hx : a.eval x = v) : (execOp a.eval o).run P w = .ok (.value v) w := by
  unfold execOp; simp only [ho, hx]; rfl
theorem run_ex {t : Operand} {k : Nat} {vs : Array Value} {v : Value} (ho : o.op = .extract t k) (ht : a.eval t = .tuple vs) (hv : vs[k]? = some v) : (execOp a.eval o).run P w = .ok (.value v) w := by
  unfold execOp; simp only [ho, ht]; simp [go_sem, hv]
theorem run_pick {c x y : Operand} {v : Value} (ho : o.op = .pick c x y) (hc : a.eval c = .bool true) (hx : a.eval x = v) : (execOp a.eval o).run P w = .ok (.value v) w := by
  unfold execOp; simp only [ho, hc, hx]; rfl
theorem run_pickf {c x y : Operand} {v : Value} (ho : o.op = .pick c x y) (hc : a.eval c = .bool false) (hx : a.eval y = v) : (execOp a.eval o).run P w = .ok (.value v) w := by
  unfold execOp; simp only [ho, hc, hx]; rfl
theorem run_row {ty : TypeId} {x : Operand} {g : Nat} {t : TypeId} {cs : Array Value} {d : TypeDesc} (ho : o.op = .load ty x) (hx : a.eval x = .pointer (some ⟨g, 0, none⟩)) (hg : Blk w g cs t)
    (hu : P.underlying ty = some d) (hd : (match d with | .struct _ | .array _ _ => true | _ => false) = true) (hi : (P.info? ty).map (·.size) = some cs.size) : (execOp a.eval o).run P w = .ok (.value (.agg cs)) w := by
  unfold execOp
  simp only [ho, hx, Instr.loadAt, Instr.sureAddr, Sem.run_bind, Sem.run_pure, Result.andThen_ok, run_loadVar_row w g t ty cs (0, 0) d hg hu hd hi]
theorem run_box {ty : TypeId} {x : Operand} {c : Array Value} (ho : o.op = .box ty x) (hx : a.eval x = .agg c) : (execOp a.eval o).run P w = .ok (.value (.pointer (some ⟨w.heap.size, 0, none⟩))) (w.alloc (.cells c ty)) := by
  unfold execOp
  simp only [ho, hx]
  rfl
end
end Go.Proofs.YtikmkgoeepgbkaaGreatDoor.Sym
namespace Go.Proofs.YtikmkgoeepgbkaaGreatDoor.Sym
section
variable {P : Program} {ops : Array Oper} {Q : Exit → Act → World → Prop} {md : Region.Mode} {S : World → Prop} {oi : Oper} {a : Act} {w : World} {K : Act → World → Prop}
theorem lst_skip {rest : List Oper} (d : Tmp) (hd : oi.dst = some d) (hw : Region.wanted oi (yielded ops a.tmps) = false) (h : wpList P ops Q rest { a with tmps := a.tmps.setIfInBounds d undef } w) : wpList P ops Q (oi :: rest) a w := by
  unfold wpList
  rw [if_neg (by rw [hw]; decide)]
  unfold Act.put
  rw [hd]
  exact h
theorem skip_at {fuel : Nat} {listed : Array Bool} (i : Nat) (d : Tmp) (hi : ops[i]? = some oi) (hd : oi.dst = some d)
    (hs : Region.noSelect ops = true) (hf : Region.free md ops listed i = true) (hr : (Region.ready md ops listed).contains i = true)
    (hQ : ∀ c a w, Q (.panic c) (a.put oi.dst undef) w → Q (.panic c) a w) (hw : Region.wanted oi (yielded ops a.tmps) = false) (hS : S w)
    (h : wpAnyH P md ops Q S fuel (listed.setIfInBounds i true) { a with tmps := a.tmps.setIfInBounds d undef } w) : wpAnyH P md ops Q S (fuel + 1) listed a w :=
  wpAnyH_take hi hs hf hr hQ (.inr ⟨hw, rfl⟩) hS (by unfold Act.put; rw [hd]; exact h)
theorem opd_skip {i : Nat} (d : Tmp) (hi : ops[i]? = some oi) (hd : oi.dst = some d) (hw : Region.wanted oi (yielded ops a.tmps) = false) (h : K { a with tmps := a.tmps.setIfInBounds d undef } w) : wpOp P ops Q i K a w := by
  unfold wpOp
  simp only [hi]
  rw [if_neg (by rw [hw]; decide)]
  unfold Act.put
  rw [hd]
  exact h
end
end Go.Proofs.YtikmkgoeepgbkaaGreatDoor.Sym
namespace Go.Proofs.YtikmkgoeepgbkaaGreatDoor.Sx
open Go.RowKit
open Go.Proofs.YtikmkgoeepgbkaaGreatDoor.Arr Go.Proofs.YtikmkgoeepgbkaaGreatDoor.Sym

/-! ### Numbers -/
/-- What a kind's numbers lie below. -/
def lim : IntKind → Nat
  | .u8 => 256
  | .u16 => 65536
  | .u32 => 4294967296
  | .u64 => 18446744073709551616
  | .i8 => 128
  | .i16 => 32768
  | .i32 => 2147483648
  | .i64 => 9223372036854775808
theorem wrap_nat {k : IntKind} {n : Nat} (h : n < lim k) : k.wrap (n : Int) = (n : Int) := by
  cases k <;> simp only [lim] at h <;> (simp [IntKind.wrap, IntKind.bits, IntKind.signed]; omega)

/-! ### Memory -/
/-- Blocks made since w: where they are, what they hold. -/
structure Mm (w W : World) (l : List (Nat × Array Value × TypeId)) : Prop where
  blk : ∀ (i g : Nat) (c : Array Value) (T : TypeId), l[i]? = some (g, c, T) → Blk W g c T
  low : ∀ (i g : Nat) (c : Array Value) (T : TypeId), l[i]? = some (g, c, T) → w.heap.size ≤ g
  ne : ∀ (i j g : Nat) (c : Array Value) (T : TypeId) (g' : Nat) (c' : Array Value) (T' : TypeId), l[i]? = some (g, c, T) → l[j]? = some (g', c', T') → i ≠ j → g ≠ g'
  below : Below w.heap.size w W
section
variable {w W W' : World} {l : List (Nat × Array Value × TypeId)} {g : Nat} {c d : Array Value} {T : TypeId}
theorem Mm.nil (w : World) : Mm w w [] := ⟨fun i g c T h => by simp at h, fun i g c T h => by simp at h, fun i j g c T g' c' T' h => by simp at h, Below.refl _ _⟩
theorem Mm.at (h : Mm w W l) (i : Nat) (hi : l[i]? = some (g, c, T)) : Blk W g c T := h.blk i g c T hi
theorem Mm.call (h : Mm w W l) (hb : Below W.heap.size W W') : Mm w W' l :=
  ⟨fun i g c T hi => (h.blk i g c T hi).call hb, h.low, h.ne, bel_call h.below hb⟩
theorem Mm.drew (h : Mm w W l) : Mm w W.drew l := ⟨fun i g c T hi => (h.blk i g c T hi).drew, h.low, h.ne, h.below.drew⟩
theorem Mm.alloc (h : Mm w W l) (c : Array Value) (T : TypeId) : Mm w (W.alloc (.cells c T)) (l ++ [(W.heap.size, c, T)]) := by
  have key : ∀ i g' c' T', (l ++ [(W.heap.size, c, T)])[i]? = some (g', c', T') → (i < l.length ∧ l[i]? = some (g', c', T')) ∨ (i = l.length ∧ g' = W.heap.size ∧ c' = c ∧ T' = T) := by
    intro i g' c' T' hi
    by_cases hl : i < l.length
    · rw [List.getElem?_append_left hl] at hi; exact .inl ⟨hl, hi⟩
    · rw [List.getElem?_append_right (by omega)] at hi
      cases hk : i - l.length with
      | zero => rw [hk] at hi; simp at hi; exact .inr ⟨by omega, hi.1.symm, hi.2.1.symm, hi.2.2.symm⟩
      | succ k => rw [hk] at hi; simp at hi
  refine ⟨fun i g' c' T' hi => ?_, fun i g' c' T' hi => ?_, fun i j g' c' T' g2 c2 T2 hi hj hij => ?_, h.below.alloc h.below.size _⟩
  · rcases key _ _ _ _ hi with ⟨_, h1⟩ | ⟨_, rfl, rfl, rfl⟩
    · exact (h.blk _ _ _ _ h1).alloc rfl
    · exact Blk.new rfl
  · rcases key _ _ _ _ hi with ⟨_, h1⟩ | ⟨_, rfl, rfl, rfl⟩
    · exact h.low _ _ _ _ h1
    · exact h.below.size
  · rcases key _ _ _ _ hi with ⟨_, h1⟩ | ⟨e1, rfl, rfl, rfl⟩
    · rcases key _ _ _ _ hj with ⟨_, h2⟩ | ⟨_, rfl, rfl, rfl⟩
      · exact h.ne _ _ _ _ _ _ _ _ h1 h2 hij
      · exact Nat.ne_of_lt (h.blk _ _ _ _ h1).lt
    · rcases key _ _ _ _ hj with ⟨_, h2⟩ | ⟨e2, rfl, rfl, rfl⟩
      · exact (Nat.ne_of_lt (h.blk _ _ _ _ h2).lt).symm
      · omega
theorem Mm.set (h : Mm w W l) (i : Nat) (hi : l[i]? = some (g, c, T)) (d : Array Value) : Mm w (W.setRow g d) (l.set i (g, d, T)) := by
  have hl : i < l.length := (List.getElem?_eq_some_iff.1 hi).1
  have key : ∀ j g' c' T', (l.set i (g, d, T))[j]? = some (g', c', T') → (j = i ∧ g' = g ∧ c' = d ∧ T' = T) ∨ (j ≠ i ∧ l[j]? = some (g', c', T')) := by
    intro j g' c' T' hj
    by_cases e : j = i
    · subst e; rw [List.getElem?_set_self hl] at hj; simp at hj; exact .inl ⟨rfl, hj.1.symm, hj.2.1.symm, hj.2.2.symm⟩
    · rw [List.getElem?_set_ne (fun e' => e e'.symm)] at hj; exact .inr ⟨e, hj⟩
  refine ⟨fun j g' c' T' hj => ?_, fun j g' c' T' hj => ?_, fun j m g' c' T' g2 c2 T2 hj hm hjm => ?_, below_setRow h.below (h.low _ _ _ _ hi)⟩
  · rcases key _ _ _ _ hj with ⟨_, rfl, rfl, rfl⟩ | ⟨e, h1⟩
    · exact (h.blk _ _ _ _ hi).set rfl
    · exact (h.blk _ _ _ _ h1).other (h.ne _ _ _ _ _ _ _ _ h1 hi e) rfl
  · rcases key _ _ _ _ hj with ⟨_, rfl, rfl, rfl⟩ | ⟨e, h1⟩
    · exact h.low _ _ _ _ hi
    · exact h.low _ _ _ _ h1
  · rcases key _ _ _ _ hj with ⟨e1, rfl, rfl, rfl⟩ | ⟨e, h1⟩
    · rcases key _ _ _ _ hm with ⟨e2, rfl, rfl, rfl⟩ | ⟨e2, h2⟩
      · omega
      · exact h.ne _ _ _ _ _ _ _ _ hi h2 (fun e' => e2 e'.symm)
    · rcases key _ _ _ _ hm with ⟨e2, rfl, rfl, rfl⟩ | ⟨e2, h2⟩
      · exact h.ne _ _ _ _ _ _ _ _ h1 hi e
      · exact h.ne _ _ _ _ _ _ _ _ h1 h2 hjm
theorem Mm.pre {m : List (Nat × Array Value × TypeId)} (h : Mm w W (l ++ m)) : Mm w W l :=
  have key : ∀ (i g : Nat) (c : Array Value) (T : TypeId), l[i]? = some (g, c, T) → (l ++ m)[i]? = some (g, c, T) := fun i g c T hi => by
    rw [List.getElem?_append_left (List.getElem?_eq_some_iff.1 hi).1]; exact hi
  ⟨fun i g c T hi => h.blk i g c T (key _ _ _ _ hi), fun i g c T hi => h.low i g c T (key _ _ _ _ hi), fun i j g c T g' c' T' hi hj hij => h.ne i j g c T g' c' T' (key _ _ _ _ hi) (key _ _ _ _ hj) hij, h.below⟩
theorem Mm.reorder (h : Mm w W l) (p : List Nat) (hp : p.Nodup) (ha : (p.all fun i => decide (i < l.length)) = true) : Mm w W (p.map fun i => l.getD i (0, #[], 0)) := by
  have key : ∀ (k g : Nat) (c : Array Value) (T : TypeId), (p.map fun i => l.getD i (0, #[], 0))[k]? = some (g, c, T) → ∃ i, p[k]? = some i ∧ l[i]? = some (g, c, T) := by
    intro k g c T hk
    rw [List.getElem?_map] at hk
    cases hpk : p[k]? with
    | none => rw [hpk] at hk; cases hk
    | some i =>
      have hi : i < l.length := by
        rw [List.all_eq_true] at ha
        exact of_decide_eq_true (ha i (List.mem_of_getElem? hpk))
      rw [hpk] at hk
      simp only [Option.map_some, Option.some.injEq] at hk
      refine ⟨i, rfl, ?_⟩
      rw [List.getD_eq_getElem?_getD, List.getElem?_eq_getElem hi] at hk
      rw [List.getElem?_eq_getElem hi, ← hk]; rfl
  refine ⟨fun k g c T hk => ?_, fun k g c T hk => ?_, fun k m g c T g' c' T' hk hm hkm => ?_, h.below⟩
  · obtain ⟨i, _, hi⟩ := key _ _ _ _ hk; exact h.blk _ _ _ _ hi
  · obtain ⟨i, _, hi⟩ := key _ _ _ _ hk; exact h.low _ _ _ _ hi
  · obtain ⟨i, h1, hi⟩ := key _ _ _ _ hk
    obtain ⟨j, h2, hj⟩ := key _ _ _ _ hm
    refine h.ne _ _ _ _ _ _ _ _ hi hj fun e => hkm ?_
    subst e
    obtain ⟨k1, e1⟩ := List.getElem?_eq_some_iff.1 h1
    obtain ⟨k2, e2⟩ := List.getElem?_eq_some_iff.1 h2
    have hn := List.pairwise_iff_getElem.1 hp
    rcases Nat.lt_trichotomy k m with h3 | h3 | h3
    · exact absurd (e1.trans e2.symm) (hn k m k1 k2 h3)
    · exact h3
    · exact absurd (e2.trans e1.symm) (hn m k k2 k1 h3)
/-- One cell is written. -/
theorem Mm.put (h : Mm w W l) (i : Nat) (hi : l[i]? = some (g, c, T)) (j : Nat) (v : Value) (hd : c.setIfInBounds j v = d) : Mm w (W.setCell ⟨g, j, none⟩ v) (l.set i (g, d, T)) := by
  have e : W.setCell ⟨g, j, none⟩ v = W.setRow g (c.setIfInBounds j v) := setCell_eq_setRow W g j c T (0, 0) v (h.blk _ _ _ _ hi)
  rw [e, hd]
  exact h.set i hi d
end

/-! ### Flow -/
section
variable {P : Program} {Q : Exit → Act → World → Prop} {K : Act → World → Prop} {a : Act} {w : World} {id id' : Nat}
theorem then_n (h : K a w) : Exit.then K Q .normal a w := h
theorem then_x (h : Q (.exit id) a w) : Exit.then K Q (.exit id) a w := h
theorem then_r (h : Q .ret a w) : Exit.then K Q .ret a w := h
theorem blk_n (h : Q .normal a w) : Exit.inBlock id Q .normal a w := h
theorem blk_r (h : Q .ret a w) : Exit.inBlock id Q .ret a w := h
theorem blk_x (h : Q .normal a w) : Exit.inBlock id Q (.exit id) a w := by
  show (if id = id then Q .normal a w else Q (.exit id) a w)
  rw [if_pos rfl]; exact h
theorem blk_y (hid : id' ≠ id) (h : Q (.exit id') a w) : Exit.inBlock id Q (.exit id') a w := by
  show (if id' = id then Q .normal a w else Q (.exit id') a w)
  rw [if_neg hid]; exact h
theorem wp_loop_k {c : Code} (I : Act → World → Prop) (μ : Act → World → Nat) (h₀ : I a w)
    (round : ∀ a w, I a w → ∀ R : Act → World → Prop, (∀ a' w', I a' w' → μ a' w' < μ a w → R a' w') → c.wp P (Exit.then R Q) a w) : (Code.loop c).wp P Q a w :=
  wp_loop I μ h₀ fun a w hI => round a w hI _ fun _ _ h1 h2 => ⟨h1, h2⟩
/-- A mark of progress may be chosen beside the frame. -/
theorem wp_loop_n {c : Code} (I : Nat → Act → World → Prop) {n : Nat} (h₀ : I n a w)
    (round : ∀ n a w, I n a w → ∀ R : Act → World → Prop, (∀ m a' w', I m a' w' → m < n → R a' w') → c.wp P (Exit.then R Q) a w) : (Code.loop c).wp P Q a w := by
  intro b k cs
  have key : ∀ n a w, I n a w →
      ∃ e a' w', Q e a' w' ∧ Arrives P (lone (b.at a (.code c :: .inLoop c :: k)) cs w) b k cs e a' w' := by
    intro n
    induction n using Nat.strongRecOn with
    | _ n ih =>
      intro a w hI
      obtain ⟨e, a₁, w₁, hq, harr⟩ := round n a w hI (fun a' w' => ∃ m, m < n ∧ I m a' w') (fun m a' w' h1 h2 => ⟨m, h2, h1⟩) b (.inLoop c :: k) cs
      cases e with
      | normal =>
        obtain ⟨m, hlt, hI₁⟩ := hq
        obtain ⟨e₂, a₂, w₂, hq₂, harr₂⟩ := ih m hlt a₁ w₁ hI₁
        exact ⟨e₂, a₂, w₂, hq₂, .of_steps (Steps.trans harr (.one step_inLoop)) harr₂⟩
      | exit id => exact ⟨_, a₁, w₁, hq, .pass (x := .inLoop c) rfl (fun _ _ => .inl (by simp)) harr⟩
      | goto l => exact ⟨_, a₁, w₁, hq, .pass (x := .inLoop c) rfl (fun _ _ => .inl (by simp)) harr⟩
      | ret => exact ⟨_, a₁, w₁, hq, .pass (x := .inLoop c) rfl (fun _ _ => .inl (by simp)) harr⟩
      | panic ch => exact ⟨_, a₁, w₁, hq, .pass (x := .inLoop c) rfl (fun _ _ => .inl (by simp)) harr⟩
      | outgrown => exact ⟨_, a₁, w₁, hq, .pass (x := .inLoop c) rfl (fun _ _ => .inl (by simp)) harr⟩
  obtain ⟨e, a', w', hq, harr⟩ := key n a w h₀
  exact ⟨e, a', w', hq, .of_steps (.one step_loop) harr⟩
theorem cond_t {c : Operand} {x y : Code} (hc : a.eval c = .bool true) (h : x.wp P Q a w) : (Code.cond c x y).wp P Q a w := wp_cond hc h
theorem cond_f {c : Operand} {x y : Code} (hc : a.eval c = .bool false) (h : y.wp P Q a w) : (Code.cond c x y).wp P Q a w := wp_cond hc h
theorem cond_d {c : Operand} {x y : Code} (p : Prop) [Decidable p] (hc : a.eval c = .bool (decide p)) (h1 : p → x.wp P Q a w) (h2 : ¬ p → y.wp P Q a w) : (Code.cond c x y).wp P Q a w :=
  wp_cond_split hc (fun h => h1 (of_decide_eq_true h)) (fun h => h2 (of_decide_eq_false h))
theorem cond_dt {c : Operand} {x y : Code} (p : Prop) [Decidable p] (hc : a.eval c = .bool (decide p)) (hp : p) (h1 : x.wp P Q a w) : (Code.cond c x y).wp P Q a w :=
  cond_d p hc (fun _ => h1) (fun h => absurd hp h)
theorem cond_df {c : Operand} {x y : Code} (p : Prop) [Decidable p] (hc : a.eval c = .bool (decide p)) (hp : ¬ p) (h1 : y.wp P Q a w) : (Code.cond c x y).wp P Q a w :=
  cond_d p hc (fun h => absurd h hp) (fun _ => h1)
theorem cond_b {c : Operand} {x y : Code} (b : Bool) (hc : a.eval c = .bool b) (h1 : b = true → x.wp P Q a w) (h2 : b = false → y.wp P Q a w) : (Code.cond c x y).wp P Q a w :=
  wp_cond_split hc h1 h2
end

/-! ### More that may come up -/
section
variable {P : Program} {ops : Array Oper} {Q : Exit → Act → World → Prop} {md : Region.Mode} {S : World → Prop}
theorem four_ready {fuel : Nat} {listed : Array Bool} {a : Act} {w : World} (i j k l : Nat) (hr : Region.ready md ops listed = [i, j, k, l])
    (h1 : wpOp P ops Q i (fun a' w' => S w' ∧ wpAnyH P md ops Q S fuel (listed.setIfInBounds i true) a' w') a w)
    (h2 : wpOp P ops Q j (fun a' w' => S w' ∧ wpAnyH P md ops Q S fuel (listed.setIfInBounds j true) a' w') a w)
    (h3 : wpOp P ops Q k (fun a' w' => S w' ∧ wpAnyH P md ops Q S fuel (listed.setIfInBounds k true) a' w') a w)
    (h4 : wpOp P ops Q l (fun a' w' => S w' ∧ wpAnyH P md ops Q S fuel (listed.setIfInBounds l true) a' w') a w) : wpAnyH P md ops Q S (fuel + 1) listed a w :=
  wpAnyH_all hr (by simp) (fun m hm => by
    rcases List.mem_cons.1 hm with rfl | hm
    · exact h1
    · rcases List.mem_cons.1 hm with rfl | hm
      · exact h2
      · rcases List.mem_cons.1 hm with rfl | hm
        · exact h3
        · rw [List.mem_singleton] at hm; rw [hm]; exact h4)
end

/-! ### What a function hands back -/
section
variable {P : Program} {fn : Func} {p q : Tmp} {ty ty' : TypeId} {tmps : Array Value} {w : World} {g g' : Nat} {t t' : TypeId} {cs cs' : Array Value} {d d' : TypeDesc} {v v' : Value}
theorem res_t (h : fn.results = #[.tmp p]) (hp : tmps.getD p undef = v) : (results fn tmps).run P w = .ok v w := by
  have hp' : tmps[p]?.getD undef = v := by simpa using hp
  simp [results, h, hp']
theorem res_tt (h : fn.results = #[.tmp p, .tmp q]) (hp : tmps.getD p undef = v) (hq : tmps.getD q undef = v') : (results fn tmps).run P w = .ok (.tuple #[v, v']) w := by
  have hp' : tmps[p]?.getD undef = v := by simpa using hp
  have hq' : tmps[q]?.getD undef = v' := by simpa using hq
  simp [results, h, hp', hq']
theorem res_c (h : fn.results = #[.cell p ty]) (hp : tmps.getD p undef = .pointer (some ⟨g, 0, none⟩)) (hg : Blk w g cs t) (hu : P.underlying ty = some d) (hd : (match d with | .struct _ | .array _ _ => true | _ => false) = true) (hi : (P.info? ty).map (·.size) = some cs.size) :
    (results fn tmps).run P w = .ok (.agg cs) w := by
  have hp' : tmps[p]?.getD undef = .pointer (some ⟨g, 0, none⟩) := by simpa using hp
  simp [results, h, hp', asAddr, run_loadVar_row w g t ty cs (0, 0) d hg hu hd hi]
theorem res_ct (h : fn.results = #[.cell p ty, .tmp q]) (hp : tmps.getD p undef = .pointer (some ⟨g, 0, none⟩)) (hg : Blk w g cs t) (hu : P.underlying ty = some d) (hd : (match d with | .struct _ | .array _ _ => true | _ => false) = true) (hi : (P.info? ty).map (·.size) = some cs.size)
    (hq : tmps.getD q undef = v) : (results fn tmps).run P w = .ok (.tuple #[.agg cs, v]) w := by
  have hp' : tmps[p]?.getD undef = .pointer (some ⟨g, 0, none⟩) := by simpa using hp
  have hq' : tmps[q]?.getD undef = v := by simpa using hq
  simp [results, h, hp', hq', asAddr, run_loadVar_row w g t ty cs (0, 0) d hg hu hd hi]
theorem res_cc (h : fn.results = #[.cell p ty, .cell q ty']) (hp : tmps.getD p undef = .pointer (some ⟨g, 0, none⟩)) (hg : Blk w g cs t) (hu : P.underlying ty = some d) (hd : (match d with | .struct _ | .array _ _ => true | _ => false) = true) (hi : (P.info? ty).map (·.size) = some cs.size)
    (hq : tmps.getD q undef = .pointer (some ⟨g', 0, none⟩)) (hg' : Blk w g' cs' t') (hu' : P.underlying ty' = some d') (hd' : (match d' with | .struct _ | .array _ _ => true | _ => false) = true) (hi' : (P.info? ty').map (·.size) = some cs'.size) :
    (results fn tmps).run P w = .ok (.tuple #[.agg cs, .agg cs']) w := by
  have hp' : tmps[p]?.getD undef = .pointer (some ⟨g, 0, none⟩) := by simpa using hp
  have hq' : tmps[q]?.getD undef = .pointer (some ⟨g', 0, none⟩) := by simpa using hq
  simp [results, h, hp', hq', asAddr, run_loadVar_row w g t ty cs (0, 0) d hg hu hd hi, run_loadVar_row w g' t' ty' cs' (0, 0) d' hg' hu' hd' hi']
end

/-! ### Operations that change memory -/
section
variable {P : Program} {Q : Exit → Act → World → Prop} {K : Act → World → Prop} {oi : Oper} {a : Act} {w0 w : World} {l : List (Nat × Array Value × TypeId)}
theorem m_alloc {c : Array Value} {T : TypeId} (hm : Mm w0 w l) (d : Tmp) (hd : oi.dst = some d) (hrun : (execOp a.eval oi).run P w = .ok (.value (.pointer (some ⟨w.heap.size, 0, none⟩))) (w.alloc (.cells c T)))
    (h : ∀ g w', Mm w0 w' (l ++ [(g, c, T)]) → K { a with tmps := a.tmps.setIfInBounds d (.pointer (some ⟨g, 0, none⟩)) } w') : oi.wp P a w K Q := by
  unfold Oper.wp
  rw [hrun]
  have := h _ _ (hm.alloc c T)
  show K (a.put oi.dst _) _
  unfold Act.put
  rw [hd]
  exact this
theorem m_store (i : Nat) (ty : TypeId) (x y : Operand) {g : Nat} (cells : Array Value) {T : TypeId} {old : Array Value} (hm : Mm w0 w l) (hi : l[i]? = some (g, old, T)) (hd : oi.dst = none)
    (ho : oi.op = .store ty x y) (hx : a.eval x = .pointer (some ⟨g, 0, none⟩)) (hy : a.eval y = .agg cells) (hz : (P.info? ty).map (·.size) = some cells.size)
    (hold : old.size = cells.size) (h1 : cells.all (·.oneCell') = true) (h : ∀ w', Mm w0 w' (l.set i (g, cells, T)) → K a w') : oi.wp P a w K Q :=
  wp_store_row ty x y ho g cells hx hy T old (hm.at i hi) hz hold h1 (by unfold Act.put; rw [hd]; exact h _ (hm.set i hi cells))
theorem m_put (i : Nat) {g : Nat} (j : Nat) (v : Value) {T : TypeId} {old new : Array Value} (hm : Mm w0 w l) (hi : l[i]? = some (g, old, T)) (hd : oi.dst = none)
    (hrun : (execOp a.eval oi).run P w = .ok .skip (w.setCell ⟨g, j, none⟩ v)) (hnew : old.setIfInBounds j v = new) (h : ∀ w', Mm w0 w' (l.set i (g, new, T)) → K a w') : oi.wp P a w K Q := by
  unfold Oper.wp
  rw [hrun]
  have := h _ (hm.put i hi j v hnew)
  show K (a.put oi.dst _) _
  unfold Act.put
  rw [hd]
  exact this
theorem m_call {f : FuncId} {args : Array Value} (hm : Mm w0 w l) (d : Tmp) (v : Value) (hd : oi.dst = some d) (hrun : (execOp a.eval oi).run P w = .ok (.enter f args) w) (hc : Calls P f args w fun e w' => e = .returned v ∧ Below w.heap.size w w')
    (h : ∀ w', Mm w0 w' l → K { a with tmps := a.tmps.setIfInBounds d v } w') : oi.wp P a w K Q :=
  w_enter d v hd hrun hc fun w' hb => h w' (hm.call hb)
/-- A call of whose result something is known. -/
theorem m_callx {f : FuncId} {args : Array Value} {R : Value → Prop} (hm : Mm w0 w l) (d : Tmp) (hd : oi.dst = some d) (hrun : (execOp a.eval oi).run P w = .ok (.enter f args) w) (hc : Calls P f args w fun e w' => (∃ v, e = .returned v ∧ R v) ∧ Below w.heap.size w w')
    (h : ∀ v w', R v → Mm w0 w' l → K { a with tmps := a.tmps.setIfInBounds d v } w') : oi.wp P a w K Q := by
  unfold Oper.wp
  rw [hrun]
  show Calls P f args w _
  refine hc.mono ?_
  rintro e w' ⟨⟨v, rfl, hv⟩, hb⟩
  have := h v w' hv (hm.call hb)
  show K (a.put oi.dst v) w'
  unfold Act.put
  rw [hd]
  exact this
end

/-! ### Operations that yield a value -/
section
variable {P : Program} {o : Oper} {a : Act} {w : World} {x y : Operand} {T T' : TypeId} {k yk : IntKind}
theorem r_add (n m : Nat) (h : n + m < lim k) (ho : o.op = .binOp .add T x y T') (hx : a.eval x = .int k (n : Int)) (hy : a.eval y = .int k (m : Int)) : (execOp a.eval o).run P w = .ok (.value (.int k ((n + m : Nat) : Int))) w := by
  have e := wrap_nat h
  unfold execOp
  simp only [ho, hx, hy]
  generalize a.eval = f at *
  rw [Int.natCast_add] at *
  go_simp
theorem r_sub (n m : Nat) (h : n < lim k) (hm : m ≤ n) (ho : o.op = .binOp .sub T x y T') (hx : a.eval x = .int k (n : Int)) (hy : a.eval y = .int k (m : Int)) : (execOp a.eval o).run P w = .ok (.value (.int k ((n - m : Nat) : Int))) w := by
  have e := wrap_nat (k := k) (n := n - m) (by omega)
  unfold execOp
  simp only [ho, hx, hy]
  generalize a.eval = f at *
  rw [Int.ofNat_sub hm] at *
  go_simp
theorem r_subZ (n m z : Int) (h : k.wrap (n - m) = z) (ho : o.op = .binOp .sub T x y T') (hx : a.eval x = .int k n) (hy : a.eval y = .int k m) : (execOp a.eval o).run P w = .ok (.value (.int k z)) w := by
  unfold execOp
  simp only [ho, hx, hy]
  generalize a.eval = f at *
  go_simp
theorem r_mul (n m : Nat) (h : n * m < lim k) (ho : o.op = .binOp .mul T x y T') (hx : a.eval x = .int k (n : Int)) (hy : a.eval y = .int k (m : Int)) : (execOp a.eval o).run P w = .ok (.value (.int k ((n * m : Nat) : Int))) w := by
  have e := wrap_nat h
  unfold execOp
  simp only [ho, hx, hy]
  generalize a.eval = f at *
  rw [Int.natCast_mul] at *
  go_simp
theorem r_quo (n m : Nat) (h : n < lim k) (hm : 0 < m) (ho : o.op = .binOp .quo T x y T') (hx : a.eval x = .int k (n : Int)) (hy : a.eval y = .int k (m : Int)) : (execOp a.eval o).run P w = .ok (.value (.int k ((n / m : Nat) : Int))) w := by
  have e := wrap_nat (k := k) (n := n / m) (Nat.lt_of_le_of_lt (Nat.div_le_self _ _) h)
  have h0 : ¬ m = 0 := by omega
  unfold execOp
  simp only [ho, hx, hy]
  generalize a.eval = f at *
  rw [Int.natCast_ediv] at *
  go_simp
theorem r_rem (n m : Nat) (h : n < lim k) (hm : 0 < m) (ho : o.op = .binOp .rem T x y T') (hx : a.eval x = .int k (n : Int)) (hy : a.eval y = .int k (m : Int)) : (execOp a.eval o).run P w = .ok (.value (.int k ((n % m : Nat) : Int))) w := by
  have e := wrap_nat (k := k) (n := n % m) (Nat.lt_of_le_of_lt (Nat.mod_le _ _) h)
  have h0 : ¬ m = 0 := by omega
  unfold execOp
  simp only [ho, hx, hy]
  generalize a.eval = f at *
  rw [Int.natCast_emod] at *
  go_simp
  exact Int.tmod_eq_emod_of_nonneg (by omega)
theorem shl_run (n s : Nat) (hs : s ≤ k.bits) : Op.shift .shl k (n : Int) yk (s : Int) = pure (.int k (k.wrap ((n * 2 ^ s : Nat) : Int))) := by
  rw [shift_shl k yk n s (by omega) (by omega), Int.toNat_natCast, Int.natCast_mul, Int.natCast_pow]; rfl
theorem shr_run (n s : Nat) (hs : s ≤ k.bits) : Op.shift .shr k (n : Int) yk (s : Int) = pure (.int k ((n / 2 ^ s : Nat) : Int)) := by
  rw [shift_shr k yk n s (by omega) (by omega), Int.toNat_natCast, Int.natCast_ediv, Int.natCast_pow]; rfl
theorem r_shl (n s : Nat) (h : n * 2 ^ s < lim k) (hs : s ≤ k.bits) (ho : o.op = .binOp .shl T x y T') (hx : a.eval x = .int k (n : Int)) (hy : a.eval y = .int yk (s : Int)) : (execOp a.eval o).run P w = .ok (.value (.int k ((n * 2 ^ s : Nat) : Int))) w := by
  have e := wrap_nat h
  have e2 := shl_run (k := k) (yk := yk) n s hs
  rw [e] at e2
  unfold execOp
  simp only [ho, hx, hy]
  generalize a.eval = f at *
  simp only [eqGuard_shl, binOp_shl, e2]
  rfl
theorem r_shlw (n s : Nat) (hs : s ≤ 64) (ho : o.op = .binOp .shl T x y T') (hx : a.eval x = .int .u64 (n : Int)) (hy : a.eval y = .int yk (s : Int)) : (execOp a.eval o).run P w = .ok (.value (.int .u64 ((n * 2 ^ s % 18446744073709551616 : Nat) : Int))) w := by
  have e := IntKind.wrap_u64 ((n * 2 ^ s : Nat) : Int)
  have e2 := shl_run (k := .u64) (yk := yk) n s (by simpa [IntKind.bits] using hs)
  rw [e] at e2
  unfold execOp
  simp only [ho, hx, hy]
  generalize a.eval = f at *
  simp only [eqGuard_shl, binOp_shl, e2]
  rfl
theorem r_shr (n s : Nat) (hs : s ≤ k.bits) (ho : o.op = .binOp .shr T x y T') (hx : a.eval x = .int k (n : Int)) (hy : a.eval y = .int yk (s : Int)) : (execOp a.eval o).run P w = .ok (.value (.int k ((n / 2 ^ s : Nat) : Int))) w := by
  have e2 := shr_run (k := k) (yk := yk) n s hs
  unfold execOp
  simp only [ho, hx, hy]
  generalize a.eval = f at *
  simp only [eqGuard_shr, binOp_shr, e2]
  rfl
theorem lim_le (k : IntKind) : lim k ≤ 2 ^ k.bits := by cases k <;> decide
theorem r_or (n m i : Nat) (hi : 2 ^ i ≤ lim k) (hn : n < 2 ^ i) (hm : m < 2 ^ i) (ho : o.op = .binOp .or T x y T') (hx : a.eval x = .int k (n : Int)) (hy : a.eval y = .int k (m : Int)) : (execOp a.eval o).run P w = .ok (.value (.int k ((n ||| m : Nat) : Int))) w := by
  have e := (bits_nat k i ((Nat.pow_le_pow_iff_right (a := 2) (by decide)).1 (Nat.le_trans hi (lim_le k))) (fun z h0 h1 => by
    obtain ⟨q, rfl⟩ := Int.eq_ofNat_of_zero_le h0
    exact wrap_nat (Nat.lt_of_lt_of_le (by exact_mod_cast h1) hi)) n m hn hm).2
  unfold execOp
  simp only [ho, hx, hy]
  generalize a.eval = f at *
  go_simp
theorem r_and (n m i : Nat) (hi : 2 ^ i ≤ lim k) (hn : n < 2 ^ i) (hm : m < 2 ^ i) (ho : o.op = .binOp .and T x y T') (hx : a.eval x = .int k (n : Int)) (hy : a.eval y = .int k (m : Int)) : (execOp a.eval o).run P w = .ok (.value (.int k ((n &&& m : Nat) : Int))) w := by
  have e := (bits_nat k i ((Nat.pow_le_pow_iff_right (a := 2) (by decide)).1 (Nat.le_trans hi (lim_le k))) (fun z h0 h1 => by
    obtain ⟨q, rfl⟩ := Int.eq_ofNat_of_zero_le h0
    exact wrap_nat (Nat.lt_of_lt_of_le (by exact_mod_cast h1) hi)) n m hn hm).1
  unfold execOp
  simp only [ho, hx, hy]
  generalize a.eval = f at *
  go_simp
theorem r_orx (n m i z : Nat) (hi : 2 ^ i ≤ lim k) (hn : n < 2 ^ i) (hm : m < 2 ^ i) (hz : n ||| m = z) (ho : o.op = .binOp .or T x y T') (hx : a.eval x = .int k (n : Int)) (hy : a.eval y = .int k (m : Int)) : (execOp a.eval o).run P w = .ok (.value (.int k (z : Int))) w := by
  rw [← hz]; exact r_or n m i hi hn hm ho hx hy
theorem r_andx (n m i z : Nat) (hi : 2 ^ i ≤ lim k) (hn : n < 2 ^ i) (hm : m < 2 ^ i) (hz : n &&& m = z) (ho : o.op = .binOp .and T x y T') (hx : a.eval x = .int k (n : Int)) (hy : a.eval y = .int k (m : Int)) : (execOp a.eval o).run P w = .ok (.value (.int k (z : Int))) w := by
  rw [← hz]; exact r_and n m i hi hn hm ho hx hy
theorem or_sum (n m i : Nat) (hn : n % 2 ^ i = 0) (hm : m < 2 ^ i) : n ||| m = n + m := by
  have hq : n = 2 ^ i * (n / 2 ^ i) := by
    have := Nat.div_add_mod n (2 ^ i)
    omega
  rw [hq, ← Nat.two_pow_add_eq_or_of_lt hm]
theorem or_low (n m i : Nat) (hn : n < 2 ^ i) (hm : m % 2 ^ i = 0) : n ||| m = n + m := by
  rw [Nat.or_comm, or_sum m n i hm hn, Nat.add_comm]
theorem r_lss (n m : Nat) (ho : o.op = .binOp .lss T x y T') (hx : a.eval x = .int k (n : Int)) (hy : a.eval y = .int k (m : Int)) : (execOp a.eval o).run P w = .ok (.value (.bool (decide (n < m)))) w := by
  unfold execOp
  simp only [ho, hx, hy]
  generalize a.eval = f at *
  go_simp
theorem r_gtr (n m : Nat) (ho : o.op = .binOp .gtr T x y T') (hx : a.eval x = .int k (n : Int)) (hy : a.eval y = .int k (m : Int)) : (execOp a.eval o).run P w = .ok (.value (.bool (decide (m < n)))) w := by
  unfold execOp
  simp only [ho, hx, hy]
  generalize a.eval = f at *
  go_simp
theorem r_leq (n m : Nat) (ho : o.op = .binOp .leq T x y T') (hx : a.eval x = .int k (n : Int)) (hy : a.eval y = .int k (m : Int)) : (execOp a.eval o).run P w = .ok (.value (.bool (decide (n ≤ m)))) w := by
  unfold execOp
  simp only [ho, hx, hy]
  generalize a.eval = f at *
  go_simp
theorem r_geq (n m : Nat) (ho : o.op = .binOp .geq T x y T') (hx : a.eval x = .int k (n : Int)) (hy : a.eval y = .int k (m : Int)) : (execOp a.eval o).run P w = .ok (.value (.bool (decide (m ≤ n)))) w := by
  unfold execOp
  simp only [ho, hx, hy]
  generalize a.eval = f at *
  go_simp
theorem r_eql (n m : Nat) (ho : o.op = .binOp .eql T x y T') (hx : a.eval x = .int k (n : Int)) (hy : a.eval y = .int k (m : Int)) : (execOp a.eval o).run P w = .ok (.value (.bool (decide (n = m)))) w := by
  have e : ((n : Int) == (m : Int)) = decide (n = m) := by rw [Bool.eq_iff_iff]; simp; omega
  unfold execOp
  simp only [ho, hx, hy]
  generalize a.eval = f at *
  go_simp
theorem r_neq (n m : Nat) (ho : o.op = .binOp .neq T x y T') (hx : a.eval x = .int k (n : Int)) (hy : a.eval y = .int k (m : Int)) : (execOp a.eval o).run P w = .ok (.value (.bool (decide (¬ n = m)))) w := by
  have e : ((n : Int) != (m : Int)) = decide (¬ n = m) := by rw [Bool.eq_iff_iff]; simp; omega
  unfold execOp
  simp only [ho, hx, hy]
  generalize a.eval = f at *
  go_simp
theorem r_geqZ (n m : Int) (ho : o.op = .binOp .geq T x y T') (hx : a.eval x = .int k n) (hy : a.eval y = .int k m) : (execOp a.eval o).run P w = .ok (.value (.bool (decide (m ≤ n)))) w := by
  unfold execOp
  simp only [ho, hx, hy]
  generalize a.eval = f at *
  go_simp
theorem r_not (b : Bool) (ho : o.op = .unOp .not T x) (hx : a.eval x = .bool b) : (execOp a.eval o).run P w = .ok (.value (.bool (!b))) w := by
  unfold execOp
  simp only [ho, hx]
  generalize a.eval = f at *
  go_simp
theorem r_notD (p : Prop) [Decidable p] (ho : o.op = .unOp .not T x) (hx : a.eval x = .bool (decide p)) : (execOp a.eval o).run P w = .ok (.value (.bool (decide (¬ p)))) w := by
  rw [decide_not]; exact r_not _ ho hx
theorem r_conv {k' : IntKind} (n m : Nat) (hs : (P.underlying T).isSome = true) (hd : P.underlying T' = some (.int k')) (hm : k'.wrap (n : Int) = (m : Int)) (ho : o.op = .convert T T' x) (hx : a.eval x = .int k (n : Int)) :
    (execOp a.eval o).run P w = .ok (.value (.int k' (m : Int))) w := by
  have hk : P.intKind T' = k' := by unfold Program.intKind; rw [hd]
  have e := run_convert_int (P := P) w T T' k n hs (by rw [hk]; exact hd)
  rw [hk, hm] at e
  unfold execOp
  simp only [ho, hx]
  simp only [Sem.run_bind, e]
  rfl
theorem wrap_u8n (n : Nat) : IntKind.u8.wrap (n : Int) = ((n % 256 : Nat) : Int) := by rw [IntKind.wrap_u8]; omega
theorem wrap_u64n (n : Nat) : IntKind.u64.wrap (n : Int) = ((n % 18446744073709551616 : Nat) : Int) := by rw [IntKind.wrap_u64]; omega
theorem size_run {e : TypeId} (hz : (P.info? e).map (·.size) = some 1) (w : World) : (sizeOf e).run P w = .ok 1 w := by
  cases h : P.info? e with
  | none => rw [h] at hz; cases hz
  | some i =>
    rw [h] at hz; simp at hz
    have e1 : (typeInfo e).run P w = .ok i w := by simp [typeInfo, h]
    simp [sizeOf, e1, hz]
theorem r_ix {e : TypeId} {len : Nat} (g i : Nat) (hi : i < len) (hT : P.underlying T = some (.array len e)) (hz : (P.info? e).map (·.size) = some 1) (ho : o.op = .indexAddr T x y)
    (hx : a.eval x = .pointer (some ⟨g, 0, none⟩)) (hy : a.eval y = .int k (i : Int)) : (execOp a.eval o).run P w = .ok (.value (.pointer (some ⟨g, i, none⟩))) w := by
  have hl : P.arrayLen T = len := by unfold Program.arrayLen; rw [hT]
  have he : P.elem T = e := by unfold Program.elem; rw [hT]
  have h1 := run_indexAt_array (P := P) w T ⟨g, 0, none⟩ k (i : Int) (by rw [hl, he]; exact hT)
  rw [hl, he, if_pos (by omega), size_run hz] at h1
  unfold execOp
  simp only [ho, hx, hy]
  simp only [Sem.run_bind, h1]
  by_cases h0 : i = 0
  · subst h0; rfl
  · simp [Result.andThen, Addr.add, h0]
theorem r_cell {n : Nat} {f : Nat → Nat} {t : TypeId} (g i : Nat) (hi : i < n) (hb : Blk w g (rowOf k f n) t) (hT : P.underlying T = some (.int k)) (ho : o.op = .load T x) (hx : a.eval x = .pointer (some ⟨g, i, none⟩)) :
    (execOp a.eval o).run P w = .ok (.value (.int k (f i : Int))) w := by
  have h1 := ((show Row w g n t k f from hb).at i hi).1
  have h2 : (isAgg T).run P w = .ok false w := by simp [isAgg, run_underlying hT]
  unfold execOp
  simp only [ho, hx]
  generalize a.eval = g at *
  go_simp
theorem p_cell {n : Nat} {f : Nat → Nat} {t : TypeId} (g i z : Nat) (hi : i < n) (hb : Blk w g (rowOf k f n) t) (ho : o.op = .store T x y) (hz : (P.info? T).map (·.size) = some 1) (hx : a.eval x = .pointer (some ⟨g, i, none⟩)) (hy : a.eval y = .int k (z : Int)) :
    (execOp a.eval o).run P w = .ok .skip (w.setCell ⟨g, i, none⟩ (.int k (z : Int))) := by
  have h1 := ((show Row w g n t k f from hb).at i hi).1
  have h2 := ((show Row w g n t k f from hb).at i hi).2
  have h3 := size_run hz w
  unfold execOp
  simp only [ho, hx, hy]
  generalize a.eval = g at *
  go_simp
theorem r_len {s : ByteArray} (ho : o.op = .call { callee := .builtin .len, args := #[x], argTypes := #[T] }) (hT : P.underlying T = some .string) (hx : a.eval x = .string s) : (execOp a.eval o).run P w = .ok (.value (.int .i64 (s.size : Int))) w := by
  unfold execOp
  simp only [ho]
  generalize a.eval = f at *
  go_simp
theorem r_char {s : ByteArray} (i n : Nat) (hi : i < s.size) (hn : (s[i]'hi).toNat = n) (hT : P.underlying T = some .string) (ho : o.op = .index T x y) (hx : a.eval x = .string s) (hy : a.eval y = .int k (i : Int)) :
    (execOp a.eval o).run P w = .ok (.value (.int .u8 (n : Int))) w := by
  have h1 := run_index_string (P := P) w T s k (i : Int) hT
  rw [dif_pos (by omega)] at h1
  unfold execOp
  simp only [ho, hx, hy]
  simp only [Sem.run_bind, h1]
  subst hn
  simp [Result.andThen]
end
end Go.Proofs.YtikmkgoeepgbkaaGreatDoor.Sx
namespace Go.Proofs.YtikmkgoeepgbkaaGreatDoor.Sx
open Go.RowKit
open Go.Proofs.YtikmkgoeepgbkaaGreatDoor.Arr Go.Proofs.YtikmkgoeepgbkaaGreatDoor.Sym

/-- A text of n bytes. -/
def txt (f : Nat → Nat) (n : Nat) : ByteArray := ⟨((List.range n).map fun j => UInt8.ofNat (f j)).toArray⟩
theorem txt_size (f : Nat → Nat) (n : Nat) : (txt f n).size = n := by simp [txt, ByteArray.size]
theorem txt_at (f : Nat → Nat) (n i : Nat) (h : i < (txt f n).size) (hf : f i < 256) : ((txt f n)[i]'h).toNat = f i := by
  have hn : i < n := by rwa [txt_size] at h
  have key : ∀ (A : Array UInt8) (hA : A = ((List.range n).map fun j => UInt8.ofNat (f j)).toArray) (hi : i < A.size), A[i]'hi = UInt8.ofNat (f i) := by
    intro A hA hi
    subst hA
    simp
  have e : (txt f n)[i]'h = UInt8.ofNat (f i) := key _ rfl h
  rw [e]
  simp; omega
section
variable {P : Program} {o : Oper} {a : Act} {w : World} {x y : Operand} {T T' e : TypeId}
theorem r_sliceArr (g n : Nat) (hT : P.underlying T = some (.array n e)) (hz : (P.info? e).map (·.size) = some 1) (ho : o.op = .slice T x none none none) (hx : a.eval x = .pointer (some ⟨g, 0, none⟩)) :
    (execOp a.eval o).run P w = .ok (.value (.slice (some ⟨g, 0, none⟩) n n)) w := by
  have h1 := size_run hz w
  have h2 : (Instr.sliceAt T (.pointer (some ⟨g, 0, none⟩)) none none none).run P w = .ok (.slice (some ⟨g, 0, none⟩) n n) w := by
    simp only [Instr.sliceAt, Sem.run_bind, run_underlying hT, Result.andThen_ok, Instr.sureAddr, Instr.sliceBounds, Sem.run_pure, h1]
    have ha : (⟨g, 0, none⟩ : Addr).add 0 = ⟨g, 0, none⟩ := rfl
    by_cases h0 : n = 0
    · simp [h0]
    · simp [h0, ha]
  unfold execOp
  simp only [ho, hx, Option.map_none]
  simp only [Sem.run_bind, h2]
  rfl
theorem r_string (g n c : Nat) (f : Nat → Nat) (t : TypeId) (hf : ∀ j, j < n → f j < 256) (hb : Blk w g (rowOf .u8 f n) t) (hs : P.underlying T = some (.slice e)) (he : P.underlying e = some (.int .u8)) (hd : P.underlying T' = some .string)
    (ho : o.op = .convert T T' x) (hx : a.eval x = .slice (some ⟨g, 0, none⟩) n c) : (execOp a.eval o).run P w = .ok (.value (.string (txt f n))) w := by
  have h1 := run_convert_bytes_back (P := P) w T T' e ⟨g, 0, none⟩ c ((List.range n).map fun j => UInt8.ofNat (f j)) hs he hd (fun j hj => by
    have hj' : j < n := by simpa using hj
    have h2 := ((show Row w g n t .u8 f from hb).at j hj').1
    have e1 : (⟨g, 0, none⟩ : Addr).add j = ⟨g, j, none⟩ := by unfold Addr.add; split <;> simp_all
    rw [e1, h2]
    have := hf j hj'
    simp; omega)
  rw [List.length_map, List.length_range] at h1
  unfold execOp
  simp only [ho, hx]
  simp only [Sem.run_bind, h1]
  rfl
theorem r_cat (s t : ByteArray) (hst : s.size + t.size ≤ 9223372036854775807) (ho : o.op = .binOp .add T x y T') (hx : a.eval x = .string s) (hy : a.eval y = .string t) : (execOp a.eval o).run P w = .ok (.value (.string (s ++ t))) w := by
  unfold execOp
  simp only [ho, hx, hy]
  generalize a.eval = f at *
  go_simp
/-- A slice that is made: so many zero bytes. -/
theorem m_make {Q : Exit → Act → World → Prop} {K : Act → World → Prop} {w0 : World} {l : List (Nat × Array Value × TypeId)} {c : Array Value} (v : Nat → Value) (hm : Mm w0 w l) (d : Tmp) (hd : o.dst = some d) (hrun : (execOp a.eval o).run P w = .ok (.value (v w.heap.size)) (w.alloc (.cells c T)))
    (h : ∀ g w', Mm w0 w' (l ++ [(g, c, T)]) → K { a with tmps := a.tmps.setIfInBounds d (v g) } w') : o.wp P a w K Q := by
  unfold Oper.wp
  rw [hrun]
  have := h _ _ (hm.alloc c T)
  show K (a.put o.dst _) _
  unfold Act.put
  rw [hd]
  exact this
theorem made_zero (n : Nat) : madeCells (Value.cells (.int .u8 0)) (n * 1) = rowOf .u8 (fun _ => 0) n := by
  apply Array.ext
  · simp [size_madeCells, rowOf_size]
  · intro i h1 h2
    rw [rowOf_size] at h2
    have e2 := rowOf_get .u8 (fun _ => 0) n i h2
    rw [Array.getElem?_eq_getElem (by rw [rowOf_size]; exact h2)] at e2
    rw [Option.some.inj e2]
    simp [madeCells, Value.cells, Nat.mod_one]
theorem r_make (n : Nat) (i : TypeInfo) (hn : n ≤ 1000000000) (hs : P.underlying T = some (.slice e)) (hi : P.info? e = some i) (hz : i.zero = some (.int .u8 0)) (h1 : i.size = 1) (h2 : i.bytes = 1)
    (ho : o.op = .makeSlice T x y) (hx : a.eval x = .int .i64 (n : Int)) (hy : a.eval y = .int .i64 (n : Int)) : (execOp a.eval o).run P w = .ok (.value (.slice (some ⟨w.heap.size, 0, none⟩) n n)) (w.alloc (.cells (rowOf .u8 (fun _ => 0) n) e)) := by
  have h := run_make (P := P) w T e i (.int .u8 0) hs hi hz .i64 .i64 n n (by omega) (by omega) (by rw [h2]; omega) (by omega)
  rw [h1, Int.toNat_natCast, made_zero] at h
  unfold execOp
  simp only [ho, hx, hy]
  simp only [Sem.run_bind, h]
  rfl
end
end Go.Proofs.YtikmkgoeepgbkaaGreatDoor.Sx
namespace Go.Proofs.YtikmkgoeepgbkaaGreatDoor.Sx
open Go.RowKit
open Go.Proofs.YtikmkgoeepgbkaaGreatDoor.Num (up)
open Go.Proofs.YtikmkgoeepgbkaaGreatDoor.Arr Go.Proofs.YtikmkgoeepgbkaaGreatDoor.Sym

section
variable {P : Program} {o : Oper} {a : Act} {w : World} {x y : Operand} {T T' e : TypeId} {k : IntKind}
theorem r_lenS {ao : Option Addr} {n c : Nat} (ho : o.op = .call { callee := .builtin .len, args := #[x], argTypes := #[T] }) (hT : P.underlying T = some (.slice e)) (hx : a.eval x = .slice ao n c) : (execOp a.eval o).run P w = .ok (.value (.int .i64 (n : Int))) w := by
  have he : P.elem T = e := by unfold Program.elem; rw [hT]
  have hT' : P.underlying T = some (.slice (P.elem T)) := by rw [he]; exact hT
  unfold execOp
  simp only [ho]
  generalize a.eval = f at *
  go_simp
theorem r_ixS (g i n c : Nat) (hi : i < n) (hT : P.underlying T = some (.slice e)) (hz : (P.info? e).map (·.size) = some 1) (ho : o.op = .indexAddr T x y)
    (hx : a.eval x = .slice (some ⟨g, 0, none⟩) n c) (hy : a.eval y = .int k (i : Int)) : (execOp a.eval o).run P w = .ok (.value (.pointer (some ⟨g, i, none⟩))) w := by
  have he : P.elem T = e := by unfold Program.elem; rw [hT]
  have h1 := run_indexAt_slice (P := P) w T ⟨g, 0, none⟩ n c k (i : Int) (by rw [he]; exact hT)
  rw [he, if_pos (by omega), size_run hz] at h1
  unfold execOp
  simp only [ho, hx, hy]
  simp only [Sem.run_bind, h1]
  by_cases h0 : i = 0
  · subst h0; rfl
  · simp [Result.andThen, Addr.add, h0]
theorem r_makeC (n c : Nat) (i : TypeInfo) (hn : n ≤ c) (hc : c ≤ 1000000000) (hs : P.underlying T = some (.slice e)) (hi : P.info? e = some i) (hz : i.zero = some (.int .u8 0)) (h1 : i.size = 1) (h2 : i.bytes = 1)
    (ho : o.op = .makeSlice T x y) (hx : a.eval x = .int .i64 (n : Int)) (hy : a.eval y = .int .i64 (c : Int)) : (execOp a.eval o).run P w = .ok (.value (.slice (some ⟨w.heap.size, 0, none⟩) n c)) (w.alloc (.cells (rowOf .u8 (fun _ => 0) c) e)) := by
  have h := run_make (P := P) w T e i (.int .u8 0) hs hi hz .i64 .i64 n c (by omega) (by omega) (by rw [h2]; omega) (by omega)
  rw [h1, Int.toNat_natCast, Int.toNat_natCast, made_zero] at h
  unfold execOp
  simp only [ho, hx, hy]
  simp only [Sem.run_bind, h]
  rfl
theorem append_row (f : Nat → Nat) (n c z : Nat) (hn : n < c) : ((rowOf .u8 f c).toList.take n ++ [Value.int .u8 (z : Int)] ++ (rowOf .u8 f c).toList.drop (n + 1)).toArray = rowOf .u8 (up f n z) c := by
  have hl : (rowOf .u8 f c).toList.length = c := by rw [Array.length_toList, rowOf_size]
  apply Array.ext_getElem?
  intro j
  rw [List.getElem?_toArray]
  have hg : ∀ (h : Nat → Nat) (j : Nat), (rowOf .u8 h c)[j]? = if j < c then some (.int .u8 (h j : Int)) else none := by
    intro h j
    by_cases hj : j < c
    · rw [if_pos hj, rowOf_get .u8 h c j hj]
    · rw [if_neg hj, Array.getElem?_eq_none (by rw [rowOf_size]; omega)]
  rw [hg (up f n z) j, List.append_assoc, List.getElem?_append]
  have ht : ((rowOf .u8 f c).toList.take n).length = n := by rw [List.length_take, hl]; omega
  rw [ht]
  by_cases h1 : j < n
  · rw [if_pos h1, List.getElem?_take_of_lt h1, Array.getElem?_toList, hg, if_pos (by omega), if_pos (by omega)]
    unfold up; rw [if_neg (by omega)]
  · rw [if_neg h1]
    by_cases h2 : j = n
    · subst h2
      rw [Nat.sub_self, if_pos hn]
      unfold up; rw [if_pos rfl]; rfl
    · obtain ⟨q, hq⟩ : ∃ q, j - n = q + 1 := ⟨j - n - 1, by omega⟩
      rw [hq, List.singleton_append, List.getElem?_cons_succ, List.getElem?_drop, Array.getElem?_toList, show n + 1 + q = j by omega, hg]
      unfold up; rw [if_neg h2]
/-- One byte more, within the room. -/
theorem m_append {Q : Exit → Act → World → Prop} {K : Act → World → Prop} {w0 : World} {l : List (Nat × Array Value × TypeId)} (j j2 : Nat) {g g2 n c z : Nat} {f f2 : Nat → Nat} {t2 : TypeId} (i : TypeInfo) (hm : Mm w0 w l) (hj : l[j]? = some (g, rowOf .u8 f c, e)) (hj2 : l[j2]? = some (g2, rowOf .u8 f2 1, t2)) (hz : f2 0 = z) (hn : n < c)
    (hT : P.underlying T = some (.slice e)) (hi : P.info? e = some i) (h1 : i.size = 1) (d : Tmp) (hd : o.dst = some d) (ho : o.op = .call { callee := .builtin .append, args := #[x, y], argTypes := #[T, T] })
    (hx : a.eval x = .slice (some ⟨g, 0, none⟩) n c) (hy : a.eval y = .slice (some ⟨g2, 0, none⟩) 1 1)
    (h : ∀ w', Mm w0 w' (l.set j (g, rowOf .u8 (up f n z) c, e)) → K { a with tmps := a.tmps.setIfInBounds d (.slice (some ⟨g, 0, none⟩) (n + 1) c) } w') : o.wp P a w K Q := by
  have hb := hm.at j hj
  have hb2 := hm.at j2 hj2
  have hr := run_append_room (P := P) w T o.type e i hT hi g n c (rowOf .u8 f c) hb ⟨g2, 0, none⟩ 1 1 [.int .u8 (z : Int)] (by rw [h1]; rfl) (fun q u hu => by
    cases q with
    | zero =>
      have := ((show Row w g2 1 t2 .u8 f2 from hb2).at 0 (by decide)).1
      rw [hz] at this
      simp at hu
      rw [← hu]; exact this
    | succ q => simp at hu) (by simp [Value.oneCell']) (by omega) (by rw [h1, rowOf_size]; simp; omega)
  rw [h1, Nat.mul_one, List.length_singleton, append_row f n c z hn] at hr
  have := h _ (hm.set j hj _)
  have hrun : (execOp a.eval o).run P w = .ok (.value (.slice (some ⟨g, 0, none⟩) (n + 1) c)) (w.setRow g (rowOf .u8 (up f n z) c)) := by
    simp [execOp, ho, resolve, invoke, builtin, hx, hy, hr, Result.andThen]
  unfold Oper.wp
  rw [hrun]
  show K (a.put o.dst _) _
  unfold Act.put
  rw [hd]
  exact this
end
end Go.Proofs.YtikmkgoeepgbkaaGreatDoor.Sx
namespace Go.Proofs.YtikmkgoeepgbkaaGreatDoor.Mem
open Go.RowKit

/-! ### One block -/
/-- No cell is frozen. -/
def NF (n : Nat) (fz : Nat × Nat) : Prop := fz.2 ≤ fz.1 ∨ n ≤ fz.1
/-- Block g holds the cells c, and may be written. -/
def Blk (W : World) (g : Nat) (c : Array Value) (T : TypeId) : Prop := ∃ fz, W.heap[g]? = some (.cells c T fz) ∧ NF c.size fz
section
variable {w W W' : World} {g g' : Nat} {c d : Array Value} {T : TypeId}
theorem Blk.lt (h : Blk W g c T) : g < W.heap.size := by obtain ⟨_, h, _⟩ := h; exact (Array.getElem?_eq_some_iff.1 h).1
theorem Blk.of_heap (h : Blk W g c T) (e : W'.heap[g]? = W.heap[g]?) : Blk W' g c T := by obtain ⟨fz, h, hn⟩ := h; exact ⟨fz, e.trans h, hn⟩
theorem Blk.call (h : Blk W g c T) (hb : Below W.heap.size W W') : Blk W' g c T := h.of_heap (hb.block _ h.lt)
theorem Blk.new (W : World) (c : Array Value) (T : TypeId) : Blk (W.alloc (.cells c T)) W.heap.size c T := ⟨(0, 0), heap_alloc_new W _, .inl (Nat.le_refl _)⟩
theorem Blk.newF (W : World) (c : Array Value) (T : TypeId) (n m : Nat) (hn : c.size ≤ n) : Blk (W.alloc (.cells c T (n, m))) W.heap.size c T := ⟨(n, m), heap_alloc_new W _, .inr hn⟩
theorem Blk.set (h : Blk W g c T) (hd : d.size = c.size) : Blk (W.setRow g d) g d T := by
  obtain ⟨fz, h, hn⟩ := h
  exact ⟨fz, setRow_heap _ _ _ _ _ _ h, by rw [NF, hd]; exact hn⟩
theorem Blk.other (h : Blk W g c T) (hg : g ≠ g') : Blk (W.setRow g' d) g c T := h.of_heap (Go.setRow_other W g' g d hg)
theorem Blk.drew (h : Blk W g c T) : Blk W.drew g c T := h
theorem Blk.cell (h : Blk W g c T) (j : Nat) : W.cell? ⟨g, j, none⟩ = c[j]? := by obtain ⟨fz, h, _⟩ := h; exact cell_of_row W g j c T fz h
theorem Blk.frozen (h : Blk W g c T) (j : Nat) (hj : j < c.size) : W.frozen? ⟨g, j, none⟩ = false := by
  obtain ⟨⟨lo, hi⟩, h, hn⟩ := h
  unfold World.frozen?
  simp only [h]
  simp only [NF] at hn
  simp only [Bool.and_eq_false_iff, decide_eq_false_iff_not]
  omega
theorem Blk.of_sym (h : Sym.Blk W g c T) : Blk W g c T := ⟨(0, 0), h, .inl (Nat.le_refl _)⟩
theorem Blk.setCell (h : Blk W g c T) (j : Nat) (v : Value) : W.setCell ⟨g, j, none⟩ v = W.setRow g (c.setIfInBounds j v) := by
  obtain ⟨fz, h, _⟩ := h
  exact setCell_eq_setRow W g j c T fz v h
end
theorem add_lit (g o i : Nat) : (⟨g, o, none⟩ : Addr).add i = ⟨g, o + i, none⟩ := by unfold Addr.add; split <;> simp_all

/-! ### What a call has made, was handed to write, or reads -/
/-- R holds, and goes on to hold as long as the blocks F stay as they are. -/
def Seal (R : World → Prop) (F : Nat → Prop) (W : World) : Prop :=
  (∀ g, F g → g < W.heap.size) ∧ R W ∧ ∀ W' : World, (∀ g, F g → W'.heap[g]? = W.heap[g]?) → R W'
/-- Behind w: R, out of new blocks and those of S. -/
def Gives (w W : World) (S : Nat → Prop) (R : World → Prop) : Prop := ∃ F, Seal R F W ∧ ∀ g, F g → w.heap.size ≤ g ∨ S g
section
variable {w W W' : World} {R R' : World → Prop} {F F' S S' : Nat → Prop}
theorem Seal.out (h : Seal R F W) : R W := h.2.1
theorem Seal.keep (h : Seal R F W) (hW : ∀ g, F g → W'.heap[g]? = W.heap[g]?) : Seal R F W' := by
  refine ⟨fun g hg => ?_, h.2.2 W' hW, fun W2 h2 => h.2.2 W2 fun g hg => (h2 g hg).trans (hW g hg)⟩
  have h1 := h.1 g hg
  have h2 := hW g hg
  rw [Array.getElem?_eq_getElem h1] at h2
  exact (Array.getElem?_eq_some_iff.1 h2).1
theorem Seal.below (h : Seal R F W) (hb : Below W.heap.size W W') : Seal R F W' := h.keep fun g hg => hb.block g (h.1 g hg)
theorem Seal.mono (h : Seal R F W) (f : ∀ W, R W → R' W) : Seal R' F W := ⟨h.1, f _ h.2.1, fun W' h' => f _ (h.2.2 W' h')⟩
theorem Seal.and (h : Seal R F W) (k : Seal R' F' W) : Seal (fun W => R W ∧ R' W) (fun g => F g ∨ F' g) W :=
  ⟨fun g hg => hg.elim (h.1 g) (k.1 g), ⟨h.2.1, k.2.1⟩, fun W' hW => ⟨h.2.2 W' fun g hg => hW g (.inl hg), k.2.2 W' fun g hg => hW g (.inr hg)⟩⟩
theorem Seal.pure {p : Prop} (h : p) : Seal (fun _ => p) (fun _ => False) W := ⟨fun _ h => h.elim, h, fun _ _ => h⟩
theorem Gives.and (h : Gives w W S R) (k : Gives w W S R') : Gives w W S (fun W => R W ∧ R' W) := by
  obtain ⟨F, h1, h2⟩ := h
  obtain ⟨F', k1, k2⟩ := k
  exact ⟨_, h1.and k1, fun g hg => hg.elim (h2 g) (k2 g)⟩
theorem Gives.mono (h : Gives w W S R) (f : ∀ W, R W → R' W) : Gives w W S R' := by
  obtain ⟨F, h1, h2⟩ := h
  exact ⟨F, h1.mono f, h2⟩
theorem Gives.out (h : Gives w W S R) : R W := by obtain ⟨F, h1, _⟩ := h; exact h1.out
theorem Gives.pure {p : Prop} (h : p) : Gives w W S (fun _ => p) := ⟨_, Seal.pure h, fun _ h => h.elim⟩
theorem Gives.wide (h : Gives w W S R) (f : ∀ g, S g → S' g) : Gives w W S' R := by
  obtain ⟨F, h1, h2⟩ := h
  exact ⟨F, h1, fun g hg => (h2 g hg).imp id (f g)⟩
theorem Gives.below (h : Gives w W S R) (hb : Below W.heap.size W W') : Gives w W' S R := by
  obtain ⟨F, h1, h2⟩ := h
  exact ⟨F, h1.below hb, h2⟩
end
inductive Ent where
  | blk (g : Nat) (c : Array Value) (T : TypeId)
  | row (v : Value) (n : Nat) (xs : List Value) (e : TypeId) (size : Nat)
  | see (R : World → Prop) (F : Nat → Prop)
  | fam (vs : List Value) (ls : List (List Value)) (e : TypeId)
  | itr (g : Nat) (s : ByteArray) (pos : Nat)
/-- The blocks that are the call's own to write. -/
def Ent.own : Ent → Nat → Prop
  | .blk g _ _, g' => g = g'
  | .row v _ _ _ _, g' => v.ownBlock = some g'
  | .see _ _, _ => False
  | .fam vs _ _, g' => ∃ (k : Nat) (v : Value), vs[k]? = some v ∧ v.ownBlock = some g'
  | .itr g _ _, g' => g = g'
/-- The blocks that it speaks of. -/
def Ent.uses (x : Ent) (g : Nat) : Prop := match x with
  | .see _ F => F g
  | x => x.own g
def Ent.plain : Ent → Bool
  | .see _ _ => false
  | _ => true
/-- Rows of one cell an element, no two in one block. -/
def Fam (W : World) (vs : List Value) (ls : List (List Value)) (e : TypeId) : Prop :=
  vs.length = ls.length ∧ (∀ (k : Nat) (v : Value) (l : List Value), vs[k]? = some v → ls[k]? = some l → W.ownsRow 0 e 1 v l.length l) ∧
    ∀ (i j : Nat) (v v' : Value) (g : Nat), i ≠ j → vs[i]? = some v → vs[j]? = some v' → v.ownBlock = some g → v'.ownBlock ≠ some g
def Ent.ok (W : World) : Ent → Prop
  | .blk g c T => Blk W g c T
  | .row v n xs e size => W.ownsRow 0 e size v n xs
  | .see R F => Seal R F W
  | .fam vs ls e => Fam W vs ls e
  | .itr g s pos => W.heap[g]? = some (.stringIter s pos)
theorem Ent.own_uses {x : Ent} {g : Nat} (h : x.own g) : x.uses g := by
  cases x <;> first | exact h | exact h.elim
theorem row_kept {W W' : World} {e : TypeId} {size : Nat} {v : Value} {n : Nat} {xs : List Value} (h : W.ownsRow 0 e size v n xs) (hg : ∀ g, v.ownBlock = some g → W'.heap[g]? = W.heap[g]?) : W'.ownsRow 0 e size v n xs := by
  refine ⟨h.1, ?_⟩
  rcases h.2 with hn | ⟨g, cap, cur, rfl, hb, hgg, rest⟩
  · exact .inl hn
  · exact .inr ⟨g, cap, cur, rfl, hb, (hg g rfl).trans hgg, rest⟩
theorem Fam.at {W : World} {vs : List Value} {ls : List (List Value)} {e : TypeId} (h : Fam W vs ls e) {k : Nat} {v : Value} (hv : vs[k]? = some v) : ∃ l, ls[k]? = some l ∧ W.ownsRow 0 e 1 v l.length l := by
  have hk : k < ls.length := by rw [← h.1]; exact (List.getElem?_eq_some_iff.1 hv).1
  exact ⟨_, List.getElem?_eq_getElem hk, h.2.1 k v _ hv (List.getElem?_eq_getElem hk)⟩
section
variable {w W W' : World} {x : Ent} {r : Option Nat}
theorem Ent.ok.lt (h : x.ok W) {g : Nat} (hg : x.uses g) : g < W.heap.size := by
  cases x with
  | blk g' c T => obtain rfl : g' = g := hg; exact Blk.lt h
  | row v n xs e size => exact (World.ownsRow.lt h g hg).2
  | see R F => exact h.1 g hg
  | fam vs ls e =>
    obtain ⟨k, v, hv, hg⟩ := hg
    obtain ⟨l, _, hl⟩ := Fam.at h hv
    exact (hl.lt g hg).2
  | itr g' s pos => obtain rfl : g' = g := hg; exact (Array.getElem?_eq_some_iff.1 h).1
theorem Ent.ok.kept (h : x.ok W) (hg : ∀ g, x.uses g → W'.heap[g]? = W.heap[g]?) : x.ok W' := by
  cases x with
  | blk g c T => exact Blk.of_heap h (hg g rfl)
  | row v n xs e size => exact row_kept h hg
  | see R F => exact Seal.keep h hg
  | fam vs ls e => exact ⟨h.1, fun k v l hv hl => row_kept (h.2.1 k v l hv hl) (fun g hb => hg g ⟨k, v, hv, hb⟩), h.2.2⟩
  | itr g s pos => exact (hg g rfl).trans h
end
/-- Behind w: these blocks and rows, and what is read; all else of w is as it was, but for block r. What is read is new, or of S. -/
structure Mm (r : Option Nat) (S : Nat → Prop) (w W : World) (l : List Ent) : Prop where
  ok : ∀ (i : Nat) (x : Ent), l[i]? = some x → x.ok W
  low : ∀ (i : Nat) (x : Ent) (g : Nat), l[i]? = some x → x.own g → w.heap.size ≤ g ∨ r = some g
  src : ∀ (i : Nat) (R : World → Prop) (F : Nat → Prop) (g : Nat), l[i]? = some (.see R F) → F g → w.heap.size ≤ g ∨ S g
  ne : ∀ (i j : Nat) (x y : Ent) (g : Nat), l[i]? = some x → l[j]? = some y → i ≠ j → x.own g → ¬ y.uses g
  frame : w.grownBy W r
theorem grown_refl (w : World) (r : Option Nat) : w.grownBy w r := ⟨rfl, rfl, rfl, Nat.le_refl _, fun _ _ _ => rfl⟩
theorem grown_trans {a b c : World} {r : Option Nat} (h : a.grownBy b r) (k : b.grownBy c r) : a.grownBy c r :=
  ⟨k.os.trans h.os, k.tape.trans h.tape, k.output.trans h.output, Nat.le_trans h.size k.size, fun i hi hr => (k.block i (Nat.lt_of_lt_of_le hi h.size) hr).trans (h.block i hi hr)⟩
theorem below_of {w W : World} (h : w.grownBy W none) : Below w.heap.size w W := ⟨h.os, h.tape, h.output, h.size, fun k hk => h.block k hk (by simp)⟩
theorem grown_of {w W : World} (h : Below w.heap.size w W) (r : Option Nat) : w.grownBy W r := ⟨h.os, h.tape, h.output, h.size, fun k hk _ => h.block k hk⟩
section
variable {r : Option Nat} {S : Nat → Prop} {w W W' : World} {l : List Ent} {g : Nat} {c d : Array Value} {T : TypeId} {R : World → Prop} {F : Nat → Prop}
theorem Mm.nil (r : Option Nat) (S : Nat → Prop) (w : World) : Mm r S w w [] := ⟨fun i x h => by simp at h, fun i x g h => by simp at h, fun i R F g h => by simp at h, fun i j x y g h => by simp at h, grown_refl _ _⟩
theorem Mm.below (h : Mm none S w W l) : Below w.heap.size w W := below_of h.frame
theorem Mm.at (h : Mm r S w W l) (i : Nat) (hi : l[i]? = some (.blk g c T)) : Blk W g c T := h.ok i _ hi
theorem Mm.row (h : Mm r S w W l) (i : Nat) {v : Value} {n : Nat} {xs : List Value} {e : TypeId} {size : Nat} (hi : l[i]? = some (.row v n xs e size)) : W.ownsRow 0 e size v n xs := h.ok i _ hi
theorem Mm.seal (h : Mm r S w W l) (i : Nat) (hi : l[i]? = some (.see R F)) : Seal R F W := h.ok i _ hi
theorem Mm.see (h : Mm r S w W l) (i : Nat) (hi : l[i]? = some (.see R F)) : R W := (h.seal i hi).out
theorem Mm.seen (h : Mm r S w W l) (i : Nat) (hi : l[i]? = some (.see R F)) : Gives w W S R := ⟨F, h.seal i hi, fun g hg => h.src i R F g hi hg⟩
/-- A call that leaves all blocks as they are. -/
theorem Mm.call (h : Mm r S w W l) (hb : Below W.heap.size W W') : Mm r S w W' l :=
  ⟨fun i x hi => (h.ok i x hi).kept fun g hg => hb.block g ((h.ok i x hi).lt hg), h.low, h.src, h.ne, grown_trans h.frame (grown_of hb r)⟩
theorem Mm.drew (h : Mm r S w W l) : Mm r S w W.drew l := ⟨fun i x hi => (h.ok i x hi).kept fun _ _ => rfl, h.low, h.src, h.ne, ⟨h.frame.os, h.frame.tape, h.frame.output, h.frame.size, h.frame.block⟩⟩
theorem get_snoc {x : Ent} : ∀ (i : Nat) (y : Ent), (l ++ [x])[i]? = some y → (i < l.length ∧ l[i]? = some y) ∨ (i = l.length ∧ y = x) := by
  intro i y hi
  by_cases hl : i < l.length
  · rw [List.getElem?_append_left hl] at hi; exact .inl ⟨hl, hi⟩
  · rw [List.getElem?_append_right (by omega)] at hi
    cases hk : i - l.length with
    | zero => rw [hk] at hi; simp at hi; exact .inr ⟨by omega, hi.symm⟩
    | succ k => rw [hk] at hi; simp at hi
/-- One more. -/
theorem Mm.moreG (h : Mm r S w W l) (hb : Below W.heap.size W W') {x : Ent} (hx : x.ok W') (hn : ∀ g, x.own g → W.heap.size ≤ g) (hu : ∀ g, x.uses g → ∀ (i : Nat) (y : Ent), l[i]? = some y → ¬ y.own g)
    (hs : ∀ R F g, x = .see R F → F g → w.heap.size ≤ g ∨ S g) : Mm r S w W' (l ++ [x]) := by
  have h' := h.call hb
  refine ⟨fun i y hi => ?_, fun i y g hi hg => ?_, fun i R F g hi hg => ?_, fun i j y z g hi hj hij hg hz => ?_, h'.frame⟩
  · rcases get_snoc _ _ hi with ⟨_, h1⟩ | ⟨_, rfl⟩
    · exact h'.ok _ _ h1
    · exact hx
  · rcases get_snoc _ _ hi with ⟨_, h1⟩ | ⟨_, rfl⟩
    · exact h.low _ _ _ h1 hg
    · exact .inl (Nat.le_trans h.frame.size (hn g hg))
  · rcases get_snoc _ _ hi with ⟨_, h1⟩ | ⟨_, e⟩
    · exact h.src _ _ _ _ h1 hg
    · exact hs _ _ _ e.symm hg
  · rcases get_snoc _ _ hi with ⟨_, h1⟩ | ⟨e1, rfl⟩
    · rcases get_snoc _ _ hj with ⟨_, h2⟩ | ⟨_, rfl⟩
      · exact h.ne _ _ _ _ _ h1 h2 hij hg hz
      · exact hu g hz _ _ h1 hg
    · rcases get_snoc _ _ hj with ⟨_, h2⟩ | ⟨e2, rfl⟩
      · exact absurd (hn g hg) (Nat.not_le.2 ((h.ok _ _ h2).lt hz))
      · omega
/-- One more that is new. -/
theorem Mm.more (h : Mm r S w W l) (hb : Below W.heap.size W W') {x : Ent} (hx : x.ok W') (hn : ∀ g, x.uses g → W.heap.size ≤ g) : Mm r S w W' (l ++ [x]) :=
  h.moreG hb hx (fun g hg => hn g (Ent.own_uses hg)) (fun g hg i y hi hy => absurd (hn g hg) (Nat.not_le.2 ((h.ok _ _ hi).lt (Ent.own_uses hy))))
    (fun R F g e hg => .inl (Nat.le_trans h.frame.size (hn g (by rw [e]; exact hg))))
theorem Mm.alloc (h : Mm r S w W l) (c : Array Value) (T : TypeId) : Mm r S w (W.alloc (.cells c T)) (l ++ [.blk W.heap.size c T]) :=
  h.more ((Below.refl _ _).alloc (Nat.le_refl _) _) (Blk.new W c T) (fun g hg => by have hg : W.heap.size = g := hg; omega)
/-- What came in to be read. -/
theorem Mm.came (h : Mm none S w W l) (hs : Seal R F w) (hS : ∀ g, F g → S g) : Mm none S w W (l ++ [.see R F]) :=
  h.moreG (Below.refl _ _) (Seal.below hs h.below) (fun g hg => hg.elim)
    (fun g hg i y hi hy => by
      rcases h.low i y g hi hy with h1 | h1
      · exact absurd h1 (Nat.not_le.2 (hs.1 g hg))
      · cases h1)
    (fun R' F' g e hg => by
      simp only [Ent.see.injEq] at e
      exact .inr (hS g (by rw [e.2]; exact hg)))
/-- What is read is nobody's own. -/
theorem Mm.apart (h : Mm r S w W l) (i : Nat) (hi : l[i]? = some (.see R F)) (hg : F g) (j : Nat) (y : Ent) (hj : l[j]? = some y) : ¬ y.own g := by
  intro hy
  by_cases e : j = i
  · subst e
    rw [hi] at hj
    obtain rfl := Option.some.inj hj
    exact hy
  · exact h.ne j i y (.see R F) g hj hi e hy hg
/-- What a call gives. -/
theorem Mm.took {T : Nat → Prop} (h : Mm r S w W l) (hb : Below W.heap.size W W') (hg : Gives W W' T R) (ht : ∀ g, T g → ∃ (i : Nat) (R' : World → Prop) (F' : Nat → Prop), l[i]? = some (.see R' F') ∧ F' g) : ∃ F, Mm r S w W' (l ++ [.see R F]) := by
  obtain ⟨F, h1, h2⟩ := hg
  refine ⟨F, h.moreG hb h1 (fun g hg => hg.elim) (fun g hg i y hi hy => ?_) (fun R' F' g e hg => ?_)⟩
  · rcases h2 g hg with h3 | h3
    · exact absurd h3 (Nat.not_le.2 ((h.ok _ _ hi).lt (Ent.own_uses hy)))
    · obtain ⟨k, R', F', hk, hF⟩ := ht g h3
      exact h.apart k hk hF i y hi hy
  · simp only [Ent.see.injEq] at e
    obtain ⟨rfl, rfl⟩ := e
    rcases h2 g hg with h3 | h3
    · exact .inl (Nat.le_trans h.frame.size h3)
    · obtain ⟨k, R', F', hk, hF⟩ := ht g h3
      exact h.src k R' F' g hk hF
theorem get_set {i : Nat} {x y : Ent} (hi : l[i]? = some x) : ∀ (j : Nat) (z : Ent), (l.set i y)[j]? = some z → (j = i ∧ z = y) ∨ (j ≠ i ∧ l[j]? = some z) := by
  have hl : i < l.length := (List.getElem?_eq_some_iff.1 hi).1
  intro j z hj
  by_cases e : j = i
  · subst e; rw [List.getElem?_set_self hl] at hj; simp at hj; exact .inl ⟨rfl, hj.symm⟩
  · rw [List.getElem?_set_ne (fun e' => e e'.symm)] at hj; exact .inr ⟨e, hj⟩
/-- One is another. -/
theorem Mm.changeG (h : Mm r S w W l) (i : Nat) {x y : Ent} (hi : l[i]? = some x) {o : Option Nat} (hg : W.grownBy W' o) (ho : ∀ g, o = some g → x.own g) (hy : y.ok W') (hu : ∀ g, y.uses g → x.uses g ∨ W.heap.size ≤ g) (hn : ∀ g, y.own g → x.own g ∨ W.heap.size ≤ g)
    (hs : ∀ R F g, y = .see R F → F g → w.heap.size ≤ g ∨ S g) : Mm r S w W' (l.set i y) := by
  have key := get_set (y := y) hi
  have old : ∀ (j : Nat) (z : Ent), l[j]? = some z → j ≠ i → ∀ g, z.uses g → g < W.heap.size ∧ ¬ x.own g := fun j z hj hji g hz =>
    ⟨(h.ok j z hj).lt hz, fun hx => h.ne i j x z g hi hj (fun e => hji e.symm) hx hz⟩
  refine ⟨fun j z hj => ?_, fun j z g hj hz => ?_, fun j R F g hj hz => ?_, fun j k z z' g hj hk hjk hz hz' => ?_, ?_⟩
  · rcases key _ _ hj with ⟨_, rfl⟩ | ⟨e, h1⟩
    · exact hy
    · exact (h.ok _ _ h1).kept fun g hz => hg.block g (old _ _ h1 e g hz).1 (fun e' => (old _ _ h1 e g hz).2 (ho g e'.symm))
  · rcases key _ _ hj with ⟨_, rfl⟩ | ⟨e, h1⟩
    · rcases hn g hz with hx | hx
      · exact h.low _ _ _ hi hx
      · exact .inl (Nat.le_trans h.frame.size hx)
    · exact h.low _ _ _ h1 hz
  · rcases key _ _ hj with ⟨_, e1⟩ | ⟨e, h1⟩
    · exact hs _ _ _ e1.symm hz
    · exact h.src _ _ _ _ h1 hz
  · rcases key _ _ hj with ⟨e1, rfl⟩ | ⟨e, h1⟩
    · rcases key _ _ hk with ⟨e2, rfl⟩ | ⟨e2, h2⟩
      · omega
      · rcases hn g hz with hx | hx
        · exact (old _ _ h2 e2 g hz').2 hx
        · exact absurd hx (Nat.not_le.2 (old _ _ h2 e2 g hz').1)
    · rcases key _ _ hk with ⟨e2, rfl⟩ | ⟨e2, h2⟩
      · rcases hu g hz' with hx | hx
        · exact h.ne j i z x g h1 hi e hz hx
        · exact absurd hx (Nat.not_le.2 (old _ _ h1 e g (Ent.own_uses hz)).1)
      · exact h.ne _ _ _ _ _ h1 h2 hjk hz hz'
  · refine ⟨hg.os.trans h.frame.os, hg.tape.trans h.frame.tape, hg.output.trans h.frame.output, Nat.le_trans h.frame.size hg.size, fun k hk hr => ?_⟩
    refine (hg.block k (Nat.lt_of_lt_of_le hk h.frame.size) fun e => ?_).trans (h.frame.block k hk hr)
    rcases h.low i x k hi (ho k e.symm) with h1 | h1
    · omega
    · exact hr h1.symm
/-- One that is written is another that is. -/
theorem Mm.change (h : Mm r S w W l) (i : Nat) {x y : Ent} (hi : l[i]? = some x) {o : Option Nat} (hg : W.grownBy W' o) (ho : ∀ g, o = some g → x.own g) (hy : y.ok W') (hn : ∀ g, y.own g → x.own g ∨ W.heap.size ≤ g) (hp : y.plain = true := by rfl) : Mm r S w W' (l.set i y) := by
  refine h.changeG i hi hg ho hy (fun g hu => ?_) hn (fun R F g e => by rw [e] at hp; cases hp)
  have : y.own g := by cases y <;> first | exact hu | cases hp
  exact (hn g this).imp (fun h => Ent.own_uses h) id
theorem grown_set (W : World) (g : Nat) (d : Array Value) : W.grownBy (W.setRow g d) (some g) :=
  ⟨rfl, rfl, rfl, by simp, fun k _ hr => Go.setRow_other W g k d (fun e => hr (by rw [e]))⟩
theorem Mm.set (h : Mm r S w W l) (i : Nat) (hi : l[i]? = some (.blk g c T)) (d : Array Value) (hd : d.size = c.size) : Mm r S w (W.setRow g d) (l.set i (.blk g d T)) :=
  h.change i hi (grown_set W g d) (fun _ e => Option.some.inj e) ((h.at i hi).set hd) (fun _ e => .inl e)
/-- One cell is written. -/
theorem Mm.put (h : Mm r S w W l) (i : Nat) (hi : l[i]? = some (.blk g c T)) (j : Nat) (v : Value) (hd : c.setIfInBounds j v = d) : Mm r S w (W.setCell ⟨g, j, none⟩ v) (l.set i (.blk g d T)) := by
  rw [(h.at i hi).setCell j v, hd]
  exact h.set i hi d (by rw [← hd, Array.size_setIfInBounds])
theorem Mm.pre {m : List Ent} (h : Mm r S w W (l ++ m)) : Mm r S w W l :=
  have key : ∀ (i : Nat) (x : Ent), l[i]? = some x → (l ++ m)[i]? = some x := fun i x h => by
    rw [List.getElem?_append_left (List.getElem?_eq_some_iff.1 h).1]; exact h
  ⟨fun i x hi => h.ok i x (key _ _ hi), fun i x g hi => h.low i x g (key _ _ hi), fun i R F g hi => h.src i R F g (key _ _ hi), fun i j x y g hi hj => h.ne i j x y g (key _ _ hi) (key _ _ hj), h.frame⟩
theorem Mm.reorder (h : Mm r S w W l) (p : List Nat) (hp : p.Nodup) (ha : (p.all fun i => decide (i < l.length)) = true) : Mm r S w W (p.map fun i => l.getD i (.blk 0 #[] 0)) := by
  have key : ∀ (k : Nat) (x : Ent), (p.map fun i => l.getD i (.blk 0 #[] 0))[k]? = some x → ∃ i, p[k]? = some i ∧ l[i]? = some x := by
    intro k x hk
    rw [List.getElem?_map] at hk
    cases hpk : p[k]? with
    | none => rw [hpk] at hk; cases hk
    | some i =>
      have hi : i < l.length := by
        rw [List.all_eq_true] at ha
        exact of_decide_eq_true (ha i (List.mem_of_getElem? hpk))
      rw [hpk] at hk
      simp only [Option.map_some, Option.some.injEq] at hk
      refine ⟨i, rfl, ?_⟩
      rw [List.getD_eq_getElem?_getD, List.getElem?_eq_getElem hi] at hk
      rw [List.getElem?_eq_getElem hi, ← hk]; rfl
  refine ⟨fun k x hk => ?_, fun k x g hk hg => ?_, fun k R F g hk hg => ?_, fun k m x y g hk hm hkm hx hy => ?_, h.frame⟩
  · obtain ⟨i, _, hi⟩ := key _ _ hk; exact h.ok _ _ hi
  · obtain ⟨i, _, hi⟩ := key _ _ hk; exact h.low _ _ _ hi hg
  · obtain ⟨i, _, hi⟩ := key _ _ hk; exact h.src _ _ _ _ hi hg
  · obtain ⟨i, h1, hi⟩ := key _ _ hk
    obtain ⟨j, h2, hj⟩ := key _ _ hm
    refine h.ne _ _ _ _ _ hi hj (fun e => hkm ?_) hx hy
    subst e
    obtain ⟨k1, e1⟩ := List.getElem?_eq_some_iff.1 h1
    obtain ⟨k2, e2⟩ := List.getElem?_eq_some_iff.1 h2
    have hn := List.pairwise_iff_getElem.1 hp
    rcases Nat.lt_trichotomy k m with h3 | h3 | h3
    · exact absurd (e1.trans e2.symm) (hn k m k1 k2 h3)
    · exact h3
    · exact absurd (e2.trans e1.symm) (hn m k k2 k1 h3)
end

/-! ### Operations that change memory -/
section
variable {P : Program} {Q : Exit → Act → World → Prop} {K : Act → World → Prop} {oi : Oper} {a : Act} {r : Option Nat} {S : Nat → Prop} {w0 w : World} {l : List Ent}
theorem m_alloc {c : Array Value} {T : TypeId} (hm : Mm r S w0 w l) (d : Tmp) (hd : oi.dst = some d) (hrun : (execOp a.eval oi).run P w = .ok (.value (.pointer (some ⟨w.heap.size, 0, none⟩))) (w.alloc (.cells c T)))
    (h : ∀ g w', Mm r S w0 w' (l ++ [.blk g c T]) → K { a with tmps := a.tmps.setIfInBounds d (.pointer (some ⟨g, 0, none⟩)) } w') : oi.wp P a w K Q := by
  unfold Oper.wp
  rw [hrun]
  have := h _ _ (hm.alloc c T)
  show K (a.put oi.dst _) _
  unfold Act.put
  rw [hd]
  exact this
/-- A slice that is made, or written out. -/
theorem m_make {c : Array Value} {T : TypeId} (v : Nat → Value) (hm : Mm r S w0 w l) (d : Tmp) (hd : oi.dst = some d) (hrun : (execOp a.eval oi).run P w = .ok (.value (v w.heap.size)) (w.alloc (.cells c T)))
    (h : ∀ g w', Mm r S w0 w' (l ++ [.blk g c T]) → K { a with tmps := a.tmps.setIfInBounds d (v g) } w') : oi.wp P a w K Q := by
  unfold Oper.wp
  rw [hrun]
  have := h _ _ (hm.alloc c T)
  show K (a.put oi.dst _) _
  unfold Act.put
  rw [hd]
  exact this
theorem storeCells_blk (g : Nat) (t : TypeId) : ∀ (vs : List Value) (o i : Nat) (cur : Array Value) (w : World), Blk w g cur t → o + i + vs.length ≤ cur.size → (∀ v ∈ vs, v.oneCell' = true) →
    (storeCells ⟨g, o, none⟩ vs i).run P w = .ok () (w.setRow g (cur.toList.take (o + i) ++ vs ++ cur.toList.drop (o + i + vs.length)).toArray)
  | [], o, i, cur, w, hg, _, _ => by
    obtain ⟨fz, hg, _⟩ := hg
    simp only [storeCells, List.append_nil, List.length_nil, Nat.add_zero, List.take_append_drop, Array.toArray_toList]
    rw [setRow_self w g cur t fz hg]
    rfl
  | v :: rest, o, i, cur, w, hg, hl, h1 => by
    have hi : o + i < cur.size := by simp at hl; omega
    have hcell : w.cell? ⟨g, o + i, none⟩ = some cur[o + i] := by rw [hg.cell, Array.getElem?_eq_getElem hi]
    have hfro := hg.frozen (o + i) hi
    have hst : (store ((⟨g, o, none⟩ : Addr).add i) v).run P w = .ok () (w.setRow g (cur.setIfInBounds (o + i) v)) := by
      rw [add_lit, run_store P w _ v _ (h1 v (by simp)), hcell]
      simp [hfro, hg.setCell]
    have ih := storeCells_blk g t rest o (i + 1) (cur.setIfInBounds (o + i) v) (w.setRow g (cur.setIfInBounds (o + i) v)) (hg.set (by simp)) (by simp at hl ⊢; omega) (fun x hx => h1 x (by simp [hx]))
    simp only [storeCells, Sem.run_bind, hst, Result.andThen_ok, ih, setRow_setRow]
    congr 3
    have e := list_seg_step cur.toList (o + i) v rest (by simp at hl ⊢; omega)
    simpa [Array.toList_setIfInBounds, Nat.add_assoc] using e
/-- Cells are written into a block, from place o on. -/
def into (c : Array Value) (o : Nat) (v : Array Value) : Array Value := (c.toList.take o ++ v.toList ++ c.toList.drop (o + v.size)).toArray
theorem into_size (c v : Array Value) (o : Nat) (h : o + v.size ≤ c.size) : (into c o v).size = c.size := by simp [into]; omega
theorem into_all (c v : Array Value) (h : c.size = v.size) : into c 0 v = v := by
  have e : c.toList.drop v.size = [] := List.drop_eq_nil_of_le (by simp; omega)
  simp [into, e]
theorem one_all {v : Value} (h : v.oneCell' = true) : v.cells.all (·.oneCell') = true := by
  cases v <;> simp_all [Value.cells, Value.oneCell']
theorem m_store (i : Nat) (ty : TypeId) (x y : Operand) {g : Nat} (o : Nat) (v : Value) {T : TypeId} {old : Array Value} (hm : Mm r S w0 w l) (hi : l[i]? = some (.blk g old T)) (hd : oi.dst = none)
    (ho : oi.op = .store ty x y) (hx : a.eval x = .pointer (some ⟨g, o, none⟩)) (hy : a.eval y = v) (hz : (P.info? ty).map (·.size) = some v.cells.size)
    (hold : o + v.cells.size ≤ old.size) (h1 : v.cells.all (·.oneCell') = true) {new : Array Value} (hnew : into old o v.cells = new) (h : ∀ w', Mm r S w0 w' (l.set i (.blk g new T)) → K a w') : oi.wp P a w K Q := by
  have hst := storeCells_blk (P := P) g T v.cells.toList o 0 old w (hm.at i hi) (by simpa using hold) (fun v hv => (Array.all_eq_true_iff_forall_mem.1 h1) v (by simpa using hv))
  have hrun : (storeVar ty ⟨g, o, none⟩ v).run P w = .ok () (w.setRow g (into old o v.cells)) := by
    cases hq : P.info? ty with
    | none => simp [hq] at hz
    | some i =>
      have hs : v.cells.size = i.size := by simp [hq] at hz; omega
      have hf : i.size = v.cells.size := hs.symm
      simp only [Nat.add_zero] at hst
      simp [storeVar, sizeOf, typeInfo, hq, hf, hst, into]
  unfold Oper.wp execOp
  simp only [ho, hx, hy, Instr.storeAt, Instr.sureAddr, Sem.run_bind, Sem.run_pure, Result.andThen_ok, hrun]
  show K (a.put oi.dst undef) _
  unfold Act.put
  rw [hd]
  refine h _ ?_
  rw [← hnew]
  exact hm.set i hi _ (into_size _ _ _ hold)
theorem m_call {f : FuncId} {args : Array Value} (hm : Mm r S w0 w l) (d : Tmp) (v : Value) (hd : oi.dst = some d) (hrun : (execOp a.eval oi).run P w = .ok (.enter f args) w) (hc : Calls P f args w fun e w' => e = .returned v ∧ Below w.heap.size w w')
    (h : ∀ w', Mm r S w0 w' l → K { a with tmps := a.tmps.setIfInBounds d v } w') : oi.wp P a w K Q :=
  Sym.w_enter d v hd hrun hc fun w' hb => h w' (hm.call hb)
/-- A call of whose result something is known, and that may have made blocks. -/
theorem m_callx {f : FuncId} {args : Array Value} {R : Value → World → Prop} (hm : Mm r S w0 w l) (d : Tmp) (hd : oi.dst = some d) (hrun : (execOp a.eval oi).run P w = .ok (.enter f args) w) (hc : Calls P f args w fun e w' => (∃ v, e = .returned v ∧ R v w') ∧ Below w.heap.size w w')
    (h : ∀ v w', R v w' → Below w.heap.size w w' → Mm r S w0 w' l → K { a with tmps := a.tmps.setIfInBounds d v } w') : oi.wp P a w K Q := by
  unfold Oper.wp
  rw [hrun]
  show Calls P f args w _
  refine hc.mono ?_
  rintro e w' ⟨⟨v, rfl, hv⟩, hb⟩
  have := h v w' hv hb (hm.call hb)
  show K (a.put oi.dst v) w'
  unfold Act.put
  rw [hd]
  exact this
/-- A row that a call has made. -/
theorem Mm.gained {W W' : World} {v : Value} {n : Nat} {xs : List Value} {e : TypeId} {size : Nat} (h : Mm r S w0 W l) (hb : Below W.heap.size W W') (hv : W'.ownsRow W.heap.size e size v n xs) : Mm r S w0 W' (l ++ [.row v n xs e size]) :=
  h.more hb (hv.mono (Nat.zero_le _)) (fun g hg => (hv.lt g hg).1)
/-- A call that changes one row. -/
theorem m_callg {f : FuncId} {args : Array Value} (i : Nat) {v : Value} {n m : Nat} {xs ys : List Value} {e : TypeId} {size : Nat} (hm : Mm r S w0 w l) (hi : l[i]? = some (.row v n xs e size)) (d : Tmp) (hd : oi.dst = some d) (hrun : (execOp a.eval oi).run P w = .ok (.enter f args) w)
    (hc : Calls P f args w fun e' w' => (∃ v', e' = .returned v' ∧ w'.ownsRow 0 e size v' m ys ∧ (∀ g, v'.ownBlock = some g → v.ownBlock = some g ∨ w.heap.size ≤ g)) ∧ w.grownBy w' v.ownBlock)
    (h : ∀ v' w', Mm r S w0 w' (l.set i (.row v' m ys e size)) → K { a with tmps := a.tmps.setIfInBounds d v' } w') : oi.wp P a w K Q := by
  unfold Oper.wp
  rw [hrun]
  show Calls P f args w _
  refine hc.mono ?_
  rintro e w' ⟨⟨v', rfl, hv, ho⟩, hb⟩
  have := h v' w' (hm.change i hi hb (fun _ e => e) hv ho)
  show K (a.put oi.dst v') w'
  unfold Act.put
  rw [hd]
  exact this
/-- A text's bytes as a slice. -/
def bcells (s : ByteArray) (n : Nat) : Array Value := bytesRow s (s.size + n)
theorem m_bytes {src dst e : TypeId} {x : Operand} (s : ByteArray) (hm : Mm r S w0 w l) (d : Tmp) (hd : oi.dst = some d) (hs : P.underlying src = some .string) (hT : P.underlying dst = some (.slice e)) (he : P.underlying e = some (.int .u8))
    (ho : oi.op = .convert src dst x) (hx : a.eval x = .string s)
    (h : ∀ g n w', Mm r S w0 w' (l ++ [.blk g (bcells s n) e]) → K { a with tmps := a.tmps.setIfInBounds d (.slice (some ⟨g, 0, none⟩) s.size (s.size + n)) } w') : oi.wp P a w K Q := by
  have hr := run_bytes_of_string (P := P) w src dst e s hs hT he
  have hcap := grownCap_ge w s.size 0 e
  obtain ⟨n, hn⟩ : ∃ n, grownCap w s.size 0 e = s.size + n := ⟨grownCap w s.size 0 e - s.size, by omega⟩
  rw [hn] at hr
  have h2 : Mm r S w0 (w.drew.alloc (.cells (bcells s n) e ((bcells s n).size, (bcells s n).size + 1))) (l ++ [.blk w.heap.size (bcells s n) e]) :=
    hm.drew.more ((Below.refl _ _).alloc (Nat.le_refl _) _) (Blk.newF w.drew (bcells s n) e _ _ (Nat.le_refl _)) (fun g hg => by have hg : w.heap.size = g := hg; show w.heap.size ≤ g; omega)
  have := h _ n _ h2
  unfold Oper.wp execOp
  simp only [ho, hx, Sem.run_bind, hr]
  show K (a.put oi.dst _) _
  unfold Act.put
  rw [hd]
  exact this
theorem nextcap_sharp {need old : Nat} (h : old < need) : Builtin.nextslicecap need old ≤ need + need / 4 + 512 := by
  unfold Builtin.nextslicecap
  split
  · omega
  · split
    · omega
    · rw [growBy_four]
      repeat' split
      all_goals omega
theorem cap_fits {need old bytes : Nat} (h : old < need) (hb : bytes ≤ 4096) (h2 : need * bytes ≤ 180000000000000) : Builtin.nextslicecap need old * bytes ≤ 281474976710656 := by
  have a := Nat.mul_le_mul_right bytes (nextcap_sharp h)
  rw [Nat.add_mul, Nat.add_mul] at a
  have b : need / 4 * bytes * 4 ≤ need * bytes := by
    rw [Nat.mul_assoc, Nat.mul_comm bytes 4, ← Nat.mul_assoc]
    exact Nat.mul_le_mul_right _ (Nat.div_mul_le_self need 4)
  omega
/-- 'append' to a row, however long, that has elements enough. -/
theorem run_append_wide {P : Program} {w : World} (t ty e : TypeId) (i : TypeInfo) (z : Value) (size bytes : Nat) (ht : P.underlying t = some (.slice e)) (hi : P.info? e = some i) (hz : i.zero = some z)
    (hsize : i.size = size) (hby : i.bytes = bytes) (hzs : z.cells.size = size) (hsz : 0 < size) (v : Value) (n : Nat) (xs : List Value) (hown : w.ownsRow 0 e size v n xs)
    (a : Addr) (m c : Nat) (news : List Value) (hl : news.length = m * size) (hnews : ∀ j u, news[j]? = some u → w.cell? (a.add j) = some u) (h1 : ∀ u ∈ news, u.oneCell' = true)
    (h63 : n + m ≤ maxLen) (hbb : bytes ≤ 4096) (hbytes : (n + m) * bytes ≤ 180000000000000) :
    ∃ v' w', (Builtin.append_ #[t, t] ty #[v, .slice (some a) m c]).run P w = .ok v' w' ∧ w'.ownsRow 0 e size v' (n + m) (xs ++ news) ∧ w.grownBy w' v.ownBlock ∧
      (v' = .slice none 0 0 ↔ v = .slice none 0 0 ∧ m = 0) ∧ (v'.ownBlock = v.ownBlock ∨ v'.ownBlock = some w.heap.size) := by
  by_cases hs : (n + m) * bytes ≤ 140737488355328
  · exact run_append_own_at (P := P) w 0 t ty e i z size bytes ht hi hz hsize hby hzs hsz v n xs hown a m c news hl hnews h1 h63 hs (Nat.zero_le _)
  subst hsize
  subst hby
  have hsmall : n + m ≤ 9223372036854775807 := by simp only [maxLen] at h63; omega
  have hlen : (xs ++ news).length = (n + m) * i.size := by rw [List.length_append, hown.1, hl, Nat.add_mul]
  have hlx := hown.1
  have grown : ∀ (old : Nat), old < n + m → ∀ (row : Option Nat),
      (w.drew.alloc (.cells (xs.toArray ++ news.toArray ++ Builtin.zeroCells z.cells (grownCap w (n + m) old e - (n + m))) e)).ownsRow 0 e i.size
        (.slice (some ⟨w.heap.size, 0, none⟩) (n + m) (grownCap w (n + m) old e)) (n + m) (xs ++ news) ∧
      w.grownBy (w.drew.alloc (.cells (xs.toArray ++ news.toArray ++ Builtin.zeroCells z.cells (grownCap w (n + m) old e - (n + m))) e)) row := by
    intro old ho row
    have hge := grownCap_ge w (n + m) old e
    have hcm : grownCap w (n + m) old e ≤ maxLen := grownCap_le_maxLen w (n + m) old e h63
    refine ⟨⟨hlen, .inr ⟨w.heap.size, _, _, rfl, Nat.zero_le _, heap_alloc_new w.drew _, hge, hcm, ?_, ?_⟩⟩, ⟨rfl, rfl, rfl, by simp, fun k hk _ => heap_alloc_old w.drew _ hk⟩⟩
    · simp only [Array.size_append, List.size_toArray, size_zeroCells, hzs, hlx, hl, ← Nat.add_mul]
      congr 1
      omega
    · simp only [Array.toList_append, List.append_assoc]
      rw [← List.append_assoc, ← hlen]
      exact List.take_left
  rcases hown.2 with ⟨rfl, rfl⟩ | ⟨g, cap, cur, rfl, hbg, hg, hnc, hcm, hcs, htake⟩
  · have hx : xs = [] := List.eq_nil_of_length_eq_zero (by simpa using hown.1)
    subst hx
    by_cases hm : m = 0
    · subst hm
      simp at hs
    · have hr := run_append_nil (P := P) w t ty e i z ht hi hz a m c news hl hnews (by omega) (by omega) (by have hb := hbytes; simp only [Nat.zero_add] at hb; omega)
      have hgr := grown 0 (by omega) (Value.ownBlock (.slice none 0 0))
      simp only [Nat.zero_add, List.nil_append, Array.empty_append] at hgr ⊢
      exact ⟨_, _, hr, hgr.1, hgr.2, by simp [hm], .inr rfl⟩
  · by_cases hroom : n + m ≤ cap
    · have hfit : n * i.size + news.length ≤ cur.size := by rw [hl, hcs, ← Nat.add_mul]; exact Nat.mul_le_mul_right _ hroom
      have hr := run_append_room (P := P) w t ty e i ht hi g n cap cur hg a m c news hl hnews h1 hroom hfit
      refine ⟨_, _, hr, ⟨hlen, .inr ⟨g, cap, _, rfl, hbg, setRow_heap w g cur _ e _ hg, hroom, hcm, ?_, ?_⟩⟩, ⟨rfl, rfl, rfl, by simp, fun k _ hk => setRow_other w g k _ (fun e => hk (by simp [Value.ownBlock, e]))⟩, by simp, .inl rfl⟩
      · simp only [List.size_toArray, List.length_append, List.length_take, List.length_drop, Array.length_toList]
        omega
      · rw [htake, ← hlen]
        exact List.take_left
    · have holds : ∀ j u, xs[j]? = some u → w.cell? ((⟨g, 0, none⟩ : Addr).add j) = some u := hown.cells (g := g) rfl
      have hr := run_append_grow (P := P) w t ty e i z ht hi hz ⟨g, 0, none⟩ n cap xs hown.1 holds a m c news hl hnews (by omega) (by omega) (cap_fits (by omega) hbb hbytes)
      have hgr := grown cap (by omega) (Value.ownBlock (.slice (some ⟨g, 0, none⟩) n cap))
      exact ⟨_, _, hr, hgr.1, hgr.2, by simp, .inr rfl⟩
/-- 'append' to a row. -/
theorem m_append (i : Nat) {v : Value} {n m c : Nat} {xs news : List Value} {e : TypeId} {size bytes : Nat} (inf : TypeInfo) (z : Value) (s x : Operand) (t : TypeId) (ad : Addr) (hm : Mm r S w0 w l) (hi : l[i]? = some (.row v n xs e size)) (d : Tmp) (hd : oi.dst = some d)
    (ho : oi.op = .call { callee := .builtin .append, args := #[s, x], argTypes := #[t, t] }) (ht : P.underlying t = some (.slice e)) (hinf : P.info? e = some inf) (hz : inf.zero = some z)
    (hsize : inf.size = size) (hby : inf.bytes = bytes) (hzs : z.cells.size = size) (hsz : 0 < size) (hs : a.eval s = v) (hx : a.eval x = .slice (some ad) m c) (hl : news.length = m * size) (hnews : ∀ j u, news[j]? = some u → w.cell? (ad.add j) = some u) (h1 : ∀ u ∈ news, u.oneCell' = true)
    (h63 : n + m ≤ maxLen) (hbb : bytes ≤ 4096) (hbytes : (n + m) * bytes ≤ 180000000000000)
    (h : ∀ v' w', (v' = .slice none 0 0 ↔ v = .slice none 0 0 ∧ m = 0) → Mm r S w0 w' (l.set i (.row v' (n + m) (xs ++ news) e size)) → K { a with tmps := a.tmps.setIfInBounds d v' } w') : oi.wp P a w K Q := by
  obtain ⟨v', w', hr, h2, h3, h4, h5⟩ := run_append_wide (P := P) (w := w) t oi.type e inf z size bytes ht hinf hz hsize hby hzs hsz v n xs (hm.row i hi) ad m c news hl hnews h1 h63 hbb hbytes
  have h6 : ∀ g, v'.ownBlock = some g → v.ownBlock = some g ∨ w.heap.size ≤ g := by
    intro g hg
    rcases h5 with h5 | h5
    · exact .inl (by rw [← h5, hg])
    · rw [hg, Option.some.injEq] at h5
      exact .inr (by omega)
  have := h v' w' h4 (hm.change i hi h3 (fun _ e => e) h2 h6)
  unfold Oper.wp execOp
  simp only [ho, resolve, invoke, builtin, Sem.run_bind, Sem.run_pure, Result.andThen_ok, List.map_toArray, List.map_cons, List.map_nil, hs, hx, hr]
  show K (a.put oi.dst _) _
  unfold Act.put
  rw [hd]
  exact this
end

/-! ### Operations that read memory -/
/-- Types that one cell holds. -/
def lone1 : TypeDesc → Bool
  | .struct _ => false
  | .array _ _ => false
  | _ => true
/-- The cells from place o on, n of them. -/
def part (c : Array Value) (o n : Nat) : Array Value := ((c.toList.drop o).take n).toArray
section
variable {P : Program} {o : Oper} {a : Act} {w : World} {x y : Operand} {T t e : TypeId} {g : Nat} {c : Array Value}
theorem r_load {i : Nat} {v : Value} {d : TypeDesc} (hb : Blk w g c t) (hv : c[i]? = some v) (hu : P.underlying T = some d) (hd : lone1 d = true) (ho : o.op = .load T x) (hx : a.eval x = .pointer (some ⟨g, i, none⟩)) :
    (execOp a.eval o).run P w = .ok (.value v) w := by
  have h1 := hb.cell i
  rw [hv] at h1
  have h2 : (isAgg T).run P w = .ok false w := by
    unfold isAgg
    rw [Sem.run_bind, run_underlying hu w]
    cases d <;> simp_all [lone1]
  unfold execOp
  simp only [ho, hx]
  generalize a.eval = g at *
  go_simp
/-- A cell of any world. -/
theorem r_cellw {i : Nat} {v : Value} {d : TypeDesc} (h1 : w.cell? ⟨g, i, none⟩ = some v) (hu : P.underlying T = some d) (hd : lone1 d = true) (ho : o.op = .load T x) (hx : a.eval x = .pointer (some ⟨g, i, none⟩)) :
    (execOp a.eval o).run P w = .ok (.value v) w := by
  have h2 : (isAgg T).run P w = .ok false w := by
    unfold isAgg
    rw [Sem.run_bind, run_underlying hu w]
    cases d <;> simp_all [lone1]
  unfold execOp
  simp only [ho, hx]
  generalize a.eval = g at *
  go_simp
/-- A struct or an array out of any world's cells. -/
theorem r_partw {i : Nat} {cs : Array Value} {d : TypeDesc} (h1 : ∀ j v, cs[j]? = some v → w.cell? ⟨g, i + j, none⟩ = some v) (hu : P.underlying T = some d) (hd : lone1 d = false) (hz : (P.info? T).map (·.size) = some cs.size) (ho : o.op = .load T x) (hx : a.eval x = .pointer (some ⟨g, i, none⟩)) :
    (execOp a.eval o).run P w = .ok (.value (.agg cs)) w := by
  have hl : (loadCells ⟨g, i, none⟩ cs.toList.length).run P w = .ok cs.toList.toArray w :=
    run_loadCells_list (P := P) w ⟨g, i, none⟩ cs.toList (fun j v hv => by
      rw [add_lit]
      exact h1 j v (by simpa using hv))
  have hr : (loadVar T ⟨g, i, none⟩).run P w = .ok (.agg cs) w := by
    cases hq : P.info? T with
    | none => simp [hq] at hz
    | some inf =>
      have hs : inf.size = cs.size := by simpa [hq] using hz
      have hagg : (isAgg T).run P w = .ok true w := by
        unfold isAgg
        rw [Sem.run_bind, run_underlying hu w]
        cases d <;> simp_all [lone1]
      simp only [Array.length_toList, Array.toArray_toList] at hl
      simp [loadVar, Sem.run_bind, hagg, sizeOf, typeInfo, hq, hs, hl]
  unfold execOp
  simp only [ho, hx, Instr.loadAt, Instr.sureAddr, Sem.run_bind, Sem.run_pure, Result.andThen_ok, hr]
theorem r_agg {i : Nat} {cs : Array Value} {d : TypeDesc} (hb : Blk w g c t) (hc : ∀ j v, cs[j]? = some v → c[i + j]? = some v) (hu : P.underlying T = some d) (hd : lone1 d = false) (hz : (P.info? T).map (·.size) = some cs.size) (ho : o.op = .load T x) (hx : a.eval x = .pointer (some ⟨g, i, none⟩)) :
    (execOp a.eval o).run P w = .ok (.value (.agg cs)) w :=
  r_partw (fun j v hv => (hb.cell _).trans (hc j v hv)) hu hd hz ho hx
theorem r_whole {d : TypeDesc} (hb : Blk w g c t) (hu : P.underlying T = some d) (hd : lone1 d = false) (hz : (P.info? T).map (·.size) = some c.size) (ho : o.op = .load T x) (hx : a.eval x = .pointer (some ⟨g, 0, none⟩)) :
    (execOp a.eval o).run P w = .ok (.value (.agg c)) w :=
  r_agg hb (fun j v hv => by rw [Nat.zero_add]; exact hv) hu hd hz ho hx
/-- Bytes as cells. -/
def bv (b : UInt8) : Value := .int .u8 (b.toNat : Int)
theorem r_string (s : ByteArray) (i n : Nat) (c' : Nat) (hb : Blk w g c t) (hn : s.size = n) (hc : ∀ j (hj : j < s.size), c[i + j]? = some (bv s[j])) (hs : P.underlying T = some (.slice e)) (he : P.underlying e = some (.int .u8)) {T' : TypeId} (hd : P.underlying T' = some .string)
    (ho : o.op = .convert T T' x) (hx : a.eval x = .slice (some ⟨g, i, none⟩) n c') : (execOp a.eval o).run P w = .ok (.value (.string s)) w := by
  subst hn
  have h1 := run_convert_bytes_back (P := P) w T T' e ⟨g, i, none⟩ c' s.data.toList hs he hd (fun j hj => by
    rw [add_lit, hb.cell]
    exact hc j (show j < s.size from hj))
  have e1 : s.data.toList.length = s.size := rfl
  rw [e1] at h1
  unfold execOp
  simp only [ho, hx]
  simp only [Sem.run_bind, h1]
  rfl
/-- Where an element of a slice lies. -/
theorem r_ixS {k : IntKind} (g o' i n c z : Nat) (hi : i < n) (hT : P.underlying T = some (.slice e)) (hz : (P.info? e).map (·.size) = some z) (ho : o.op = .indexAddr T x y)
    (hx : a.eval x = .slice (some ⟨g, o', none⟩) n c) (hy : a.eval y = .int k (i : Int)) : (execOp a.eval o).run P w = .ok (.value (.pointer (some ⟨g, o' + i * z, none⟩))) w := by
  have he : P.elem T = e := by unfold Program.elem; rw [hT]
  have h1 := run_indexAt_slice (P := P) w T ⟨g, o', none⟩ n c k (i : Int) (by rw [he]; exact hT)
  have h2 : (sizeOf e).run P w = .ok z w := by
    cases h : P.info? e with
    | none => rw [h] at hz; cases hz
    | some inf =>
      rw [h] at hz
      simp only [Option.map_some, Option.some.injEq] at hz
      simp [sizeOf, typeInfo, h, hz]
  rw [he, if_pos (by omega), h2] at h1
  unfold execOp
  simp only [ho, hx, hy]
  simp only [Sem.run_bind, h1]
  simp only [Result.andThen, Int.toNat_natCast, add_lit]
  rfl
end
end Go.Proofs.YtikmkgoeepgbkaaGreatDoor.Mem
namespace Go.Proofs.YtikmkgoeepgbkaaGreatDoor.Mem
open Go.RowKit

/-! ### Texts -/
/-- The text of these bytes; a text's bytes. -/
def tx (l : List UInt8) : ByteArray := ⟨l.toArray⟩
def bl (s : ByteArray) : List UInt8 := s.data.toList
theorem tx_bl (s : ByteArray) : tx (bl s) = s := by simp [tx, bl]
theorem bl_tx (l : List UInt8) : bl (tx l) = l := by simp [tx, bl]
theorem tx_size (l : List UInt8) : (tx l).size = l.length := by simp [tx, ByteArray.size]
theorem bl_length (s : ByteArray) : (bl s).length = s.size := rfl
theorem tx_inj {a b : List UInt8} (h : tx a = tx b) : a = b := by rw [← bl_tx a, h, bl_tx]
theorem tx_eq {a b : List UInt8} : tx a = tx b ↔ a = b := ⟨tx_inj, fun h => by rw [h]⟩
theorem tx_app (a b : List UInt8) : tx a ++ tx b = tx (a ++ b) := by
  apply ByteArray.ext
  rw [ByteArray.data_append]
  simp [tx]
theorem tx_get (l : List UInt8) (i : Nat) (h : i < (tx l).size) : (tx l)[i]'h = l[i]'(by rw [tx_size] at h; exact h) := rfl
theorem tx_cut (l : List UInt8) (i j : Nat) : (tx l).extract i j = tx ((l.take j).drop i) := by
  apply ByteArray.ext
  simp [tx, ByteArray.data_extract, List.extract_toArray, List.extract, List.drop_take]
theorem tx_list (l : List UInt8) : (tx l).toList = l := by rw [ByteArray.toList_eq]; simp [tx]
/-- The byte in a place; 0 behind the end. -/
def by' (l : List UInt8) (i : Nat) : Nat := (l.getD i 0).toNat
theorem by_at (l : List UInt8) (i : Nat) (h : i < l.length) : (l[i]'h).toNat = by' l i := by simp [by', h]
theorem by_lt (l : List UInt8) (i : Nat) : by' l i < 256 := (l.getD i 0).toNat_lt
section
variable {P : Program} {o : Oper} {a : Act} {w : World} {x y lo hi : Operand} {T T' : TypeId} {k k' : IntKind}
theorem t_len {l : List UInt8} (ho : o.op = .call { callee := .builtin .len, args := #[x], argTypes := #[T] }) (hT : P.underlying T = some .string) (hx : a.eval x = .string (tx l)) : (execOp a.eval o).run P w = .ok (.value (.int .i64 ((l.length : Nat) : Int))) w := by
  have := Sx.r_len (P := P) (w := w) ho hT hx
  rw [tx_size] at this
  exact this
theorem t_char (l : List UInt8) (i : Nat) (hi : i < l.length) (hT : P.underlying T = some .string) (ho : o.op = .index T x y) (hx : a.eval x = .string (tx l)) (hy : a.eval y = .int k (i : Int)) :
    (execOp a.eval o).run P w = .ok (.value (.int .u8 ((by' l i : Nat) : Int))) w :=
  Sx.r_char i (by' l i) (by rw [tx_size]; exact hi) (by rw [tx_get, by_at]) hT ho hx hy
theorem t_cat (s t : List UInt8) (hst : s.length + t.length ≤ 9223372036854775807) (ho : o.op = .binOp .add T x y T') (hx : a.eval x = .string (tx s)) (hy : a.eval y = .string (tx t)) : (execOp a.eval o).run P w = .ok (.value (.string (tx (s ++ t)))) w := by
  have := Sx.r_cat (P := P) (w := w) (tx s) (tx t) (by rw [tx_size, tx_size]; exact hst) ho hx hy
  rw [tx_app] at this
  exact this
theorem t_cut (s : List UInt8) (i j : Nat) (h1 : i ≤ j) (h2 : j ≤ s.length) (hT : P.underlying T = some .string) (ho : o.op = .slice T x (some lo) (some hi) none) (hx : a.eval x = .string (tx s)) (hl : a.eval lo = .int k (i : Int)) (hh : a.eval hi = .int k' (j : Int)) :
    (execOp a.eval o).run P w = .ok (.value (.string (tx ((s.take j).drop i)))) w := by
  have e := run_slice_string (P := P) (w := w) T (tx s) k k' i j hT (by omega) (by omega) (by rw [tx_size]; omega)
  rw [Int.toNat_natCast, Int.toNat_natCast, tx_cut] at e
  unfold execOp
  simp only [ho, hx, hl, hh, Option.map_some, Option.map_none]
  simp only [Sem.run_bind, Instr.sliceAt, run_underlying hT, Result.andThen_ok, e]
  rfl
theorem t_from (s : List UInt8) (i : Nat) (h1 : i ≤ s.length) (hT : P.underlying T = some .string) (ho : o.op = .slice T x (some lo) none none) (hx : a.eval x = .string (tx s)) (hl : a.eval lo = .int k (i : Int)) :
    (execOp a.eval o).run P w = .ok (.value (.string (tx (s.drop i)))) w := by
  have e := run_slice_string_l (P := P) w T (tx s) hT k i (by omega) (by rw [tx_size]; omega)
  rw [Int.toNat_natCast, tx_cut, tx_size, List.take_length] at e
  unfold execOp
  simp only [ho, hx, hl, Option.map_some, Option.map_none]
  simp only [Sem.run_bind, Instr.sliceAt, run_underlying hT, Result.andThen_ok, e]
  rfl
theorem t_to (s : List UInt8) (j : Nat) (h1 : j ≤ s.length) (hT : P.underlying T = some .string) (ho : o.op = .slice T x none (some hi) none) (hx : a.eval x = .string (tx s)) (hh : a.eval hi = .int k (j : Int)) :
    (execOp a.eval o).run P w = .ok (.value (.string (tx (s.take j)))) w := by
  have e := run_slice_string_h (P := P) w T (tx s) hT k j (by omega) (by rw [tx_size]; omega)
  rw [Int.toNat_natCast, tx_cut, List.drop_zero] at e
  unfold execOp
  simp only [ho, hx, hh, Option.map_some, Option.map_none]
  simp only [Sem.run_bind, Instr.sliceAt, run_underlying hT, Result.andThen_ok, e]
  rfl
/-- Byte by byte: is the first one ahead? -/
def lt' (s t : List UInt8) : Bool := Op.bytesLess s t
theorem t_eql (s t : List UInt8) (ho : o.op = .binOp .eql T x y T') (hx : a.eval x = .string (tx s)) (hy : a.eval y = .string (tx t)) : (execOp a.eval o).run P w = .ok (.value (.bool (decide (s = t)))) w := by
  have e : ((tx s).toList == (tx t).toList) = decide (s = t) := by rw [tx_list, tx_list, Bool.eq_iff_iff, beq_iff_eq, decide_eq_true_iff]
  unfold execOp
  simp only [ho, hx, hy]
  generalize a.eval = f at *
  go_simp
theorem t_neq (s t : List UInt8) (ho : o.op = .binOp .neq T x y T') (hx : a.eval x = .string (tx s)) (hy : a.eval y = .string (tx t)) : (execOp a.eval o).run P w = .ok (.value (.bool (decide (¬ s = t)))) w := by
  have e : ((tx s).toList == (tx t).toList) = decide (s = t) := by rw [tx_list, tx_list, Bool.eq_iff_iff, beq_iff_eq, decide_eq_true_iff]
  have e2 : ((tx s).toList != (tx t).toList) = decide (¬ s = t) := by unfold bne; rw [e, decide_not]
  unfold execOp
  simp only [ho, hx, hy]
  generalize a.eval = f at *
  go_simp
theorem t_lss (s t : List UInt8) (ho : o.op = .binOp .lss T x y T') (hx : a.eval x = .string (tx s)) (hy : a.eval y = .string (tx t)) : (execOp a.eval o).run P w = .ok (.value (.bool (lt' s t))) w := by
  have e : Op.bytesLess (tx s).toList (tx t).toList = lt' s t := by rw [tx_list, tx_list]; rfl
  unfold execOp
  simp only [ho, hx, hy]
  generalize a.eval = f at *
  go_simp
theorem t_geq (s t : List UInt8) (ho : o.op = .binOp .geq T x y T') (hx : a.eval x = .string (tx s)) (hy : a.eval y = .string (tx t)) : (execOp a.eval o).run P w = .ok (.value (.bool (!lt' s t))) w := by
  have e : Op.bytesLess (tx s).toList (tx t).toList = lt' s t := by rw [tx_list, tx_list]; rfl
  unfold execOp
  simp only [ho, hx, hy]
  generalize a.eval = f at *
  go_simp
theorem t_leq (s t : List UInt8) (ho : o.op = .binOp .leq T x y T') (hx : a.eval x = .string (tx s)) (hy : a.eval y = .string (tx t)) : (execOp a.eval o).run P w = .ok (.value (.bool (lt' s t || decide (s = t)))) w := by
  have e : Op.bytesLess (tx s).toList (tx t).toList = lt' s t := by rw [tx_list, tx_list]; rfl
  have e2 : ((tx s).toList == (tx t).toList) = decide (s = t) := by rw [tx_list, tx_list, Bool.eq_iff_iff, beq_iff_eq, decide_eq_true_iff]
  unfold execOp
  simp only [ho, hx, hy]
  generalize a.eval = f at *
  go_simp
end

/-! ### Slices that are read -/
/-- The slice v, of elements of so many cells each, reads as xs. -/
def Rd (W : World) (v : Value) (n size : Nat) (xs : List Value) : Prop :=
  xs.length = n * size ∧ ((n = 0 ∧ ∃ ao c, v = .slice ao 0 c) ∨ ∃ g o c, v = .slice (some ⟨g, o, none⟩) n c ∧ (∀ j u, xs[j]? = some u → W.cell? ⟨g, o + j, none⟩ = some u) ∧ n ≤ c)
section
variable {P : Program} {W W' : World} {v : Value} {n size : Nat} {xs : List Value} {e : TypeId}
theorem Rd.below (h : Rd W v n size xs) (hb : Below W.heap.size W W') : Rd W' v n size xs := by
  refine ⟨h.1, h.2.imp id ?_⟩
  rintro ⟨g, o, c, rfl, hc, hnc⟩
  exact ⟨g, o, c, rfl, fun j u hu => (hb.cell (p := ⟨g, o + j, none⟩) (block_lt_of_cell (hc j u hu))).trans (hc j u hu), hnc⟩
theorem Rd.drew (h : Rd W v n size xs) : Rd W.drew v n size xs := h
theorem Rd.of_row (h : W.ownsRow 0 e size v n xs) : Rd W v n size xs := by
  refine ⟨h.1, ?_⟩
  rcases h.2 with hn | ⟨g, cap, cur, rfl, _, _, hnc, _⟩
  · exact .inl ⟨hn.2, _, _, hn.1⟩
  · refine .inr ⟨g, 0, cap, rfl, fun j u hu => ?_, hnc⟩
    have := h.cells (g := g) rfl j u hu
    rw [add_lit] at this
    exact this
theorem Rd.nil (W : World) (size : Nat) : Rd W (.slice none 0 0) 0 size [] := ⟨by simp, .inl ⟨rfl, _, _, rfl⟩⟩
theorem Rd.form (h : Rd W v n size xs) : ∃ ao c, v = .slice ao n c := by
  rcases h.2 with ⟨rfl, ao, c, rfl⟩ | ⟨g, o, c, rfl, _⟩
  · exact ⟨_, _, rfl⟩
  · exact ⟨_, _, rfl⟩
variable {o : Oper} {a : Act} {x y : Operand} {T : TypeId} {k : IntKind}
theorem s_len (h : Rd W' v n size xs) (ho : o.op = .call { callee := .builtin .len, args := #[x], argTypes := #[T] }) (hT : P.underlying T = some (.slice e)) (hx : a.eval x = v) : (execOp a.eval o).run P W = .ok (.value (.int .i64 (n : Int))) W := by
  obtain ⟨ao, c, rfl⟩ := h.form
  exact Sx.r_lenS ho hT hx
/-- Where an element lies. -/
theorem s_ix (h : Rd W v n size xs) (i : Nat) (hi : i < n) (hT : P.underlying T = some (.slice e)) (hz : (P.info? e).map (·.size) = some size) (ho : o.op = .indexAddr T x y) (hx : a.eval x = v) (hy : a.eval y = .int k (i : Int)) :
    ∃ g p, (execOp a.eval o).run P W = .ok (.value (.pointer (some ⟨g, p, none⟩))) W ∧ ∀ j u, j < size → xs[i * size + j]? = some u → W.cell? ⟨g, p + j, none⟩ = some u := by
  rcases h.2 with ⟨rfl, _⟩ | ⟨g, o', c, rfl, hc, _⟩
  · omega
  · refine ⟨g, o' + i * size, r_ixS g o' i n c size hi hT hz ho hx hy, fun j u _ hu => ?_⟩
    rw [Nat.add_assoc]
    exact hc _ u hu
end

/-! ### Rows of bytes -/
theorem r_stringR {P : Program} {o : Oper} {a : Act} {w : World} {x : Operand} {T e T' : TypeId} {v : Value} {n : Nat} (l : List UInt8) (h : Rd w v n 1 (l.map bv)) (hs : P.underlying T = some (.slice e)) (he : P.underlying e = some (.int .u8)) (hd : P.underlying T' = some .string)
    (ho : o.op = .convert T T' x) (hx : a.eval x = v) : (execOp a.eval o).run P w = .ok (.value (.string (tx l))) w := by
  have hn : l.length = n := by have := h.1; simpa using this
  rcases h.2 with ⟨h0, ao, c', rfl⟩ | ⟨g, i, c', rfl, hc, _⟩
  · have hl : l = [] := List.eq_nil_of_length_eq_zero (by omega)
    subst hl
    cases ao with
    | none =>
      have h1 := Lib.run_convert_nil_bytes (P := P) w T T' e c' hs he hd
      unfold execOp
      simp only [ho, hx]
      simp only [Sem.run_bind, h1]
      rfl
    | some g =>
      have h1 := run_convert_bytes_back (P := P) w T T' e g c' [] hs he hd (fun j hj => absurd hj (Nat.not_lt_zero _))
      rw [List.length_nil] at h1
      unfold execOp
      simp only [ho, hx]
      simp only [Sem.run_bind, h1]
      rfl
  · have h1 := run_convert_bytes_back (P := P) w T T' e ⟨g, i, none⟩ c' l hs he hd (fun j hj => by
      rw [add_lit]
      exact hc j _ (by simp [hj, bv]))
    rw [hn] at h1
    unfold execOp
    simp only [ho, hx]
    simp only [Sem.run_bind, h1]
    rfl
/-- 'append' of a text to a row of bytes. -/
theorem m_appendT {P : Program} {Q : Exit → Act → World → Prop} {K : Act → World → Prop} {oi : Oper} {a : Act} {r : Option Nat} {S : Nat → Prop} {w0 w : World} {l : List Ent} (i : Nat) {v : Value} {n : Nat} {xs : List Value} {e : TypeId} (inf : TypeInfo) (s x : Operand) (t u : TypeId) (tt : List UInt8) (hm : Mm r S w0 w l) (hi : l[i]? = some (.row v n xs e 1)) (d : Tmp) (hd : oi.dst = some d)
    (ho : oi.op = .call { callee := .builtin .append, args := #[s, x], argTypes := #[t, u] }) (ht : P.underlying t = some (.slice e)) (hu : P.underlying u = some .string) (hinf : P.info? e = some inf) (hz : inf.zero = some (.int .u8 0))
    (hsize : inf.size = 1) (hby : inf.bytes = 1) (hs : a.eval s = v) (hx : a.eval x = .string (tx tt)) (hb : n + tt.length ≤ 140737488355328)
    (h : ∀ v' w', Mm r S w0 w' (l.set i (.row v' (n + tt.length) (xs ++ tt.map bv) e 1)) → K { a with tmps := a.tmps.setIfInBounds d v' } w') : oi.wp P a w K Q := by
  have hbs : n + (tx tt).size ≤ 140737488355328 := by rw [tx_size]; exact hb
  have hown := hm.row i hi
  obtain ⟨v', w', hr, h2, h3, h4⟩ := Lib.run_append_own_string (P := P) w 0 t u oi.type e inf ht hu hinf hz hsize hby v n xs hown (tx tt) (by unfold maxLen; omega) hbs (Nat.zero_le _)
  have h6 : ∀ g, v'.ownBlock = some g → v.ownBlock = some g ∨ w.heap.size ≤ g := by
    intro g hg
    rcases hown.2 with ⟨rfl, rfl⟩ | ⟨g0, cap, cur, rfl, _, hgg, hnc, hcm, hcs, _⟩
    · by_cases h0 : (tx tt).size = 0
      · rw [h4.2 ⟨rfl, h0⟩] at hg; cases hg
      · have hr2 := run_append_nil_string (P := P) w t u oi.type e inf (.int .u8 0) ht hu hinf hz (tx tt) (by omega) (by omega) (by rw [hby]; omega)
        rw [hr2] at hr
        simp only [Result.ok.injEq] at hr
        rw [← hr.1] at hg
        simp only [Value.ownBlock, Option.some.injEq] at hg
        exact .inr (by omega)
    · by_cases hroom : n + (tx tt).size ≤ cap
      · have hr2 := Lib.run_append_room_string (P := P) w t u oi.type e inf ht hu hinf hsize g0 n cap cur hgg (tx tt) hroom (by omega)
        rw [hr2] at hr
        simp only [Result.ok.injEq] at hr
        rw [← hr.1] at hg
        exact .inl hg
      · have hr2 := Lib.run_append_grow_string (P := P) w t u oi.type e inf (.int .u8 0) ht hu hinf hz ⟨g0, 0, none⟩ n cap xs (by rw [hsize]; exact hown.1) (hown.cells (g := g0) rfl) (tx tt) (by omega) (by omega) (growslice_fits (by omega) (by rw [hby]; omega))
        rw [hr2] at hr
        simp only [Result.ok.injEq] at hr
        rw [← hr.1] at hg
        simp only [Value.ownBlock, Option.some.injEq] at hg
        exact .inr (by omega)
  have e1 : Lib.strCells (tx tt) = tt.map bv := by simp [Lib.strCells, tx, bv]
  rw [e1, tx_size] at h2
  have := h v' w' (hm.change i hi h3 (fun _ e => e) h2 h6)
  unfold Oper.wp execOp
  simp only [ho, resolve, invoke, builtin, Sem.run_bind, Sem.run_pure, Result.andThen_ok, List.map_toArray, List.map_cons, List.map_nil, hs, hx, hr]
  show K (a.put oi.dst _) _
  unfold Act.put
  rw [hd]
  exact this

/-! ### Whole numbers, below nought too -/
section
variable {P : Program} {o : Oper} {a : Act} {w : World} {x y : Operand} {T T' : TypeId} {k yk : IntKind}
theorem z_lss (n m : Int) (ho : o.op = .binOp .lss T x y T') (hx : a.eval x = .int k n) (hy : a.eval y = .int k m) : (execOp a.eval o).run P w = .ok (.value (.bool (decide (n < m)))) w := by
  unfold execOp
  simp only [ho, hx, hy]
  generalize a.eval = f at *
  go_simp
theorem z_gtr (n m : Int) (ho : o.op = .binOp .gtr T x y T') (hx : a.eval x = .int k n) (hy : a.eval y = .int k m) : (execOp a.eval o).run P w = .ok (.value (.bool (decide (m < n)))) w := by
  unfold execOp
  simp only [ho, hx, hy]
  generalize a.eval = f at *
  go_simp
theorem z_leq (n m : Int) (ho : o.op = .binOp .leq T x y T') (hx : a.eval x = .int k n) (hy : a.eval y = .int k m) : (execOp a.eval o).run P w = .ok (.value (.bool (decide (n ≤ m)))) w := by
  unfold execOp
  simp only [ho, hx, hy]
  generalize a.eval = f at *
  go_simp
theorem z_geq (n m : Int) (ho : o.op = .binOp .geq T x y T') (hx : a.eval x = .int k n) (hy : a.eval y = .int k m) : (execOp a.eval o).run P w = .ok (.value (.bool (decide (m ≤ n)))) w := by
  unfold execOp
  simp only [ho, hx, hy]
  generalize a.eval = f at *
  go_simp
theorem z_eql (n m : Int) (ho : o.op = .binOp .eql T x y T') (hx : a.eval x = .int k n) (hy : a.eval y = .int k m) : (execOp a.eval o).run P w = .ok (.value (.bool (decide (n = m)))) w := by
  have e : (n == m) = decide (n = m) := by rw [Bool.eq_iff_iff]; simp
  unfold execOp
  simp only [ho, hx, hy]
  generalize a.eval = f at *
  go_simp
theorem z_neq (n m : Int) (ho : o.op = .binOp .neq T x y T') (hx : a.eval x = .int k n) (hy : a.eval y = .int k m) : (execOp a.eval o).run P w = .ok (.value (.bool (decide (¬ n = m)))) w := by
  have e : (n != m) = decide (¬ n = m) := by rw [Bool.eq_iff_iff]; simp
  unfold execOp
  simp only [ho, hx, hy]
  generalize a.eval = f at *
  go_simp
theorem z_add (n m z : Int) (h : k.wrap (n + m) = z) (ho : o.op = .binOp .add T x y T') (hx : a.eval x = .int k n) (hy : a.eval y = .int k m) : (execOp a.eval o).run P w = .ok (.value (.int k z)) w := by
  unfold execOp
  simp only [ho, hx, hy]
  generalize a.eval = f at *
  go_simp
theorem z_shr (n : Int) (s : Nat) (hs : s ≤ k.bits) (ho : o.op = .binOp .shr T x y T') (hx : a.eval x = .int k n) (hy : a.eval y = .int yk (s : Int)) : (execOp a.eval o).run P w = .ok (.value (.int k (n / 2 ^ s))) w := by
  have e2 : Op.shift .shr k n yk (s : Int) = pure (.int k (n / 2 ^ s)) := by
    rw [shift_shr k yk n s (by omega) (by omega), Int.toNat_natCast]
  unfold execOp
  simp only [ho, hx, hy]
  generalize a.eval = f at *
  simp only [eqGuard_shr, binOp_shr, e2]
  rfl
theorem z_shl (n z : Int) (s : Nat) (hs : s ≤ k.bits) (hz : k.wrap (n * 2 ^ s) = z) (ho : o.op = .binOp .shl T x y T') (hx : a.eval x = .int k n) (hy : a.eval y = .int yk (s : Int)) : (execOp a.eval o).run P w = .ok (.value (.int k z)) w := by
  have e2 : Op.shift .shl k n yk (s : Int) = pure (.int k z) := by
    rw [shift_shl k yk n s (by omega) (by omega), Int.toNat_natCast, hz]
  unfold execOp
  simp only [ho, hx, hy]
  generalize a.eval = f at *
  simp only [eqGuard_shl, binOp_shl, e2]
  rfl
theorem z_conv {k' : IntKind} (n m : Int) (hs : (P.underlying T).isSome = true) (hd : P.underlying T' = some (.int k')) (hm : k'.wrap n = m) (ho : o.op = .convert T T' x) (hx : a.eval x = .int k n) :
    (execOp a.eval o).run P w = .ok (.value (.int k' m)) w := by
  have hk : P.intKind T' = k' := by unfold Program.intKind; rw [hd]
  have e := run_convert_int (P := P) w T T' k n hs (by rw [hk]; exact hd)
  rw [hk, hm] at e
  unfold execOp
  simp only [ho, hx]
  simp only [Sem.run_bind, e]
  rfl
/-- A number's lower bytes, whatever stands above: 'or' with a byte behind a shift. -/
theorem or_wrap (N b : Nat) (hb : b < 256) : bits .or .i64 (IntKind.i64.wrap ((N : Int) * 256)) (b : Int) = IntKind.i64.wrap ((N * 256 + b : Nat) : Int) := by
  have h1 : BitVec.ofInt 64 (IntKind.i64.wrap ((N : Int) * 256)) = BitVec.ofNat 64 (N * 256) := by
    rw [IntKind.wrap_i64]
    apply BitVec.eq_of_toInt_eq
    rw [BitVec.toInt_ofInt, ← BitVec.ofInt_natCast, BitVec.toInt_ofInt]
    rw [Int.bmod_eq_bmod_iff_bmod_sub_eq_zero]
    have : ((N : Int) * 256 + 9223372036854775808) % 18446744073709551616 - 9223372036854775808 - ((N * 256 : Nat) : Int) = (2 ^ 64 : Nat) * (-(((N : Int) * 256 + 9223372036854775808) / 18446744073709551616)) := by
      have := Int.emod_add_mul_ediv ((N : Int) * 256 + 9223372036854775808) 18446744073709551616
      rw [show ((2 ^ 64 : Nat) : Int) = 18446744073709551616 by decide]
      omega
    rw [this]
    exact Int.bmod_eq_zero_of_dvd (Int.dvd_mul_right _ _)
  show IntKind.i64.wrap ((BitVec.ofInt 64 (IntKind.i64.wrap ((N : Int) * 256)) ||| BitVec.ofInt 64 (b : Int)).toNat : Int) = _
  rw [h1, BitVec.ofInt_natCast, BitVec.toNat_or, BitVec.toNat_ofNat, BitVec.toNat_ofNat]
  have h2 : N * 256 % 2 ^ 64 ||| b % 2 ^ 64 = (N * 256 + b) % 2 ^ 64 := by
    rw [Nat.mod_eq_of_lt (show b < 2 ^ 64 by omega), Sx.or_sum (N * 256 % 2 ^ 64) b 8 (by omega) (by omega)]
    omega
  rw [h2, IntKind.wrap_i64, IntKind.wrap_i64]
  omega
theorem r_orw (N b : Nat) (hb : b < 256) (ho : o.op = .binOp .or T x y T') (hx : a.eval x = .int .i64 (IntKind.i64.wrap ((N : Int) * 256))) (hy : a.eval y = .int .i64 (b : Int)) : (execOp a.eval o).run P w = .ok (.value (.int .i64 (IntKind.i64.wrap ((N * 256 + b : Nat) : Int)))) w := by
  have e := or_wrap N b hb
  unfold execOp
  simp only [ho, hx, hy]
  generalize a.eval = f at *
  go_simp
end

/-! ### Two ways on; rows -/
theorem lvb {P : Program} {ops : Array Oper} {Q : Exit → Act → World → Prop} {oi : Oper} {rest : List Oper} {a : Act} {w : World} (d : Tmp) (p : Prop) [Decidable p] (hg : Region.wanted oi (yielded ops a.tmps) = true) (hd : oi.dst = some d) (hrun : (execOp a.eval oi).run P w = .ok (.value (.bool (decide p))) w)
    (h1 : p → wpList P ops Q rest { a with tmps := a.tmps.setIfInBounds d (.bool true) } w) (h2 : ¬ p → wpList P ops Q rest { a with tmps := a.tmps.setIfInBounds d (.bool false) } w) : wpList P ops Q (oi :: rest) a w := by
  refine Sym.lst hg (Sym.w_value d _ hd hrun ?_)
  by_cases h : p
  · rw [decide_eq_true h]; exact h1 h
  · rw [decide_eq_false h]; exact h2 h
theorem Blk.news {w : World} {g : Nat} {c : Array Value} {T : TypeId} (h : Blk w g c T) : ∀ (j : Nat) (u : Value), c.toList[j]? = some u → w.cell? ((⟨g, 0, none⟩ : Addr).add j) = some u := by
  intro j u hu
  rw [add_lit, h.cell, Nat.zero_add]
  simpa using hu
theorem Mm.nilrow {r : Option Nat} {S : Nat → Prop} {w W : World} {l : List Ent} (h : Mm r S w W l) (e : TypeId) (size : Nat) : Mm r S w W (l ++ [.row (.slice none 0 0) 0 [] e size]) :=
  h.more (Below.refl _ _) (World.ownsRow_nil W 0 e size) (fun g hg => by cases (show (Value.slice none 0 0).ownBlock = some g from hg))
theorem Mm.start {S : Nat → Prop} {w : World} {v : Value} {n : Nat} {xs : List Value} {e : TypeId} {size : Nat} (h : w.ownsRow 0 e size v n xs) : Mm v.ownBlock S w w [.row v n xs e size] := by
  refine ⟨fun i x hi => ?_, fun i x g hi hg => ?_, fun i R F g hi => ?_, fun i j x y g hi hj hij => ?_, grown_refl _ _⟩
  · cases i with
    | zero => simp at hi; subst hi; exact h
    | succ i => simp at hi
  · cases i with
    | zero => simp at hi; subst hi; exact .inr hg
    | succ i => simp at hi
  · cases i with
    | zero => simp at hi
    | succ i => simp at hi
  · cases i with
    | zero =>
      cases j with
      | zero => exact absurd rfl hij
      | succ j => simp at hj
    | succ i => simp at hi
theorem own_base {W : World} {b : Nat} {v : Value} {n : Nat} {xs : List Value} {e : TypeId} {size : Nat} (h : W.ownsRow 0 e size v n xs) (hb : ∀ g, v.ownBlock = some g → b ≤ g) : W.ownsRow b e size v n xs := by
  refine ⟨h.1, ?_⟩
  rcases h.2 with hn | ⟨g, cap, cur, rfl, _, rest⟩
  · exact .inl hn
  · exact .inr ⟨g, cap, cur, rfl, hb g rfl, rest⟩
/-- What a call hands back: a row of its own. -/
theorem Mm.gives {S : Nat → Prop} {w W : World} {l : List Ent} (h : Mm none S w W l) (i : Nat) {v : Value} {n : Nat} {xs : List Value} {e : TypeId} {size : Nat} (hi : l[i]? = some (.row v n xs e size)) : W.ownsRow w.heap.size e size v n xs :=
  own_base (h.row i hi) (fun g hg => (h.low i _ g hi hg).elim id (fun e => by cases e))
/-- What a call hands back: the row that it was handed, changed. -/
theorem Mm.turned {S : Nat → Prop} {w W : World} {v v' : Value} {l : List Ent} (h : Mm v.ownBlock S w W l) {n : Nat} {xs : List Value} {e : TypeId} {size : Nat} (i : Nat) (hi : l[i]? = some (.row v' n xs e size)) : W.ownsRow 0 e size v' n xs ∧ (∀ g, v'.ownBlock = some g → v.ownBlock = some g ∨ w.heap.size ≤ g) :=
  ⟨h.row i hi, fun g hg => (h.low i _ g hi hg).symm⟩
theorem lv_ix {P : Program} {ops : Array Oper} {Q : Exit → Act → World → Prop} {oi : Oper} {rest : List Oper} {a : Act} {W : World} {v : Value} {n size : Nat} {xs : List Value} {e T : TypeId} {x y : Operand} {k : IntKind} (d : Tmp) (h : Rd W v n size xs) (i : Nat) (hi : i < n) (hT : P.underlying T = some (.slice e)) (hz : (P.info? e).map (·.size) = some size)
    (hg : Region.wanted oi (yielded ops a.tmps) = true) (hd : oi.dst = some d) (ho : oi.op = .indexAddr T x y) (hx : a.eval x = v) (hy : a.eval y = .int k (i : Int))
    (hk : ∀ g p, (∀ j u, j < size → xs[i * size + j]? = some u → W.cell? ⟨g, p + j, none⟩ = some u) → wpList P ops Q rest { a with tmps := a.tmps.setIfInBounds d (.pointer (some ⟨g, p, none⟩)) } W) : wpList P ops Q (oi :: rest) a W := by
  obtain ⟨g, p, hr, hc⟩ := s_ix (P := P) (o := oi) (a := a) h i hi hT hz ho hx hy
  exact Sym.lst hg (Sym.w_value d _ hd hr (hk g p hc))
theorem lt_of_get {cs : Array Value} {n j : Nat} {u : Value} (hn : cs.size = n) (h : cs[j]? = some u) : j < n := by
  rw [← hn]; exact (Array.getElem?_eq_some_iff.1 h).1
theorem tkb {P : Program} {ops : Array Oper} {Q : Exit → Act → World → Prop} {md : Region.Mode} {S : World → Prop} {oi : Oper} {fuel : Nat} {listed : Array Bool} {a : Act} {w : World} (i : Nat) (d : Tmp) (p : Prop) [Decidable p] (hi : ops[i]? = some oi) (hd : oi.dst = some d)
    (hw : Region.wanted oi (yielded ops a.tmps) = true) (hy : ∀ w, S w → (execOp a.eval oi).run P w = .ok (.value (.bool (decide p))) w) (hS : S w)
    (h1 : p → wpAnyH P md ops Q S fuel (listed.setIfInBounds i true) { a with tmps := a.tmps.setIfInBounds d (.bool true) } w)
    (h2 : ¬ p → wpAnyH P md ops Q S fuel (listed.setIfInBounds i true) { a with tmps := a.tmps.setIfInBounds d (.bool false) } w)
    (hs : Region.noSelect ops = true := by kernel_rfl) (hf : Region.free md ops listed i = true := by kernel_rfl) (hr : (Region.ready md ops listed).contains i = true := by kernel_rfl)
    (hQ : ∀ c a w v, Q (.panic c) (a.put oi.dst v) w → Q (.panic c) a w := by exact fun _ _ _ _ h => h) : wpAnyH P md ops Q S (fuel + 1) listed a w := by
  by_cases h : p
  · refine Sym.take_at i d (.bool true) hi hd hs hf hr (fun c a w => hQ c a w _) hw (fun w hS' => ?_) hS (h1 h)
    have := hy w hS'
    rw [decide_eq_true h] at this
    exact this
  · refine Sym.take_at i d (.bool false) hi hd hs hf hr (fun c a w => hQ c a w _) hw (fun w hS' => ?_) hS (h2 h)
    have := hy w hS'
    rw [decide_eq_false h] at this
    exact this
theorem skx {P : Program} {ops : Array Oper} {Q : Exit → Act → World → Prop} {md : Region.Mode} {S : World → Prop} {oi : Oper} {a : Act} {w : World} {fuel : Nat} {listed : Array Bool} (i : Nat) (d : Tmp) (hi : ops[i]? = some oi) (hd : oi.dst = some d) (hw : Region.wanted oi (yielded ops a.tmps) = false) (hS : S w)
    (h : wpAnyH P md ops Q S fuel (listed.setIfInBounds i true) { a with tmps := a.tmps.setIfInBounds d undef } w)
    (hs : Region.noSelect ops = true := by kernel_rfl) (hf : Region.free md ops listed i = true := by kernel_rfl) (hr : (Region.ready md ops listed).contains i = true := by kernel_rfl)
    (hQ : ∀ c a w, Q (.panic c) (a.put oi.dst undef) w → Q (.panic c) a w := by exact fun _ _ _ h => h) : wpAnyH P md ops Q S (fuel + 1) listed a w :=
  Sym.skip_at i d hi hd hs hf hr hQ hw hS h
theorem Rd.openz {W : World} {v : Value} {n size : Nat} {xs : List Value} (h : Rd W v n size xs) (hn : 0 < n) : ∃ g o c, v = .slice (some ⟨g, o, none⟩) n c := by
  rcases h.2 with ⟨rfl, _⟩ | ⟨g, o, c, rfl, _⟩
  · omega
  · exact ⟨g, o, c, rfl⟩
theorem Rd.cells {W : World} {g o n c size : Nat} {xs : List Value} (h : Rd W (.slice (some ⟨g, o, none⟩) n c) n size xs) : ∀ (j : Nat) (u : Value), xs[j]? = some u → W.cell? ⟨g, o + j, none⟩ = some u := by
  rcases h.2 with ⟨h1, _⟩ | ⟨g', o', c', h1, hc, _⟩
  · intro j u hj
    have hl := h.1
    rw [h1, Nat.zero_mul] at hl
    rw [List.eq_nil_of_length_eq_zero hl] at hj
    cases hj
  · simp only [Value.slice.injEq, Option.some.injEq, Addr.mk.injEq, and_true, true_and] at h1
    obtain ⟨⟨rfl, rfl⟩, rfl⟩ := h1
    exact hc
theorem cell_el {W : World} {g o k eo : Nat} {u : Value} {xs : List Value} (F : ∀ (j : Nat) (u : Value), xs[j]? = some u → W.cell? ⟨g, o + j, none⟩ = some u) (h : xs[k + eo]? = some u) : W.cell? ⟨g, o + k + eo, none⟩ = some u := by
  rw [Nat.add_assoc]; exact F _ _ h
theorem res_ct {P : Program} {fn : Func} {p q : Tmp} {ty : TypeId} {tmps : Array Value} {w : World} {g : Nat} {t : TypeId} {cs : Array Value} {d : TypeDesc} {v : Value} (h : fn.results = #[.cell p ty, .tmp q]) (hp : tmps.getD p undef = .pointer (some ⟨g, 0, none⟩)) (hg : Blk w g cs t) (hu : P.underlying ty = some d) (hd : (match d with | .struct _ | .array _ _ => true | _ => false) = true) (hi : (P.info? ty).map (·.size) = some cs.size)
    (hq : tmps.getD q undef = v) : (results fn tmps).run P w = .ok (.tuple #[.agg cs, v]) w := by
  obtain ⟨fz, hg, _⟩ := hg
  have hp' : tmps[p]?.getD undef = .pointer (some ⟨g, 0, none⟩) := by simpa using hp
  have hq' : tmps[q]?.getD undef = v := by simpa using hq
  simp [results, h, hp', hq', asAddr, run_loadVar_row w g t ty cs fz d hg hu hd hi]
theorem own_one {W : World} {b : Nat} {v : Value} {n : Nat} {xs : List Value} {e : TypeId} {size : Nat} (h : W.ownsRow b e size v n xs) : v.oneCell' = true := by
  rcases h.2 with ⟨rfl, _⟩ | ⟨g, cap, cur, rfl, _⟩ <;> rfl
theorem rd_one {W : World} {v : Value} {n size : Nat} {xs : List Value} (h : Rd W v n size xs) : v.oneCell' = true := by
  obtain ⟨ao, c, rfl⟩ := h.form
  rfl
theorem cells_one {v : Value} (h : v.oneCell' = true) : v.cells = #[v] := by
  cases v <;> first | rfl | cases h
theorem calls_row {P : Program} {f : FuncId} {args : Array Value} {w : World} {F : Value → Value} {Q : Value → World → Prop} (h : Calls P f args w (fun e w' => (∃ v, e = .returned (F v) ∧ Q v w') ∧ Below w.heap.size w w')) :
    Calls P f args w (fun e w' => (∃ v, e = .returned v ∧ ∃ q, v = F q ∧ Q q w') ∧ Below w.heap.size w w') :=
  h.mono fun _ _ ⟨⟨v, h1, h2⟩, h3⟩ => ⟨⟨_, h1, v, rfl, h2⟩, h3⟩
theorem Rd.of_blk {W : World} {g : Nat} {c : Array Value} {T : TypeId} {n size cap : Nat} (h : Blk W g c T) (hl : c.size = n * size) (hcap : n ≤ cap) : Rd W (.slice (some ⟨g, 0, none⟩) n cap) n size c.toList :=
  ⟨by simpa using hl, .inr ⟨g, 0, cap, rfl, fun j u hu => by rw [h.cell, Nat.zero_add]; simpa using hu, hcap⟩⟩
theorem n_eqt {P : Program} {o : Oper} {a : Act} {w : World} {x y : Operand} {T T' : TypeId} {k : IntKind} (n m : Nat) (h : n = m) (ho : o.op = .binOp .eql T x y T') (hx : a.eval x = .int k (n : Int)) (hy : a.eval y = .int k (m : Int)) : (execOp a.eval o).run P w = .ok (.value (.bool true)) w := by
  have := Sx.r_eql (P := P) (w := w) n m ho hx hy
  rw [decide_eq_true h] at this
  exact this

/-! ### What is read, and goes on to be read -/
/-- The block of a slice that has elements. -/
def fp (v : Value) (xs : List Value) (g : Nat) : Prop := xs ≠ [] ∧ ∃ o n c, v = .slice (some ⟨g, o, none⟩) n c
theorem cell_same {W W' : World} {g j : Nat} (h : W'.heap[g]? = W.heap[g]?) : W'.cell? ⟨g, j, none⟩ = W.cell? ⟨g, j, none⟩ := by
  unfold World.cell?
  simp only [h]
theorem Seal.rd {W : World} {v : Value} {n size : Nat} {xs : List Value} (h : Rd W v n size xs) : Seal (fun W => Rd W v n size xs) (fp v xs) W := by
  refine ⟨fun g hg => ?_, h, fun W' hW => ⟨h.1, h.2.imp id ?_⟩⟩
  · obtain ⟨hx, o, n', c, rfl⟩ := hg
    have hn : n ≠ 0 := fun e => hx (List.eq_nil_of_length_eq_zero (by rw [h.1, e, Nat.zero_mul]))
    rcases h.2 with ⟨h0, _⟩ | ⟨g', o', c', e, hc, _⟩
    · exact absurd h0 hn
    · simp only [Value.slice.injEq, Option.some.injEq, Addr.mk.injEq] at e
      obtain ⟨⟨rfl, rfl, _⟩, _⟩ := e
      obtain ⟨u, rest, rfl⟩ := List.exists_cons_of_ne_nil hx
      exact block_lt_of_cell (hc 0 u rfl)
  · rintro ⟨g, o, c, rfl, hc, hnc⟩
    refine ⟨g, o, c, rfl, fun j u hu => ?_, hnc⟩
    have hx : xs ≠ [] := fun e => by rw [e] at hu; cases hu
    rw [cell_same (hW g ⟨hx, o, _, _, rfl⟩)]
    exact hc j u hu
theorem fp_own {W : World} {b : Nat} {v : Value} {n : Nat} {xs : List Value} {e : TypeId} {size : Nat} (h : W.ownsRow b e size v n xs) {g : Nat} (hg : fp v xs g) : v.ownBlock = some g := by
  obtain ⟨_, o, n', c, rfl⟩ := hg
  rcases h.2 with ⟨h1, _⟩ | ⟨g', cap, cur, h1, _⟩
  · cases h1
  · simp only [Value.slice.injEq, Option.some.injEq, Addr.mk.injEq] at h1
    obtain ⟨⟨rfl, _⟩, _⟩ := h1
    rfl
theorem Seal.row {W : World} {v : Value} {n : Nat} {xs : List Value} {e : TypeId} {size : Nat} (h : W.ownsRow 0 e size v n xs) : Seal (fun W => Rd W v n size xs) (fp v xs) W := Seal.rd (Rd.of_row h)
section
variable {S : Nat → Prop} {r : Option Nat} {w W : World} {l : List Ent} {v : Value} {n : Nat} {xs : List Value} {e : TypeId} {size : Nat}
/-- A row of the call's own, handed back. -/
theorem Mm.rowout (h : Mm none S w W l) (i : Nat) (hi : l[i]? = some (.row v n xs e size)) : Gives w W S (fun W => Rd W v n size xs) :=
  ⟨_, Seal.row (h.row i hi), fun g hg => (h.low i _ g hi (fp_own (h.row i hi) hg)).elim .inl (fun e => by cases e)⟩
/-- A row is written no more. -/
theorem Mm.freeze (h : Mm none S w W l) (i : Nat) (hi : l[i]? = some (.row v n xs e size)) : Mm none S w W (l.set i (.see (fun W => Rd W v n size xs) (fp v xs))) := by
  have hr := h.row i hi
  refine h.changeG i hi (o := none) (grown_refl _ _) (fun _ e => by cases e) (Seal.row hr) (fun g hg => .inl (fp_own hr hg)) (fun g hg => hg.elim) (fun R F g e' hg => ?_)
  simp only [Ent.see.injEq] at e'
  obtain ⟨_, rfl⟩ := e'
  exact .inl ((h.low i _ g hi (fp_own hr hg)).elim id (fun e => by cases e))
end
end Go.Proofs.YtikmkgoeepgbkaaGreatDoor.Mem
