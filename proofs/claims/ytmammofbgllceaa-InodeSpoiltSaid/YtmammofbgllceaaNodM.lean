/- Layer 17: numbers as bytes, nodes as sectors: the mathematics. -/
import Derived.Test.YtmammofbgllceaaTxt
namespace Go.Proofs.Ytmammofbgllceaa.Nod
open Go.Proofs.Ytmammofbgllceaa.Mem

/-- The number of bytes, the highest first. -/
def be (l : List UInt8) : Nat := l.foldl (fun n b => n * 256 + b.toNat) 0
def getZ (l : List UInt8) : Int := IntKind.i64.wrap (be l : Int)
theorem be_snoc (l : List UInt8) (b : UInt8) : be (l ++ [b]) = be l * 256 + b.toNat := by simp [be]
theorem take_snoc {α : Type} [Inhabited α] (l : List α) (i : Nat) (h : i < l.length) (d : α) : l.take (i + 1) = l.take i ++ [l.getD i d] := by
  rw [List.take_add_one, List.getD_eq_getElem?_getD, List.getElem?_eq_getElem h]; rfl
theorem be_take (l : List UInt8) (i : Nat) (h : i < l.length) : be (l.take (i + 1)) = be (l.take i) * 256 + by' l i := by
  rw [take_snoc l i h 0, be_snoc]; rfl
theorem be_all (l : List UInt8) : be (l.take l.length) = be l := by rw [List.take_length]
/-- A number in so many bytes. -/
def putL (n : Int) : Nat → List UInt8
  | 0 => []
  | k + 1 => UInt8.ofNat ((n / 256 ^ k) % 256).toNat :: putL n k
theorem putL_length (n : Int) : ∀ k, (putL n k).length = k
  | 0 => rfl
  | k + 1 => by simp [putL, putL_length n k]
theorem putL_at (n : Int) : ∀ k i, i < k → (putL n k).getD i 0 = UInt8.ofNat ((n / 256 ^ (k - 1 - i)) % 256).toNat
  | 0, i, h => by omega
  | k + 1, 0, _ => by simp [putL]
  | k + 1, i + 1, h => by
    have := putL_at n k i (by omega)
    rw [putL, List.getD_cons_succ, this, show k + 1 - 1 - (i + 1) = k - 1 - i by omega]
theorem pow8 (m : Nat) : (2 : Int) ^ (8 * m) = 256 ^ m := by rw [Int.pow_mul]; rfl
theorem wrap_u8z (z : Int) : IntKind.u8.wrap z = (((z % 256).toNat : Nat) : Int) := by rw [IntKind.wrap_u8]; omega
theorem bv_nat (x : Nat) (h : x < 256) : bv (UInt8.ofNat x) = .int .u8 ((x : Nat) : Int) := by
  unfold bv
  congr 1
  simp; omega
theorem put_step (xs : List Value) (n : Int) (size m : Nat) (h : m + 1 ≤ size) :
    xs ++ ((putL n size).take (size - m)).map bv = xs ++ ((putL n size).take (size - (m + 1))).map bv ++ [Value.int .u8 ((((n / 2 ^ (8 * m)) % 256).toNat : Nat) : Int)] := by
  have hl := putL_length n size
  rw [show size - m = size - (m + 1) + 1 by omega, take_snoc (putL n size) (size - (m + 1)) (by omega) 0, putL_at n size (size - (m + 1)) (by omega), List.map_append, List.append_assoc, pow8,
    show size - 1 - (size - (m + 1)) = m by omega, List.map_cons, List.map_nil, bv_nat _ (by omega)]
theorem put_none (xs : List Value) (n : Int) (size : Nat) : xs ++ ((putL n size).take (size - size)).map bv = xs := by simp
theorem put_all (xs : List Value) (n : Int) (size : Nat) : xs ++ (putL n size).map bv = xs ++ ((putL n size).take (size - 0)).map bv := by
  rw [Nat.sub_zero, List.take_of_length_le (Nat.le_of_eq (putL_length n size))]
/-- How many sectors so many bytes need. -/
def secs (n : Nat) : Nat := (n + 255) / 256
/-! ### Nodes -/
structure Nd where
  kind : Int
  mode : Int
  uid : Int
  gid : Int
  time : Int
  links : Int
  size : Int
  blocks : List Int
def iv (b : Int) : Value := .int .i64 b
theorem iv_at (l : List Int) (i : Nat) (h : i < l.length) : (l.map iv)[i * 1 + 0]? = some (.int .i64 (l.getD i 0)) := by
  rw [Nat.mul_one, Nat.add_zero, List.getElem?_map, List.getD_eq_getElem?_getD, List.getElem?_eq_getElem h]; rfl
/-- A name and its node: two cells. -/
def pv (p : List UInt8 × Int) : List Value := [.string (tx p.1), .int .i64 p.2]
theorem pv_len : ∀ l : List (List UInt8 × Int), (l.flatMap pv).length = l.length * 2
  | [] => rfl
  | p :: l => by rw [List.flatMap_cons, List.length_append, pv_len l]; simp [pv]; omega
theorem pv_at (d : List UInt8 × Int) : ∀ (l : List (List UInt8 × Int)) (i j : Nat), i < l.length → j < 2 → (l.flatMap pv)[i * 2 + j]? = (pv (l.getD i d))[j]?
  | [], i, j, h, _ => by simp at h
  | p :: l, 0, j, _, hj => by
    rw [List.flatMap_cons, Nat.zero_mul, Nat.zero_add, List.getElem?_append_left (by simpa [pv] using hj)]; rfl
  | p :: l, i + 1, j, h, hj => by
    rw [List.flatMap_cons, List.getElem?_append_right (by simp [pv]; omega), List.getD_cons_succ, ← pv_at d l i j (by simpa using h) hj]
    congr 1
    simp [pv]; omega
/-- Nothing. -/
def pd : List UInt8 × Int := ([], 0)
theorem pv_0 (l : List (List UInt8 × Int)) (i : Nat) (h : i < l.length) : (l.flatMap pv)[i * 2 + 0]? = some (.string (tx (l.getD i pd).1)) := pv_at pd l i 0 h (by decide)
theorem pv_1 (l : List (List UInt8 × Int)) (i : Nat) (h : i < l.length) : (l.flatMap pv)[i * 2 + 1]? = some (.int .i64 (l.getD i pd).2) := pv_at pd l i 1 h (by decide)
theorem pv_all (l : List (List UInt8 × Int)) (i : Nat) (h : i < l.length) (j : Nat) (u : Value) (hj : #[Value.string (tx (l.getD i pd).1), Value.int .i64 (l.getD i pd).2][j]? = some u) : (l.flatMap pv)[i * 2 + j]? = some u := by
  have hj2 : j < 2 := (Array.getElem?_eq_some_iff.1 hj).1
  rw [pv_at pd l i j h hj2, ← hj]
  simp [pv]
def FreeP (x : Nd) : Prop := x.mode = 0 ∧ x.uid = 0 ∧ x.gid = 0 ∧ x.time = 0 ∧ x.links = 0 ∧ x.size = 0 ∧ x.blocks.length = 0
def RangeP (x : Nd) : Prop := 1 ≤ x.kind ∧ x.kind ≤ 3 ∧ 0 ≤ x.mode ∧ x.mode ≤ 4095 ∧ 0 ≤ x.uid ∧ x.uid ≤ 4294967295 ∧ 0 ≤ x.gid ∧ x.gid ≤ 4294967295 ∧ 0 ≤ x.time ∧ 1 ≤ x.links ∧ x.links ≤ 2048 ∧ 0 ≤ x.size ∧ x.size ≤ 14592 ∧ x.blocks.length = secs x.size.toNat
def BlkP (l : List Int) : Prop := ∀ b ∈ l, 0 ≤ b ∧ b < 2048
def CheckP (x : Nd) : Prop := x.kind = 0 ∧ FreeP x ∨ x.kind ≠ 0 ∧ RangeP x ∧ BlkP x.blocks
instance (x : Nd) : Decidable (FreeP x) := inferInstanceAs (Decidable (_ ∧ _))
instance (x : Nd) : Decidable (RangeP x) := inferInstanceAs (Decidable (_ ∧ _))
instance (l : List Int) : Decidable (BlkP l) := inferInstanceAs (Decidable (∀ b ∈ l, _))
instance (x : Nd) : Decidable (CheckP x) := inferInstanceAs (Decidable (_ ∨ _))
theorem blk_bad {l : List Int} {i : Nat} (hi : i < l.length) (h : l.getD i 0 < 0 ∨ 2048 ≤ l.getD i 0) : ¬ BlkP l := fun hb => by
  have hm : l.getD i 0 ∈ l := by rw [List.getD_eq_getElem?_getD, List.getElem?_eq_getElem hi]; exact List.getElem_mem hi
  have := hb _ hm
  omega
theorem blk_good {l : List Int} (h : ∀ k, k < l.length → 0 ≤ l.getD k 0 ∧ l.getD k 0 < 2048) : BlkP l := fun b hb => by
  obtain ⟨k, hk, rfl⟩ := List.getElem_of_mem hb
  have := h k hk
  rw [List.getD_eq_getElem?_getD, List.getElem?_eq_getElem hk] at this
  exact this
/-! ### Directories -/
def onePl (p : List UInt8 × Int) : List UInt8 := putL p.2 4 ++ UInt8.ofNat (p.1.length % 256) :: p.1
def listN (l : List (List UInt8 × Int)) : List UInt8 := l.flatMap onePl
theorem onePl_len (p : List UInt8 × Int) : (onePl p).length = 5 + p.1.length := by simp [onePl, putL_length]; omega
theorem take_flat {α β : Type} (f : α → List β) (l : List α) (i : Nat) (h : i < l.length) (d : α) : (l.take (i + 1)).flatMap f = (l.take i).flatMap f ++ f (l.getD i d) := by
  rw [List.take_add_one, List.getElem?_eq_getElem h, List.flatMap_append, List.getD_eq_getElem?_getD, List.getElem?_eq_getElem h]; simp
theorem listN_step (l : List (List UInt8 × Int)) (i : Nat) (h : i < l.length) :
    (listN (l.take (i + 1))).map bv = (listN (l.take i)).map bv ++ (putL (l.getD i pd).2 4).map bv ++ [Value.int .u8 (((l.getD i pd).1.length % 256 : Nat) : Int)] ++ (l.getD i pd).1.map bv := by
  unfold listN
  rw [take_flat onePl l i h pd, List.map_append, onePl]
  rw [List.map_append, List.map_cons, bv_nat _ (by omega)]
  simp
theorem listN_len (l : List (List UInt8 × Int)) (i : Nat) (h : i < l.length) : (listN (l.take (i + 1))).length = (listN (l.take i)).length + 4 + 1 + (l.getD i pd).1.length := by
  unfold listN
  rw [take_flat onePl l i h pd, List.length_append, onePl_len]; omega
theorem listN_mono (l : List (List UInt8 × Int)) (i : Nat) : (listN (l.take i)).length ≤ (listN l).length := by
  have : listN l = listN (l.take i) ++ listN (l.drop i) := by unfold listN; rw [← List.flatMap_append, List.take_append_drop]
  rw [this, List.length_append]; omega
/-- The names of a directory's bytes behind the name ahead. -/
def namesL (s last : List UInt8) : Option (List (List UInt8 × Int)) :=
  if h0 : s = [] then some [] else
  if h5 : s.length < 5 then none else
  if h6 : s.length < 5 + by' s 4 then none else
  if (lt' ((s.take (5 + by' s 4)).drop 5) last || decide ((s.take (5 + by' s 4)).drop 5 = last)) = true then none else
  (namesL (s.drop (5 + by' s 4)) ((s.take (5 + by' s 4)).drop 5)).map (((s.take (5 + by' s 4)).drop 5, getZ (s.take 4)) :: ·)
termination_by s.length
decreasing_by
  have : s.length ≠ 0 := fun e => h0 (List.eq_nil_of_length_eq_zero e)
  simp; omega
/-- What is left of the names, behind those that are there. -/
def rest (acc : List (List UInt8 × Int)) (t last : List UInt8) : Option (List (List UInt8 × Int)) := (namesL t last).map (acc ++ ·)
theorem rest_0 (s : List UInt8) : rest [] s [] = namesL s [] := by simp [rest]
theorem rest_end (acc : List (List UInt8 × Int)) (last : List UInt8) : rest acc [] last = some acc := by simp [rest, namesL]
theorem rest_short {acc : List (List UInt8 × Int)} {t last : List UInt8} (h0 : ¬ t = []) (h : t.length < 5) : rest acc t last = none := by rw [rest, namesL, dif_neg h0, dif_pos h]; rfl
theorem rest_cut {acc : List (List UInt8 × Int)} {t last : List UInt8} (h0 : ¬ t = []) (h5 : ¬ t.length < 5) (h : t.length < 5 + by' t 4) : rest acc t last = none := by rw [rest, namesL, dif_neg h0, dif_neg h5, dif_pos h]; rfl
theorem rest_low {acc : List (List UInt8 × Int)} {t last : List UInt8} (h0 : ¬ t = []) (h5 : ¬ t.length < 5) (h6 : ¬ t.length < 5 + by' t 4) (h : (lt' ((t.take (5 + by' t 4)).drop 5) last || decide ((t.take (5 + by' t 4)).drop 5 = last)) = true) : rest acc t last = none := by
  rw [rest, namesL, dif_neg h0, dif_neg h5, dif_neg h6, if_pos h]; rfl
theorem rest_on {acc : List (List UInt8 × Int)} {t last : List UInt8} (h0 : ¬ t = []) (h5 : ¬ t.length < 5) (h6 : ¬ t.length < 5 + by' t 4) (h : (lt' ((t.take (5 + by' t 4)).drop 5) last || decide ((t.take (5 + by' t 4)).drop 5 = last)) = false) :
    rest acc t last = rest (acc ++ [((t.take (5 + by' t 4)).drop 5, getZ (t.take 4))]) (t.drop (5 + by' t 4)) ((t.take (5 + by' t 4)).drop 5) := by
  rw [rest, namesL, dif_neg h0, dif_neg h5, dif_neg h6, if_neg (by rw [h]; decide), rest, Option.map_map]
  congr 1
  funext l
  simp
theorem flat_snoc (acc : List (List UInt8 × Int)) (p : List UInt8 × Int) : (acc ++ [p]).flatMap pv = acc.flatMap pv ++ [Value.string (tx p.1), Value.int .i64 p.2] := by simp [pv]
/-- One is ahead, or they are the same, or the other is ahead. -/
theorem lt_tri : ∀ a b : List UInt8, (!lt' a b) = (lt' b a || decide (b = a))
  | [], [] => rfl
  | [], _ :: _ => rfl
  | _ :: _, [] => rfl
  | a :: x, b :: y => by
    have ih := lt_tri x y
    simp only [lt', Op.bytesLess] at ih ⊢
    rcases Nat.lt_trichotomy a.toNat b.toNat with h | h | h
    · have h1 : a < b := h
      have h2 : ¬ b < a := fun h3 => Nat.lt_asymm h h3
      have h3 : ¬ b = a := fun e => by rw [e] at h; exact Nat.lt_irrefl _ h
      simp [h1, h2, h3]
    · obtain rfl : a = b := UInt8.toNat_inj.1 h
      have h1 : ¬ a < a := Nat.lt_irrefl _
      simp only [h1, decide_false, Bool.false_or, beq_self_eq_true, Bool.true_and, List.cons.injEq, true_and]
      exact ih
    · have h1 : b < a := h
      have h2 : ¬ a < b := fun h3 => Nat.lt_asymm h h3
      have h3 : ¬ a = b := fun e => by rw [e] at h; exact Nat.lt_irrefl _ h
      simp [h1, h2, h3]
theorem lt_nil (a : List UInt8) : (lt' a [] || decide (a = [])) = decide (a = []) := by
  have : lt' a [] = false := by cases a <;> rfl
  rw [this, Bool.false_or]
theorem listN_ge : ∀ l : List (List UInt8 × Int), 5 * l.length ≤ (listN l).length
  | [] => Nat.zero_le _
  | p :: l => by
    have := listN_ge l
    unfold listN at this ⊢
    rw [List.flatMap_cons, List.length_append, onePl_len, List.length_cons]; omega
theorem name_len (t : List UInt8) (h : ¬ t.length < 5 + by' t 4) : ((t.take (5 + by' t 4)).drop 5).length = by' t 4 := by simp; omega
theorem name_nil (t : List UInt8) (h : by' t 4 = 0) : (t.take (5 + by' t 4)).drop 5 = [] := by rw [h]; simp
theorem rest_zero {acc : List (List UInt8 × Int)} {t last : List UInt8} (h0 : ¬ t = []) (hz : by' t 4 = 0) : rest acc t last = none := by
  by_cases h5 : t.length < 5
  · exact rest_short h0 h5
  · refine rest_low h0 h5 (by omega) ?_
    rw [name_nil t hz]
    cases last <;> rfl
theorem rest_six {acc : List (List UInt8 × Int)} {t last : List UInt8} (h0 : ¬ t = []) (h : t.length < 6) : rest acc t last = none := by
  by_cases h5 : t.length < 5
  · exact rest_short h0 h5
  · by_cases hz : by' t 4 = 0
    · exact rest_zero h0 hz
    · exact rest_cut h0 h5 (by omega)
/-- The last name. -/
def lastN (acc : List (List UInt8 × Int)) : List UInt8 := (acc.getD (acc.length - 1) pd).1
theorem lastN_snoc (acc : List (List UInt8 × Int)) (p : List UInt8 × Int) : lastN (acc ++ [p]) = p.1 := by
  unfold lastN
  rw [List.length_append, List.length_singleton, Nat.add_sub_cancel, List.getD_eq_getElem?_getD, List.getElem?_append_right (Nat.le_refl _), Nat.sub_self]; rfl
theorem first_ok {acc : List (List UInt8 × Int)} {t : List UInt8} (ha : ¬ 0 < acc.length) (h6 : ¬ t.length < 5 + by' t 4) (hz : ¬ by' t 4 = 0) : (lt' ((t.take (5 + by' t 4)).drop 5) (lastN acc) || decide ((t.take (5 + by' t 4)).drop 5 = lastN acc)) = false := by
  obtain rfl : acc = [] := List.eq_nil_of_length_eq_zero (by omega)
  rw [show lastN ([] : List (List UInt8 × Int)) = [] from rfl, lt_nil, decide_eq_false]
  intro e
  have := name_len t h6
  rw [e] at this
  exact hz this.symm
section
open Go
variable {W : World} {b : Nat} {T : TypeId} {s : List UInt8}
theorem names_none (h : namesL s [] = none) : ∃ v, Ending.returned (.tuple #[.slice none 0 0, .bool false]) = .returned (.tuple #[v, .bool (namesL s []).isSome]) ∧ W.ownsRow b T 2 v ((namesL s []).getD []).length (((namesL s []).getD []).flatMap pv) :=
  ⟨_, by rw [h]; rfl, by rw [h]; exact World.ownsRow_nil W b T 2⟩
theorem names_some {v : Value} {acc : List (List UInt8 × Int)} (h : namesL s [] = some acc) (hv : W.ownsRow b T 2 v acc.length (acc.flatMap pv)) : ∃ v', Ending.returned (.tuple #[v, .bool true]) = .returned (.tuple #[v', .bool (namesL s []).isSome]) ∧ W.ownsRow b T 2 v' ((namesL s []).getD []).length (((namesL s []).getD []).flatMap pv) :=
  ⟨v, by rw [h]; rfl, by rw [h]; exact hv⟩
end
/-! ### Sectors -/
def headN (x : Nd) : List UInt8 := putL x.kind 1 ++ putL x.mode 2 ++ putL x.links 4 ++ putL x.uid 4 ++ putL x.gid 4 ++ putL x.time 8 ++ putL x.size 4 ++ [0]
def p4 (n : Int) : List UInt8 := putL n 4
def bytesN (x : Nd) : List UInt8 := headN x ++ x.blocks.flatMap p4 ++ List.replicate (256 - (28 + 4 * x.blocks.length)) 0
def bytesR (x : Nd) : List UInt8 := if CheckP x then bytesN x else []
def errR (x : Nd) : Int := if CheckP x then 0 else 1
theorem headN_len (x : Nd) : (headN x).length = 28 := by simp [headN, putL_length]
theorem p4_len : ∀ l : List Int, (l.flatMap p4).length = 4 * l.length
  | [] => rfl
  | b :: l => by rw [List.flatMap_cons, List.length_append, p4_len l]; simp [p4, putL_length]; omega
theorem body_len (x : Nd) : (headN x ++ x.blocks.flatMap p4).length = 28 + 4 * x.blocks.length := by rw [List.length_append, headN_len, p4_len]
theorem check_len {x : Nd} (h : CheckP x) : x.blocks.length ≤ 57 := by
  rcases h with ⟨_, h⟩ | ⟨_, h, _⟩
  · have := h.2.2.2.2.2.2; omega
  · have h1 := h.2.2.2.2.2.2.2.2.2.2.2.2.2
    have h2 := h.2.2.2.2.2.2.2.2.2.2.2.2.1
    rw [h1]; unfold secs; omega
theorem head_row (x : Nd) : (headN x ++ (x.blocks.take 0).flatMap p4).map bv = (((((((([] ++ (putL x.kind 1).map bv) ++ (putL x.mode 2).map bv) ++ (putL x.links 4).map bv) ++ (putL x.uid 4).map bv) ++ (putL x.gid 4).map bv) ++ (putL x.time 8).map bv) ++ (putL x.size 4).map bv) ++ [Value.int .u8 0]) := by
  simp [headN, bv]
theorem blocks_step (x : Nd) (i : Nat) (h : i < x.blocks.length) : (headN x ++ (x.blocks.take (i + 1)).flatMap p4).map bv = (headN x ++ (x.blocks.take i).flatMap p4).map bv ++ (putL (x.blocks.getD i 0) 4).map bv := by
  rw [take_flat p4 x.blocks i h 0]; simp [p4]
theorem blocks_all (x : Nd) : (headN x ++ x.blocks.flatMap p4).map bv = (headN x ++ (x.blocks.take x.blocks.length).flatMap p4).map bv := by rw [List.take_length]
def blkN (s : List UInt8) (n : Nat) : List Int := (List.range n).map fun i => getZ ((s.take (28 + 4 * i + 4)).drop (28 + 4 * i))
theorem blkN_len (s : List UInt8) (n : Nat) : (blkN s n).length = n := by simp [blkN]
theorem blkN_step (s : List UInt8) (i : Nat) : (blkN s (i + 1)).map iv = (blkN s i).map iv ++ [Value.int .i64 (getZ ((s.take (28 + 4 * i + 4)).drop (28 + 4 * i)))] := by
  simp [blkN, List.range_succ, iv]
def sizeN (s : List UInt8) : Int := getZ ((s.take 27).drop 23)
def rawN (s : List UInt8) : Nd :=
  { kind := getZ (s.take 1), mode := getZ ((s.take 3).drop 1), links := getZ ((s.take 7).drop 3), uid := getZ ((s.take 11).drop 7), gid := getZ ((s.take 15).drop 11), time := getZ ((s.take 23).drop 15), size := getZ ((s.take 27).drop 23), blocks := blkN s (secs (sizeN s).toNat) }
def zeroN : Nd := ⟨0, 0, 0, 0, 0, 0, 0, []⟩
def goodR (s : List UInt8) : Prop := s.length = 256 ∧ sizeN s ≤ 14592 ∧ CheckP (rawN s) ∧ bytesN (rawN s) = s
instance (s : List UInt8) : Decidable (goodR s) := inferInstanceAs (Decidable (_ ∧ _))
def readN (s : List UInt8) : Nd := if goodR s then rawN s else zeroN
def errRd (s : List UInt8) : Int := if goodR s then 0 else 2
theorem errR_ok {x : Nd} (h : errR x = 0) : CheckP x := by
  by_cases hc : CheckP x
  · exact hc
  · rw [errR, if_neg hc] at h; cases h
theorem be_ltx : ∀ (l : List UInt8) (n k : Nat), n < 256 ^ k → l.foldl (fun n b => n * 256 + b.toNat) n < 256 ^ (k + l.length)
  | [], n, k, h => by simpa using h
  | b :: l, n, k, h => by
    have hb := b.toNat_lt
    have := be_ltx l (n * 256 + b.toNat) (k + 1) (by rw [Nat.pow_succ]; omega)
    rw [List.foldl_cons, List.length_cons, show k + (l.length + 1) = k + 1 + l.length by omega]
    exact this
theorem be_lt (l : List UInt8) : be l < 256 ^ l.length := by
  have := be_ltx l 0 0 (by decide)
  rw [Nat.zero_add] at this
  exact this
theorem getZ_at (l : List UInt8) (h : l.length ≤ 7) : getZ l = (be l : Int) := by
  have h1 := be_lt l
  have h2 : 256 ^ l.length ≤ 256 ^ 7 := Nat.pow_le_pow_right (by decide) h
  unfold getZ
  rw [IntKind.wrap_i64]
  omega
theorem sizeN_nn (s : List UInt8) : 0 ≤ sizeN s := by
  unfold sizeN
  rw [getZ_at _ (by simp; omega)]; omega
section
open Go
variable {W : World} {b : Nat} {T : TypeId} {s : List UInt8}
def ndVal (x : Nd) (v : Value) : Value := .agg #[.int .i64 x.kind, .int .i64 x.mode, .int .i64 x.uid, .int .i64 x.gid, .int .i64 x.time, .int .i64 x.links, .int .i64 x.size, v]
theorem read_no (h : ¬ goodR s) : ∃ v, Ending.returned (.tuple #[.agg #[.int .i64 0, .int .i64 0, .int .i64 0, .int .i64 0, .int .i64 0, .int .i64 0, .int .i64 0, .slice none 0 0], .int .i64 2]) = .returned (.tuple #[ndVal (readN s) v, .int .i64 (errRd s)]) ∧ W.ownsRow b T 1 v (readN s).blocks.length ((readN s).blocks.map iv) :=
  ⟨.slice none 0 0, by rw [readN, errRd, if_neg h, if_neg h]; rfl, by rw [readN, if_neg h]; exact World.ownsRow_nil W b T 1⟩
theorem read_yes {v : Value} (h : goodR s) (hv : W.ownsRow b T 1 v (secs (sizeN s).toNat) ((blkN s (secs (sizeN s).toNat)).map iv)) : ∃ v', Ending.returned (.tuple #[ndVal (rawN s) v, .int .i64 0]) = .returned (.tuple #[ndVal (readN s) v', .int .i64 (errRd s)]) ∧ W.ownsRow b T 1 v' (readN s).blocks.length ((readN s).blocks.map iv) :=
  ⟨v, by rw [readN, errRd, if_pos h, if_pos h], by rw [readN, if_pos h]; show W.ownsRow b T 1 v (blkN s _).length _; rw [blkN_len]; exact hv⟩
end
end Go.Proofs.Ytmammofbgllceaa.Nod
