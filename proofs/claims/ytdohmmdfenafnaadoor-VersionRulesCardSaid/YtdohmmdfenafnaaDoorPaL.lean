/- What the library's functions give, over lists of bytes. -/
import Derived.Test.YtdohmmdfenafnaaDoorPaT
import Derived.Test.YtdohmmdfenafnaaDoorShelf
import Derived.Test.YtdohmmdfenafnaaDoorCut
import Derived.Test.YtdohmmdfenafnaaDoorUtf
namespace Go.Proofs.YtdohmmdfenafnaaDoor.Pa
open Go.RowKit
open Go.Proofs.YtdohmmdfenafnaaDoor.Mem
/-- What the library's tables and variables hold. -/
structure Laid (w : World) : Prop where
  tabs : Lib.Utf8Tabs (Tryd.laysValid_ren.g 3) (Tryd.laysValid_ren.g 4) w
  max : ∃ m, w.cell? ⟨2, 0, none⟩ = some (.int .i64 m)
theorem Laid.below {w w' : World} (h : Laid w) (hb : Below w.heap.size w w') : Laid w' := by
  refine ⟨Utf8Tabs_below h.tabs hb, ?_⟩
  obtain ⟨m, hm⟩ := h.max
  exact ⟨m, (hb.cell (p := ⟨2, 0, none⟩) (block_lt_of_cell hm)).trans hm⟩
theorem tx_dl (s : List UInt8) : (tx s).data.toList = s := by simp [tx]
def valid_m (s : List UInt8) : Bool := Lib.validD s
theorem valid_any (s : List UInt8) (w : World) (hT : Laid w) (hp0 : s.length ≤ 9223372036854775807) : Calls Tryd.prog 63 #[.string (tx s)] w (fun e w' => e = .returned (.bool (valid_m s)) ∧ Below w.heap.size w w') := by
  have h := Any.utf8_ValidString Tryd.laysValid (tx s) w (by rw [tx_size]; exact hp0) hT.tabs
  rw [tx_dl] at h
  exact h
theorem flat_eS (l : List (List UInt8)) : l.flatMap eS = l.map (fun s => Value.string (tx s)) := by
  induction l with
  | nil => rfl
  | cons x l ih => rw [List.flatMap_cons, ih]; rfl
/-- What stands between the separators. -/
def split_m (s sep : List UInt8) : List (List UInt8) := Lib.split s sep
theorem split_any (s sep : List UInt8) (w : World) (hT : Laid w) (hp0 : s.length < 4294967281) (hp1 : 1 ≤ sep.length) : Calls Tryd.prog 39 #[.string (tx s), .string (tx sep)] w (fun e w' => (∃ u, e = .returned u ∧ ∃ o0 : Value, u = o0 ∧ w'.ownsRow w.heap.size 9 1 o0 (split_m s sep).length ((split_m s sep).flatMap eS)) ∧ Below w.heap.size w w') := by
  obtain ⟨m, hm⟩ := hT.max
  have h := Tryd.strings_Split (tx s) (tx sep) m w (by rw [tx_size]; exact hp0) hm (by rw [tx_size]; exact hp1)
  refine h.mono ?_
  rintro e w' ⟨rfl, rfl⟩
  have e1 : (Lib.splitB (tx sep) 0 (Lib.countB (tx s) (tx sep)) (tx s)).map (fun b => b.data.toList) = split_m s sep := by
    rw [Lib.splitB_data, tx_dl, tx_dl]
    show Lib.splitK sep 0 (Lib.count (tx s).data.toList (tx sep).data.toList) s = _
    rw [tx_dl, tx_dl]
    rfl
  have e2 : ((Lib.splitB (tx sep) 0 (Lib.countB (tx s) (tx sep)) (tx s)).map Value.string) = (split_m s sep).flatMap eS := by
    rw [← e1, flat_eS, List.map_map]
    rfl
  have e3 : Lib.countB (tx s) (tx sep) + 1 = (split_m s sep).length := by
    rw [← e1, List.length_map, Lib.splitB_all (tx sep) (by rw [tx_size]; exact hp1) 0 _ _ rfl]
  have e4 : (split_m s sep).length ≤ s.length + 1 := by
    rw [← e3]
    have := Lib.countB_le (tx sep) (by rw [tx_size]; exact hp1) (tx s).size (tx s) (Nat.le_refl _)
    rw [tx_size] at this
    omega
  refine ⟨⟨_, rfl, _, rfl, ?_⟩, (Below.refl _ _).alloc (Nat.le_refl _) _⟩
  rw [e2, e3]
  have h2 := World.ownsRow_lit (e := 9) (size := 1) (base := w.heap.size) w ((split_m s sep).flatMap eS).toArray (split_m s sep).length (Nat.le_refl _) (by unfold maxLen; omega) (by rw [List.size_toArray, flat_len (size := 1) (fun _ => rfl)])
  simpa using h2
def join_m (l : List (List UInt8)) (sep : List UInt8) : List UInt8 := Lib.join l sep
theorem join_any (l : List (List UInt8)) (sep : List UInt8) (v0 : Value) (w : World) (hl : Rs eS 1 l v0 w) (hp0 : l.length ≤ 140737488355328) (hp1 : (join_m l sep).length ≤ 140737488355328) : Calls Tryd.prog 46 #[v0, .string (tx sep)] w (fun e w' => e = .returned (.string (tx (join_m l sep))) ∧ Below w.heap.size w w') := by
  rcases hl.2 with ⟨h0, ao, c, rfl⟩ | ⟨g, o, c, rfl, hc, hnc⟩
  · have : l = [] := List.eq_nil_of_length_eq_zero h0
    subst this
    refine (Tryd.strings_Join_none ao c (tx sep) w).mono ?_
    rintro e w' ⟨rfl, rfl⟩
    exact ⟨rfl, Below.refl _ _⟩
  · have e1 : (l.map tx).map (fun b => b.data.toList) = l := by
      rw [List.map_map]
      have : ((fun b : ByteArray => b.data.toList) ∘ tx) = id := funext tx_dl
      rw [this, List.map_id]
    by_cases h0 : l = []
    · subst h0
      refine (Tryd.strings_Join_none (some ⟨g, o, none⟩) c (tx sep) w).mono ?_
      rintro e w' ⟨rfl, rfl⟩
      exact ⟨rfl, Below.refl _ _⟩
    have hcells : ∀ (j : Nat) (x : ByteArray), (l.map tx)[j]? = some x → w.cell? ⟨g, o + j, none⟩ = some (.string x) := by
      intro j x hx
      refine hc j _ ?_
      rw [flat_eS]
      rw [List.getElem?_map] at hx ⊢
      cases hl : l[j]? with
      | none => rw [hl] at hx; cases hx
      | some s =>
        rw [hl] at hx
        simp only [Option.map_some, Option.some.injEq] at hx
        subst hx
        rfl
    have hlt : g < w.heap.size := by
      obtain ⟨x, r, rfl⟩ := List.exists_cons_of_ne_nil h0
      exact block_lt_of_cell (hcells 0 _ rfl)
    have h := Tryd.strings_Join g o c (l.map tx) (tx sep) w hcells hlt (by rw [List.length_map]; exact hp0) (by rw [List.length_map]; exact hnc) (by rw [e1, tx_dl]; exact hp1)
    rw [e1, tx_dl, List.length_map] at h
    exact h
def lix_m (s : List UInt8) (c : UInt8) : Int := Lib.lastIndexByte (tx s) (c.toNat : Int)
theorem lix_any (s : List UInt8) (c : UInt8) (w : World) (hp0 : s.length < 4611686018427387904) : Calls Tryd.prog 44 #[.string (tx s), .int .u8 ((c.toNat : Nat) : Int)] w (fun e w' => e = .returned (.int .i64 (lix_m s c)) ∧ Below w.heap.size w w') := by
  refine (Tryd.strings_LastIndexByte (tx s) (c.toNat : Int) (by rw [tx_size]; exact hp0) w).mono ?_
  rintro e w' ⟨rfl, rfl⟩
  exact ⟨rfl, Below.refl _ _⟩
theorem below_drewN {B : Nat} {a w : World} (h : Below B a w) : ∀ q, Below B a (w.drewN q)
  | 0 => h
  | q + 1 => (below_drewN h q).drew
def cut_m (s sep : List UInt8) : List UInt8 × List UInt8 × Bool := Lib.cut s sep
theorem cut_any (s sep : List UInt8) (w : World) (hT : Laid w) (hp0 : s.length < 4294967281) : Calls Tryd.prog 45 #[.string (tx s), .string (tx sep)] w (fun e w' => e = .returned (.tuple #[.string (tx (cut_m s sep).1), .string (tx (cut_m s sep).2.1), .bool (cut_m s sep).2.2]) ∧ Below w.heap.size w w') := by
  obtain ⟨m, hm⟩ := hT.max
  refine (Tryd.strings_Cut (tx s) (tx sep) m w (by rw [tx_size]; exact hp0) hm).mono ?_
  rintro e w' ⟨rfl, n, rfl⟩
  rw [tx_dl, tx_dl]
  exact ⟨rfl, below_drewN (Below.refl _ _) n⟩
/-- A text cut at each of a byte. -/
def sp (c : UInt8) : List UInt8 → List (List UInt8)
  | [] => [[]]
  | x :: r => if x = c then [] :: sp c r else (x :: (sp c r).headD []) :: (sp c r).tail
theorem sp_ne (c : UInt8) : ∀ s, sp c s ≠ []
  | [] => by simp [sp]
  | x :: r => by unfold sp; split <;> simp
theorem ibn (c b : UInt8) (l : List UInt8) (h : b ≠ c) : Lib.indexByte (b :: l) c = if Lib.indexByte l c = -1 then -1 else Lib.indexByte l c + 1 := by
  conv => lhs; unfold Lib.indexByte
  rw [if_neg (by simpa using h)]
  have := Lib.indexByte_ge l c
  split <;> split <;> simp_all <;> omega
theorem splitK_one (c : UInt8) : ∀ s : List UInt8, Lib.splitK [c] 0 (Lib.count s [c]) s = sp c s
  | [] => rfl
  | b :: l => by
    have ih := splitK_one c l
    by_cases h : b = c
    · subst h
      rw [Lib.count_cons_eq, Nat.add_comm]
      unfold Lib.splitK sp
      have e : Lib.index (b :: l) [b] = 0 := by rw [Lib.index_one]; simp [Lib.indexByte]
      rw [e, if_pos rfl]
      simp only [beq_iff_eq]
      rw [if_neg (by decide)]
      simp [ih]
    · rw [Lib.count_cons_ne b c l h]
      unfold sp
      rw [if_neg h, ← ih]
      cases hk : Lib.count l [c] with
      | zero => simp [Lib.splitK]
      | succ k =>
        have hi : ¬ Lib.indexByte l c = -1 := by
          intro e
          rw [Lib.count_miss (by rw [Lib.index_one]; exact e)] at hk
          cases hk
        have hge := Lib.indexByte_ge l c
        unfold Lib.splitK
        rw [Lib.index_one, Lib.index_one, ibn c b l h, if_neg hi]
        simp only [beq_iff_eq]
        rw [if_neg (by omega), if_neg hi]
        have e1 : (Lib.indexByte l c + 1).toNat = (Lib.indexByte l c).toNat + 1 := by omega
        rw [e1]
        simp
theorem split_is (c : UInt8) (s : List UInt8) : split_m s [c] = sp c s := splitK_one c s
theorem split_len (s sep : List UInt8) (h : 1 ≤ sep.length) : (split_m s sep).length ≤ s.length + 1 := by
  have e1 : (Lib.splitB (tx sep) 0 (Lib.countB (tx s) (tx sep)) (tx s)).map (fun b => b.data.toList) = split_m s sep := by
    rw [Lib.splitB_data, tx_dl, tx_dl]
    show Lib.splitK sep 0 (Lib.count (tx s).data.toList (tx sep).data.toList) s = _
    rw [tx_dl, tx_dl]
    rfl
  rw [← e1, List.length_map, Lib.splitB_all (tx sep) (by rw [tx_size]; exact h) 0 _ _ rfl]
  have := Lib.countB_le (tx sep) (by rw [tx_size]; exact h) (tx s).size (tx s) (Nat.le_refl _)
  rw [tx_size] at this
  omega
theorem lix_rng (s : List UInt8) (c : UInt8) : -1 ≤ lix_m s c ∧ lix_m s c < (s.length : Int) := by
  unfold lix_m
  rcases Lib.lastIndexByte_spec (tx s) (c.toNat : Int) with ⟨h, _⟩ | ⟨i, h1, h2, _⟩
  · rw [h]; omega
  · rw [tx_size] at h1
    rw [h2]; omega
end Go.Proofs.YtdohmmdfenafnaaDoor.Pa
