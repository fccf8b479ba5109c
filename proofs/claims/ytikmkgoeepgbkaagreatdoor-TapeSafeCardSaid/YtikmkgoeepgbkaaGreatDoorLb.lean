/- What the library's functions give. -/
import Derived.Test.YtikmkgoeepgbkaaGreatDoorKD
import Derived.Test.YtikmkgoeepgbkaaGreatDoorShelf
import Derived.Test.YtikmkgoeepgbkaaGreatDoorShv
import Derived.Lib.AppendIntMem
import Derived.Lib.AtoiErrMem
import Derived.Lib.LaidTab
import Derived.Shelf.Unicode.DecodeSlow
set_option linter.all false
namespace Go.Proofs.YtikmkgoeepgbkaaGreatDoor.Ev
open Go.RowKit
open Go.Proofs.YtikmkgoeepgbkaaGreatDoor.Mem
set_option linter.unusedVariables false
set_option linter.unusedSimpArgs false
set_option maxRecDepth 100000
/-- What the library's tables and variables hold. -/
def LL : World → Prop := fun w => (Lib.Utf8Tabs (Tryz.laysValid_ren.g 3) (Tryz.laysValid_ren.g 4) w ∧ ∃ m, w.cell? ⟨3, 0, none⟩ = some (.int .i64 m)) ∧
  (Lib.TabIs Tryz.prog w "internal/strconv.uint64pow10" .u64 Lib.pow10Tab ∧ Lib.TabIs Tryz.prog w "holdall/header.widths" .i64 [8, 8, 8, 12, 12]) ∧ (∃ te pe, w.cell? ⟨4, 0, none⟩ = some (.iface te pe)) ∧ ∃ te pe, w.cell? ⟨5, 0, none⟩ = some (.iface te pe)
theorem LLs : Stab LL := fun w W h hb => by
  refine ⟨⟨Utf8Tabs_below h.1.1 hb, ?_⟩, ⟨(Lib.tabBelow_of_tabIs h.2.1.1) W hb, (Lib.tabBelow_of_tabIs h.2.1.2) W hb⟩, ?_, ?_⟩
  · obtain ⟨m, hm⟩ := h.1.2
    exact ⟨m, (hb.cell (p := ⟨3, 0, none⟩) (block_lt_of_cell hm)).trans hm⟩
  · obtain ⟨t, p, hm⟩ := h.2.2.1
    exact ⟨t, p, (hb.cell (p := ⟨4, 0, none⟩) (block_lt_of_cell hm)).trans hm⟩
  · obtain ⟨t, p, hm⟩ := h.2.2.2
    exact ⟨t, p, (hb.cell (p := ⟨5, 0, none⟩) (block_lt_of_cell hm)).trans hm⟩
def widL : List (IntKind × Int) := [(.i64, 8), (.i64, 8), (.i64, 8), (.i64, 12), (.i64, 12)]
theorem wid_cell : ∀ w, LL w → ∀ q p, widL[q]? = some p → w.cell? ⟨0, 0 + q, none⟩ = some (.int p.1 p.2) := fun w h q p hq => by
  have hl : q < 5 := (List.getElem?_eq_some_iff.1 hq).1
  have := h.2.1.2.cell (g := 0) (by kernel_rfl) q hl
  rw [Nat.zero_add]
  rw [this]
  rcases q with _ | _ | _ | _ | _ | q <;> simp [widL] at hq <;> first | (subst hq; rfl) | omega
theorem ag1 {xs : Array Value} {av : List V} {S : Nat → Prop} {W : World} (hs : xs.size = av.length) (hx : ∀ (q : Nat) (y : V) (v : Value), av[q]? = some y → xs[q]? = some v → Rep S W G0 y v) {a : List UInt8} (e : av = [.s a]) : xs = #[.string (tx a)] := by
  subst e
  obtain ⟨v, rfl⟩ := one_arg hs
  rw [(hx 0 _ v rfl rfl).s_inv]
theorem ag2s {xs : Array Value} {av : List V} {S : Nat → Prop} {W : World} (hs : xs.size = av.length) (hx : ∀ (q : Nat) (y : V) (v : Value), av[q]? = some y → xs[q]? = some v → Rep S W G0 y v) {a b : List UInt8} (e : av = [.s a, .s b]) : xs = #[.string (tx a), .string (tx b)] := by
  subst e
  obtain ⟨v, u, rfl⟩ := two_arg hs
  rw [(hx 0 _ v rfl rfl).s_inv, (hx 1 _ u rfl rfl).s_inv]
theorem ag2n {xs : Array Value} {av : List V} {S : Nat → Prop} {W : World} (hs : xs.size = av.length) (hx : ∀ (q : Nat) (y : V) (v : Value), av[q]? = some y → xs[q]? = some v → Rep S W G0 y v) {a : List UInt8} {k : IntKind} {n : Int} (e : av = [.s a, .n k n]) : xs = #[.string (tx a), .int k n] := by
  subst e
  obtain ⟨v, u, rfl⟩ := two_arg hs
  rw [(hx 0 _ v rfl rfl).s_inv, (hx 1 _ u rfl rfl).n_inv]
theorem rep_tp2 {F : Nat → Prop} {W : World} {G : Gm} {a b : V} {x y : Value} (h1 : Rep F W G a x) (h2 : Rep F W G b y) : Rep F W G (.tp [a, b]) (.tuple #[x, y]) := by
  refine .tp _ _ _ rfl fun q v u e1 e2 => ?_
  rcases q with _ | _ | q
  · simp at e1 e2; subst e1; subst e2; exact h1
  · simp at e1 e2; subst e1; subst e2; exact h2
  · simp at e1
theorem rep_tp3 {F : Nat → Prop} {W : World} {G : Gm} {a b c : V} {x y z : Value} (h1 : Rep F W G a x) (h2 : Rep F W G b y) (h3 : Rep F W G c z) : Rep F W G (.tp [a, b, c]) (.tuple #[x, y, z]) := by
  refine .tp _ _ _ rfl fun q v u e1 e2 => ?_
  rcases q with _ | _ | _ | q
  · simp at e1 e2; subst e1; subst e2; exact h1
  · simp at e1 e2; subst e1; subst e2; exact h2
  · simp at e1 e2; subst e1; subst e2; exact h3
  · simp at e1
theorem valid_ok (s : List UInt8) (hs : s.length ≤ 9223372036854775807) : Spec Tryz.prog LL 66 [.s s] (.b (Lib.validD s)) := by
  refine Spec.of (fn := Tryz.f66) Tryz.func66 (by kernel_rfl) (by kernel_rfl) (fun _ => rfl) fun S W xs hL hz hx _ => ?_
  rw [ag1 hz hx rfl]
  have h := Any.utf8_ValidString Tryz.laysValid (tx s) W (by rw [tx_size]; exact hs) hL.1.1
  rw [tx_dl] at h
  refine h.mono ?_
  rintro e W' ⟨rfl, hb⟩
  exact ⟨_, rfl, hb, .b _ _⟩
theorem ib_ok (s : List UInt8) (c : UInt8) : Spec Tryz.prog LL 127 [.s s, .n .u8 (c.toNat : Int)] (.n .i64 (Lib.indexByte s c)) := by
  refine Spec.of (fn := Tryz.f127) Tryz.func127 (by kernel_rfl) (by kernel_rfl) (fun _ => rfl) fun S W xs hL hz hx _ => ?_
  rw [ag2n hz hx rfl]
  refine (Tryz.strings_IndexByte (tx s) (c.toNat : Int) W).mono ?_
  rintro e W' ⟨rfl, rfl⟩
  rw [tx_dl, show ((c.toNat : Int)).toNat.toUInt8 = c by simp]
  exact ⟨_, rfl, Below.refl _ _, .n _ _ _⟩
theorem below_drewN {B : Nat} {a w : World} (h : Below B a w) : ∀ q, Below B a (w.drewN q)
  | 0 => h
  | q + 1 => (below_drewN h q).drew
theorem scut_ok (s sep : List UInt8) (hs : s.length < 4294967281) : Spec Tryz.prog LL 117 [.s s, .s sep] (.tp [.s (Lib.cut s sep).1, .s (Lib.cut s sep).2.1, .b (Lib.cut s sep).2.2]) := by
  refine Spec.of (fn := Tryz.f117) Tryz.func117 (by kernel_rfl) (by kernel_rfl) (fun _ => rfl) fun S W xs hL hz hx _ => ?_
  rw [ag2s hz hx rfl]
  obtain ⟨m, hm⟩ := hL.1.2
  refine (Tryz.strings_Cut (tx s) (tx sep) m W (by rw [tx_size]; exact hs) hm).mono ?_
  rintro e W' ⟨rfl, n, rfl⟩
  rw [tx_dl, tx_dl]
  exact ⟨_, rfl, below_drewN (Below.refl _ _) n, rep_tp3 (.s _ _) (.s _ _) (.b _ _)⟩
/-- A text cut at each of a byte. -/
def sp (c : UInt8) : List UInt8 → List (List UInt8)
  | [] => [[]]
  | x :: r => if x = c then [] :: sp c r else (x :: (sp c r).headD []) :: (sp c r).tail
theorem sp_ne (c : UInt8) : ∀ s, sp c s ≠ []
  | [] => by simp [sp]
  | x :: r => by unfold sp; split <;> simp
theorem ibn (c b : UInt8) (l : List UInt8) (h : b ≠ c) : Lib.indexByte (b :: l) c = if Lib.indexByte l c = -1 then -1 else Lib.indexByte l c + 1 := by
  conv => lhs; unfold Lib.indexByte
  rw [if_neg (by simpa using h)]
  have := Lib.indexByte_ge l c
  split <;> split <;> simp_all <;> omega
theorem splitK_one (c : UInt8) : ∀ s : List UInt8, Lib.splitK [c] 0 (Lib.count s [c]) s = sp c s
  | [] => rfl
  | b :: l => by
    have ih := splitK_one c l
    by_cases h : b = c
    · subst h
      rw [Lib.count_cons_eq, Nat.add_comm]
      unfold Lib.splitK sp
      have e : Lib.index (b :: l) [b] = 0 := by rw [Lib.index_one]; simp [Lib.indexByte]
      rw [e, if_pos rfl]
      simp only [beq_iff_eq]
      rw [if_neg (by decide)]
      simp [ih]
    · rw [Lib.count_cons_ne b c l h]
      unfold sp
      rw [if_neg h, ← ih]
      cases hk : Lib.count l [c] with
      | zero => simp [Lib.splitK]
      | succ k =>
        have hi : ¬ Lib.indexByte l c = -1 := by
          intro e
          rw [Lib.count_miss (by rw [Lib.index_one]; exact e)] at hk
          cases hk
        have hge := Lib.indexByte_ge l c
        unfold Lib.splitK
        rw [Lib.index_one, Lib.index_one, ibn c b l h, if_neg hi]
        simp only [beq_iff_eq]
        rw [if_neg (by omega), if_neg hi]
        have e1 : (Lib.indexByte l c + 1).toNat = (Lib.indexByte l c).toNat + 1 := by omega
        rw [e1]
        simp
/-- A row that is made, and only read from then on. -/
theorem row_read {W : World} {base T z : Nat} {α : Type} {d : α} {l : List α} {e : α → V} {f : α → Value} {v : Value} (h : W.ownsRow base T 1 v l.length (l.map f)) (h1 : ∀ x, cs (e x) = [e x]) (hr : ∀ (F : Nat → Prop) x, Rep F W G0 (e x) (f x)) (hm : ∀ x i, men (e x) i = false) : Rep (fun g => base ≤ g ∧ g < W.heap.size) W G0 (.sl 1 α d l e) v := by
  rcases h.2 with ⟨h5, h6⟩ | ⟨g, cap, cur, h5, k1, k2, k3, k4, k5, k6⟩
  · have : l = [] := List.eq_nil_of_length_eq_zero h6
    subst this
    rw [h5]
    exact .sl0 _ _ _ _ _ _ _
  · have hob : v.ownBlock = some g := by rw [h5]; rfl
    have hlt := h.lt g hob
    rw [h5]
    have hel : ∀ (q : Nat) (x : α), l[q]? = some x → ∀ (t : Nat) (y : V), (cs (e x))[t]? = some y → W.cell? ⟨g, 0 + (q * 1 + t), none⟩ = some (f x) ∧ y = e x := by
      intro q x hq t y ht
      rw [h1 x] at ht
      cases t with
      | succ t => simp at ht
      | zero =>
        simp at ht
        have := h.cells (g := g) hob q (f x) (by rw [List.getElem?_map, hq]; rfl)
        rw [add_lit] at this
        rw [Nat.mul_one, Nat.add_zero, Nat.zero_add]
        rw [Nat.zero_add] at this
        exact ⟨this, ht.symm⟩
    refine .sl G0 1 α d l e g 0 cap (fun q t => (l[q]?.map f).getD undef) hlt k3 (fun q x hq => hm x) (fun q x hq => by rw [h1]; rfl) (fun q x t y hq ht => ?_) (fun q x t y hq ht => ?_)
    · rw [(hel q x hq t y ht).1, hq]; rfl
    · rw [(hel q x hq t y ht).2, hq]; exact hr _ x
theorem sp_len (c : UInt8) : ∀ s, (sp c s).length ≤ s.length + 1
  | [] => by simp [sp]
  | x :: r => by
    have := sp_len c r
    unfold sp
    split <;> simp <;> omega
theorem split_ok (s : List UInt8) (c : UInt8) (hs : s.length < 4294967281) : Spec Tryz.prog LL 31 [.s s, .s [c]] (.sl 1 (List UInt8) [] (sp c s) .s) := by
  refine ⟨⟨Tryz.f31, Tryz.func31, by kernel_rfl, by kernel_rfl⟩, fun _ => rfl, fun S W xs hL hz hx hS => ?_⟩
  rw [ag2s hz hx rfl]
  obtain ⟨m, hm⟩ := hL.1.2
  have h := Tryz.strings_Split (tx s) (tx [c]) m W (by rw [tx_size]; exact hs) hm (by rw [tx_size]; exact Nat.le_refl _)
  refine h.mono ?_
  rintro e w' ⟨rfl, rfl⟩
  have e1 : (Lib.splitB (tx [c]) 0 (Lib.countB (tx s) (tx [c])) (tx s)).map (fun b => b.data.toList) = sp c s := by
    rw [Lib.splitB_data, tx_dl, tx_dl, ← splitK_one]
    show Lib.splitK [c] 0 (Lib.count (tx s).data.toList (tx [c]).data.toList) s = _
    rw [tx_dl, tx_dl]
  have e2 : ((Lib.splitB (tx [c]) 0 (Lib.countB (tx s) (tx [c])) (tx s)).map Value.string) = (sp c s).map fun x => Value.string (tx x) := by
    rw [← e1, List.map_map]
    rfl
  have e3 : Lib.countB (tx s) (tx [c]) + 1 = (sp c s).length := by
    rw [← e1, List.length_map, Lib.splitB_all (tx [c]) (by rw [tx_size]; exact Nat.le_refl _) 0 _ _ rfl]
  have e4 := sp_len c s
  have hb : Below W.heap.size W (W.alloc (.cells ((sp c s).map fun x => Value.string (tx x)).toArray 9)) := (Below.refl _ _).alloc (Nat.le_refl _) _
  have h2 := World.ownsRow_lit (e := 9) (size := 1) (base := W.heap.size) W ((sp c s).map fun x => Value.string (tx x)).toArray (sp c s).length (Nat.le_refl _) (by unfold maxLen; omega) (by simp)
  rw [e2, e3]
  refine ⟨_, fun g => W.heap.size ≤ g ∧ g < (W.alloc (.cells ((sp c s).map fun x => Value.string (tx x)).toArray 9)).heap.size, rfl, ?_, fun g hg => ⟨hg.2, .inl hg.1⟩, row_read (f := fun x => Value.string (tx x)) (T := 9) (z := 1) ?_ (fun _ => rfl) (fun _ x => .s _ _) (fun _ _ => rfl)⟩
  · exact hb
  · simpa using h2
theorem repeat_ok (s : List UInt8) (n : Nat) (hn : n ≤ 9223372036854775807) (hs : s.length * n ≤ 140737488355328) : Spec Tryz.prog LL 24 [.s s, .n .i64 (n : Int)] (.s (Lib.repeatL s n)) := by
  refine Spec.of (fn := Tryz.f24) Tryz.func24 (by kernel_rfl) (by kernel_rfl) (fun _ => rfl) fun S W xs hL hz hx _ => ?_
  rw [ag2n hz hx rfl]
  refine (Tryz.strings_Repeat (tx s) n W hn (by rw [tx_size]; exact hs)).mono ?_
  rintro e W' ⟨rfl, hb⟩
  rw [tx_dl]
  exact ⟨_, rfl, hb, .s _ _⟩
theorem trim_ok (s : List UInt8) (c : UInt8) (hc : c.toNat < 128) (hs : s.length ≤ 9223372036854775807) : Spec Tryz.prog LL 114 [.s s, .s [c]] (.s (Lib.trimB s c)) := by
  refine Spec.of (fn := Tryz.f114) Tryz.func114 (by kernel_rfl) (by kernel_rfl) (fun _ => rfl) fun S W xs hL hz hx _ => ?_
  rw [ag2s hz hx rfl]
  refine (Tryz.strings_Trim_one (tx s) c hc W (by rw [tx_size]; exact hs)).mono ?_
  rintro e W' ⟨rfl, h⟩
  rw [tx_dl]
  rcases h with rfl | rfl
  · exact ⟨_, rfl, Below.refl _ _, .s _ _⟩
  · exact ⟨_, rfl, (Below.refl _ _).drew, .s _ _⟩
theorem trimsuf_ok (s p : List UInt8) (hs : s.length ≤ 9223372036854775807) : Spec Tryz.prog LL 120 [.s s, .s p] (.s (Lib.trimSuffix s p)) := by
  refine Spec.of (fn := Tryz.f120) Tryz.func120 (by kernel_rfl) (by kernel_rfl) (fun _ => rfl) fun S W xs hL hz hx _ => ?_
  rw [ag2s hz hx rfl]
  refine (Tryz.strings_TrimSuffix (tx s) (tx p) W (by rw [tx_size]; exact hs)).mono ?_
  rintro e W' ⟨rfl, rfl⟩
  rw [tx_dl, tx_dl]
  exact ⟨_, rfl, Below.refl _ _, .s _ _⟩
end Go.Proofs.YtikmkgoeepgbkaaGreatDoor.Ev
