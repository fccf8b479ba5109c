/- What the library's functions give. -/
import Derived.Test.YtjbnmeofjiokeaaGreatDoorKD
import Derived.Shelf.Strings.Builder1
import Derived.Shelf.Strings.Builder2
import Derived.Shelf.Strings.OnBuilder
import Derived.Shelf.Small.Wraps
import Derived.Shelf.Strings.BuilderF
import Derived.Shelf.Strings.BuilderK
import Derived.Shelf.Strings.Builder2Cap
import Derived.Shelf.Strconv.Atoi
import Derived.Shelf.Strconv.Itoa1
import Derived.Shelf.Strconv.Itoa2
import Derived.Shelf.Strconv.Itoa3
import Derived.Shelf.Strconv.AtoiErrFast
import Derived.Shelf.Strconv.ParseIntEmpty
import Derived.Shelf.Strconv.AtoiFail
import Derived.Shelf.Strconv.Clone
import Derived.Shelf.Strconv.SyntaxError
import Derived.Shelf.LaysC
import Derived.Shelf.Strconv.ToError
import Derived.Shelf.Strconv.AtoiErr
import Derived.Shelf.Strconv.ErrVar
import Derived.Shelf.Strconv.Lower
import Derived.Shelf.Strconv.ParseUint10
import Derived.Shelf.Strconv.ParseUint10Empty
import Derived.Shelf.Strconv.ParseUint10Any
import Derived.Shelf.Strconv.ParseInt10
import Derived.Shelf.Strconv.AtoiLong
import Derived.Shelf.Strconv.AtoiInnerAll
import Derived.Shelf.Strconv.RangeError
import Derived.Shelf.Strconv.ToErrorRange
import Derived.Shelf.Strconv.AtoiAll
import Derived.Shelf.Strconv.ErrVarAll
import Derived.Shelf.Strconv.ParseUintEmpty
import Derived.Shelf.Strings.Prefix
import Derived.Shelf.Strings.BuilderCap
import Derived.Lib.AppendIntMem
import Derived.Lib.AtoiErrMem
import Derived.Test.YtjbnmeofjiokeaaGreatDoorShelf
import Derived.Test.YtjbnmeofjiokeaaGreatDoorShv
import Derived.Test.YtjbnmeofjiokeaaGreatDoorKF
import Derived.Shelf.Unicode.DecodeSlow
set_option linter.all false
namespace Go.Proofs.YtjbnmeofjiokeaaGreatDoor.Ev
open Go.RowKit
open Go.Proofs.YtjbnmeofjiokeaaGreatDoor.Mem
set_option linter.unusedVariables false
set_option linter.unusedSimpArgs false
set_option maxRecDepth 100000
/-- What the library's tables and variables hold. -/
def LL : World → Prop := fun w => (Lib.Utf8Tabs (Tryz.laysValid_ren.g 3) (Tryz.laysValid_ren.g 4) w ∧ ∃ m, w.cell? ⟨1, 0, none⟩ = some (.int .i64 m)) ∧ Sha.KT 0 w
theorem LLs : Stab LL := fun w W h hb => by
  refine ⟨⟨Utf8Tabs_below h.1.1 hb, ?_⟩, Sha.KT.below h.2 hb h.2.lt⟩
  obtain ⟨m, hm⟩ := h.1.2
  exact ⟨m, (hb.cell (p := ⟨1, 0, none⟩) (block_lt_of_cell hm)).trans hm⟩
theorem ag1 {xs : Array Value} {av : List V} {S : Nat → Prop} {W : World} (hs : xs.size = av.length) (hx : ∀ (q : Nat) (y : V) (v : Value), av[q]? = some y → xs[q]? = some v → Rep S W G0 y v) {a : List UInt8} (e : av = [.s a]) : xs = #[.string (tx a)] := by
  subst e
  obtain ⟨v, rfl⟩ := one_arg hs
  rw [(hx 0 _ v rfl rfl).s_inv]
theorem ag2s {xs : Array Value} {av : List V} {S : Nat → Prop} {W : World} (hs : xs.size = av.length) (hx : ∀ (q : Nat) (y : V) (v : Value), av[q]? = some y → xs[q]? = some v → Rep S W G0 y v) {a b : List UInt8} (e : av = [.s a, .s b]) : xs = #[.string (tx a), .string (tx b)] := by
  subst e
  obtain ⟨v, u, rfl⟩ := two_arg hs
  rw [(hx 0 _ v rfl rfl).s_inv, (hx 1 _ u rfl rfl).s_inv]
theorem ag2n {xs : Array Value} {av : List V} {S : Nat → Prop} {W : World} (hs : xs.size = av.length) (hx : ∀ (q : Nat) (y : V) (v : Value), av[q]? = some y → xs[q]? = some v → Rep S W G0 y v) {a : List UInt8} {k : IntKind} {n : Int} (e : av = [.s a, .n k n]) : xs = #[.string (tx a), .int k n] := by
  subst e
  obtain ⟨v, u, rfl⟩ := two_arg hs
  rw [(hx 0 _ v rfl rfl).s_inv, (hx 1 _ u rfl rfl).n_inv]
theorem rep_tp3 {F : Nat → Prop} {W : World} {G : Gm} {a b c : V} {x y z : Value} (h1 : Rep F W G a x) (h2 : Rep F W G b y) (h3 : Rep F W G c z) : Rep F W G (.tp [a, b, c]) (.tuple #[x, y, z]) := by
  refine .tp _ _ _ rfl fun q v u e1 e2 => ?_
  rcases q with _ | _ | _ | q
  · simp at e1 e2; subst e1; subst e2; exact h1
  · simp at e1 e2; subst e1; subst e2; exact h2
  · simp at e1 e2; subst e1; subst e2; exact h3
  · simp at e1
theorem valid_ok (s : List UInt8) (hs : s.length ≤ 9223372036854775807) : Spec Tryz.prog LL 147 [.s s] (.b (Lib.validD s)) := by
  refine Spec.of (fn := Tryz.f147) Tryz.func147 (by kernel_rfl) (by kernel_rfl) (fun _ => rfl) fun S W xs hL hz hx _ => ?_
  rw [ag1 hz hx rfl]
  have h := Any.utf8_ValidString Tryz.laysValid (tx s) W (by rw [tx_size]; exact hs) hL.1.1
  rw [tx_dl] at h
  refine h.mono ?_
  rintro e W' ⟨rfl, hb⟩
  exact ⟨_, rfl, hb, .b _ _⟩
theorem ib_ok (s : List UInt8) (c : UInt8) : Spec Tryz.prog LL 132 [.s s, .n .u8 (c.toNat : Int)] (.n .i64 (Lib.indexByte s c)) := by
  refine Spec.of (fn := Tryz.f132) Tryz.func132 (by kernel_rfl) (by kernel_rfl) (fun _ => rfl) fun S W xs hL hz hx _ => ?_
  rw [ag2n hz hx rfl]
  refine (Tryz.strings_IndexByte (tx s) (c.toNat : Int) W).mono ?_
  rintro e W' ⟨rfl, rfl⟩
  rw [tx_dl, show ((c.toNat : Int)).toNat.toUInt8 = c by simp]
  exact ⟨_, rfl, Below.refl _ _, .n _ _ _⟩
theorem lix_ok (s : List UInt8) (c : UInt8) (hs : s.length < 4611686018427387904) : Spec Tryz.prog LL 116 [.s s, .n .u8 (c.toNat : Int)] (.n .i64 (Lib.lastIndexByte (tx s) (c.toNat : Int))) := by
  refine Spec.of (fn := Tryz.f116) Tryz.func116 (by kernel_rfl) (by kernel_rfl) (fun _ => rfl) fun S W xs hL hz hx _ => ?_
  rw [ag2n hz hx rfl]
  refine (Tryz.strings_LastIndexByte (tx s) (c.toNat : Int) (by rw [tx_size]; exact hs) W).mono ?_
  rintro e W' ⟨rfl, rfl⟩
  exact ⟨_, rfl, Below.refl _ _, .n _ _ _⟩
theorem below_drewN {B : Nat} {a w : World} (h : Below B a w) : ∀ q, Below B a (w.drewN q)
  | 0 => h
  | q + 1 => (below_drewN h q).drew
theorem scut_ok (s sep : List UInt8) (hs : s.length < 4294967281) : Spec Tryz.prog LL 136 [.s s, .s sep] (.tp [.s (Lib.cut s sep).1, .s (Lib.cut s sep).2.1, .b (Lib.cut s sep).2.2]) := by
  refine Spec.of (fn := Tryz.f136) Tryz.func136 (by kernel_rfl) (by kernel_rfl) (fun _ => rfl) fun S W xs hL hz hx _ => ?_
  rw [ag2s hz hx rfl]
  obtain ⟨m, hm⟩ := hL.1.2
  refine (Tryz.strings_Cut (tx s) (tx sep) m W (by rw [tx_size]; exact hs) hm).mono ?_
  rintro e W' ⟨rfl, n, rfl⟩
  rw [tx_dl, tx_dl]
  exact ⟨_, rfl, below_drewN (Below.refl _ _) n, rep_tp3 (.s _ _) (.s _ _) (.b _ _)⟩
/-- A text cut at each of a byte. -/
def sp (c : UInt8) : List UInt8 → List (List UInt8)
  | [] => [[]]
  | x :: r => if x = c then [] :: sp c r else (x :: (sp c r).headD []) :: (sp c r).tail
theorem sp_ne (c : UInt8) : ∀ s, sp c s ≠ []
  | [] => by simp [sp]
  | x :: r => by unfold sp; split <;> simp
theorem ibn (c b : UInt8) (l : List UInt8) (h : b ≠ c) : Lib.indexByte (b :: l) c = if Lib.indexByte l c = -1 then -1 else Lib.indexByte l c + 1 := by
  conv => lhs; unfold Lib.indexByte
  rw [if_neg (by simpa using h)]
  have := Lib.indexByte_ge l c
  split <;> split <;> simp_all <;> omega
theorem splitK_one (c : UInt8) : ∀ s : List UInt8, Lib.splitK [c] 0 (Lib.count s [c]) s = sp c s
  | [] => rfl
  | b :: l => by
    have ih := splitK_one c l
    by_cases h : b = c
    · subst h
      rw [Lib.count_cons_eq, Nat.add_comm]
      unfold Lib.splitK sp
      have e : Lib.index (b :: l) [b] = 0 := by rw [Lib.index_one]; simp [Lib.indexByte]
      rw [e, if_pos rfl]
      simp only [beq_iff_eq]
      rw [if_neg (by decide)]
      simp [ih]
    · rw [Lib.count_cons_ne b c l h]
      unfold sp
      rw [if_neg h, ← ih]
      cases hk : Lib.count l [c] with
      | zero => simp [Lib.splitK]
      | succ k =>
        have hi : ¬ Lib.indexByte l c = -1 := by
          intro e
          rw [Lib.count_miss (by rw [Lib.index_one]; exact e)] at hk
          cases hk
        have hge := Lib.indexByte_ge l c
        unfold Lib.splitK
        rw [Lib.index_one, Lib.index_one, ibn c b l h, if_neg hi]
        simp only [beq_iff_eq]
        rw [if_neg (by omega), if_neg hi]
        have e1 : (Lib.indexByte l c + 1).toNat = (Lib.indexByte l c).toNat + 1 := by omega
        rw [e1]
        simp
/-- A row that is made, and only read from then on. -/
theorem row_read {W : World} {base T z : Nat} {α : Type} {d : α} {l : List α} {e : α → V} {f : α → Value} {v : Value} (h : W.ownsRow base T 1 v l.length (l.map f)) (h1 : ∀ x, cs (e x) = [e x]) (hr : ∀ (F : Nat → Prop) x, Rep F W G0 (e x) (f x)) (hm : ∀ x i, men (e x) i = false) : Rep (fun g => base ≤ g ∧ g < W.heap.size) W G0 (.sl 1 α d l e) v := by
  rcases h.2 with ⟨h5, h6⟩ | ⟨g, cap, cur, h5, k1, k2, k3, k4, k5, k6⟩
  · have : l = [] := List.eq_nil_of_length_eq_zero h6
    subst this
    rw [h5]
    exact .sl0 _ _ _ _ _ _ _
  · have hob : v.ownBlock = some g := by rw [h5]; rfl
    have hlt := h.lt g hob
    rw [h5]
    have hel : ∀ (q : Nat) (x : α), l[q]? = some x → ∀ (t : Nat) (y : V), (cs (e x))[t]? = some y → W.cell? ⟨g, 0 + (q * 1 + t), none⟩ = some (f x) ∧ y = e x := by
      intro q x hq t y ht
      rw [h1 x] at ht
      cases t with
      | succ t => simp at ht
      | zero =>
        simp at ht
        have := h.cells (g := g) hob q (f x) (by rw [List.getElem?_map, hq]; rfl)
        rw [add_lit] at this
        rw [Nat.mul_one, Nat.add_zero, Nat.zero_add]
        rw [Nat.zero_add] at this
        exact ⟨this, ht.symm⟩
    refine .sl G0 1 α d l e g 0 cap (fun q t => (l[q]?.map f).getD undef) hlt k3 (fun q x hq => hm x) (fun q x hq => by rw [h1]; rfl) (fun q x t y hq ht => ?_) (fun q x t y hq ht => ?_)
    · rw [(hel q x hq t y ht).1, hq]; rfl
    · rw [(hel q x hq t y ht).2, hq]; exact hr _ x
theorem sp_len (c : UInt8) : ∀ s, (sp c s).length ≤ s.length + 1
  | [] => by simp [sp]
  | x :: r => by
    have := sp_len c r
    unfold sp
    split <;> simp <;> omega
theorem split_ok (s : List UInt8) (c : UInt8) (hs : s.length < 4294967281) : Spec Tryz.prog LL 110 [.s s, .s [c]] (.sl 1 (List UInt8) [] (sp c s) .s) := by
  refine ⟨⟨Tryz.f110, Tryz.func110, by kernel_rfl, by kernel_rfl⟩, fun _ => rfl, fun S W xs hL hz hx hS => ?_⟩
  rw [ag2s hz hx rfl]
  obtain ⟨m, hm⟩ := hL.1.2
  have h := Tryz.strings_Split (tx s) (tx [c]) m W (by rw [tx_size]; exact hs) hm (by rw [tx_size]; exact Nat.le_refl _)
  refine h.mono ?_
  rintro e w' ⟨rfl, rfl⟩
  have e1 : (Lib.splitB (tx [c]) 0 (Lib.countB (tx s) (tx [c])) (tx s)).map (fun b => b.data.toList) = sp c s := by
    rw [Lib.splitB_data, tx_dl, tx_dl, ← splitK_one]
    show Lib.splitK [c] 0 (Lib.count (tx s).data.toList (tx [c]).data.toList) s = _
    rw [tx_dl, tx_dl]
  have e2 : ((Lib.splitB (tx [c]) 0 (Lib.countB (tx s) (tx [c])) (tx s)).map Value.string) = (sp c s).map fun x => Value.string (tx x) := by
    rw [← e1, List.map_map]
    rfl
  have e3 : Lib.countB (tx s) (tx [c]) + 1 = (sp c s).length := by
    rw [← e1, List.length_map, Lib.splitB_all (tx [c]) (by rw [tx_size]; exact Nat.le_refl _) 0 _ _ rfl]
  have e4 := sp_len c s
  have hb : Below W.heap.size W (W.alloc (.cells ((sp c s).map fun x => Value.string (tx x)).toArray 9)) := (Below.refl _ _).alloc (Nat.le_refl _) _
  have h2 := World.ownsRow_lit (e := 9) (size := 1) (base := W.heap.size) W ((sp c s).map fun x => Value.string (tx x)).toArray (sp c s).length (Nat.le_refl _) (by unfold maxLen; omega) (by simp)
  rw [e2, e3]
  refine ⟨_, fun g => W.heap.size ≤ g ∧ g < (W.alloc (.cells ((sp c s).map fun x => Value.string (tx x)).toArray 9)).heap.size, rfl, ?_, fun g hg => ⟨hg.2, .inl hg.1⟩, row_read (f := fun x => Value.string (tx x)) (T := 9) (z := 1) ?_ (fun _ => rfl) (fun _ x => .s _ _) (fun _ _ => rfl)⟩
  · exact hb
  · simpa using h2
end Go.Proofs.YtjbnmeofjiokeaaGreatDoor.Ev
namespace Go.Proofs.YtjbnmeofjiokeaaGreatDoor.Ev
open Go.RowKit
open Go.Proofs.YtjbnmeofjiokeaaGreatDoor.Mem
set_option linter.unusedVariables false
set_option linter.unusedSimpArgs false
set_option maxRecDepth 100000
structure Rul where
  name : List UInt8
  op : Int
  ver : List UInt8
structure Ent where
  kind : Int
  mode : Int
  sum : List UInt8
  path : List UInt8
  target : List UInt8
structure Man where
  name : List UInt8
  ver : List UInt8
  needs : List Rul
  clashes : List Rul
  ents : List Ent
structure Shr where
  path : List UInt8
  refs : Int
  made : Bool
structure Bas where
  packs : List Man
  dirs : List Shr
def eRul (x : Rul) : V := .ag [.s x.name, .n .i64 x.op, .s x.ver]
def eEnt (x : Ent) : V := .ag [.n .i64 x.kind, .n .i64 x.mode, .s x.sum, .s x.path, .s x.target]
def dR : Rul := ⟨[], 0, []⟩
def dE : Ent := ⟨0, 0, [], [], []⟩
def cRul : V → Rul
  | .ag [.s a, .n _ b, .s c] => ⟨a, b, c⟩
  | _ => dR
def cEnt : V → Ent
  | .ag [.n _ a, .n _ b, .s c, .s d, .s e] => ⟨a, b, c, d, e⟩
  | _ => dE
def eMan (m : Man) : V := .ag [.s m.name, .s m.ver, .sl 3 Rul dR m.needs eRul, .sl 3 Rul dR m.clashes eRul, .sl 5 Ent dE m.ents eEnt]
def dMn : Man := ⟨[], [], [], [], []⟩
def dS : Shr := ⟨[], 0, false⟩
def eShr (x : Shr) : V := .ag [.s x.path, .n .i64 x.refs, .b x.made]
def cShr : V → Shr
  | .ag [.s a, .n _ b, .b c] => ⟨a, b, c⟩
  | _ => dS
open Classical in
noncomputable def cMan (v : V) : Man := if h : ∃ m, eMan m = v then Classical.choose h else dMn
theorem eMan_inj {m n : Man} (h : eMan m = eMan n) : m = n := by
  cases m; cases n
  simp only [eMan, V.ag.injEq, List.cons.injEq, V.s.injEq, V.sl.injEq, heq_eq_eq, true_and, and_true] at h
  obtain ⟨h1, h2, h3, h4, h5⟩ := h
  rw [h1, h2, h3, h4, h5]
theorem cMan_e (m : Man) : cMan (eMan m) = m := by
  have h : ∃ n, eMan n = eMan m := ⟨m, rfl⟩
  unfold cMan
  rw [dif_pos h]
  exact eMan_inj (Classical.choose_spec h)
def eBas (b : Bas) : V := .ag [.sl 5 Man dMn b.packs eMan, .sl 3 Shr dS b.dirs eShr]
theorem eSh (x : Shr) : eShr x = .ag [.s x.path, .n .i64 x.refs, .b x.made] := rfl
theorem eBsd (b : Bas) : eBas b = .ag [.sl 5 Man dMn b.packs eMan, .sl 3 Shr dS b.dirs eShr] := rfl
theorem eRd (x : Rul) : eRul x = .ag [.s x.name, .n .i64 x.op, .s x.ver] := rfl
theorem eEd (x : Ent) : eEnt x = .ag [.n .i64 x.kind, .n .i64 x.mode, .s x.sum, .s x.path, .s x.target] := rfl
theorem eMd (m : Man) : eMan m = .ag [.s m.name, .s m.ver, .sl 3 Rul dR m.needs eRul, .sl 3 Rul dR m.clashes eRul, .sl 5 Ent dE m.ents eEnt] := rfl
theorem eBd (c : UInt8) : eB c = .n .u8 (c.toNat : Int) := rfl
structure Stt where
  path : List UInt8
  kind : Int
  mode : Int
  uid : Int
  gid : Int
  time : Int
  links : Int
  data : List UInt8
structure Mbr where
  path : List UInt8
  kind : Int
  mode : Int
  uid : Int
  gid : Int
  time : Int
  target : List UInt8
  data : List UInt8
structure Stp where
  kind : Int
  path : List UInt8
  mode : Int
  uid : Int
  gid : Int
  time : Int
  data : List UInt8
  target : List UInt8
structure Cse where
  base : Bas
  tree : List Stt
  m : Man
  members : List Mbr
def dT : Stt := ⟨[], 0, 0, 0, 0, 0, 0, []⟩
def dMb : Mbr := ⟨[], 0, 0, 0, 0, 0, [], []⟩
def dP : Stp := ⟨0, [], 0, 0, 0, 0, [], []⟩
def eStt (x : Stt) : V := .ag [.s x.path, .n .i64 x.kind, .n .i64 x.mode, .n .i64 x.uid, .n .i64 x.gid, .n .i64 x.time, .n .i64 x.links, .s x.data]
def eMbr (x : Mbr) : V := .ag [.s x.path, .n .i64 x.kind, .n .i64 x.mode, .n .i64 x.uid, .n .i64 x.gid, .n .i64 x.time, .s x.target, .s x.data]
def eStp (x : Stp) : V := .ag [.n .i64 x.kind, .s x.path, .n .i64 x.mode, .n .i64 x.uid, .n .i64 x.gid, .n .i64 x.time, .s x.data, .s x.target]
def cStp : V → Stp
  | .ag [.n _ a, .s b, .n _ c, .n _ d, .n _ e, .n _ f, .s g, .s h] => ⟨a, b, c, d, e, f, g, h⟩
  | _ => dP
def cStt : V → Stt
  | .ag [.s a, .n _ b, .n _ c, .n _ d, .n _ e, .n _ f, .n _ g, .s h] => ⟨a, b, c, d, e, f, g, h⟩
  | _ => dT
def cMbr : V → Mbr
  | .ag [.s a, .n _ b, .n _ c, .n _ d, .n _ e, .n _ f, .s g, .s h] => ⟨a, b, c, d, e, f, g, h⟩
  | _ => dMb
def eCse (c : Cse) : V := .ag [.sl 5 Man dMn c.base.packs eMan, .sl 3 Shr dS c.base.dirs eShr, .sl 8 Stt dT c.tree eStt, .s c.m.name, .s c.m.ver, .sl 3 Rul dR c.m.needs eRul, .sl 3 Rul dR c.m.clashes eRul, .sl 5 Ent dE c.m.ents eEnt, .sl 8 Mbr dMb c.members eMbr]
theorem eTd (x : Stt) : eStt x = .ag [.s x.path, .n .i64 x.kind, .n .i64 x.mode, .n .i64 x.uid, .n .i64 x.gid, .n .i64 x.time, .n .i64 x.links, .s x.data] := rfl
theorem eBrd (x : Mbr) : eMbr x = .ag [.s x.path, .n .i64 x.kind, .n .i64 x.mode, .n .i64 x.uid, .n .i64 x.gid, .n .i64 x.time, .s x.target, .s x.data] := rfl
theorem ePd (x : Stp) : eStp x = .ag [.n .i64 x.kind, .s x.path, .n .i64 x.mode, .n .i64 x.uid, .n .i64 x.gid, .n .i64 x.time, .s x.data, .s x.target] := rfl
theorem eCd (c : Cse) : eCse c = .ag [.sl 5 Man dMn c.base.packs eMan, .sl 3 Shr dS c.base.dirs eShr, .sl 8 Stt dT c.tree eStt, .s c.m.name, .s c.m.ver, .sl 3 Rul dR c.m.needs eRul, .sl 3 Rul dR c.m.clashes eRul, .sl 5 Ent dE c.m.ents eEnt, .sl 8 Mbr dMb c.members eMbr] := rfl
def hS : Elp := ⟨1, List UInt8, [], .s, cS⟩
noncomputable def EE : Nat → Option Elp := fun t => if t = 76 then some ⟨3, Rul, dR, eRul, cRul⟩ else if t = 53 then some ⟨5, Ent, dE, eEnt, cEnt⟩ else if t = 9 then some ⟨1, List UInt8, [], .s, cS⟩ else if t = 5 then some ⟨1, UInt8, 0, eB, cB⟩ else if t = 30 then some ⟨5, Man, dMn, eMan, cMan⟩ else if t = 61 then some ⟨3, Shr, dS, eShr, cShr⟩ else if t = 46 then some ⟨8, Stp, dP, eStp, cStp⟩ else if t = 55 then some ⟨8, Stt, dT, eStt, cStt⟩ else if t = 59 then some ⟨8, Mbr, dMb, eMbr, cMbr⟩ else none
theorem eEE : EE 76 = some ⟨3, Rul, dR, eRul, cRul⟩ ∧ EE 53 = some ⟨5, Ent, dE, eEnt, cEnt⟩ ∧ EE 9 = some ⟨1, List UInt8, [], .s, cS⟩ ∧ EE 5 = some ⟨1, UInt8, 0, eB, cB⟩ ∧ EE 30 = some ⟨5, Man, dMn, eMan, cMan⟩ ∧ EE 61 = some ⟨3, Shr, dS, eShr, cShr⟩ ∧ EE 46 = some ⟨8, Stp, dP, eStp, cStp⟩ ∧ EE 55 = some ⟨8, Stt, dT, eStt, cStt⟩ ∧ EE 59 = some ⟨8, Mbr, dMb, eMbr, cMbr⟩ := ⟨rfl, rfl, rfl, rfl, rfl, rfl, rfl, rfl, rfl⟩
theorem CCx : (⟨Tryz.prog, LL, EE, []⟩ : Cx).P.follows .mixedOrders = true := by kernel_rfl
def rS (l : List (List UInt8)) : Bk := .row 9 1 (List UInt8) [] l .s cS
def rR (l : List Rul) : Bk := .row 76 3 Rul dR l eRul cRul
def rE (l : List Ent) : Bk := .row 53 5 Ent dE l eEnt cEnt
def rB (l : List UInt8) : Bk := .row 5 1 UInt8 0 l eB cB
noncomputable def rM (l : List Man) : Bk := .row 30 5 Man dMn l eMan cMan
def rSh (l : List Shr) : Bk := .row 61 3 Shr dS l eShr cShr
def rP (l : List Stp) : Bk := .row 46 8 Stp dP l eStp cStp
theorem rPd : ∀ l, rP l = .row 46 8 Stp dP l eStp cStp := fun _ => rfl
theorem okP (v : Stp) : okE 8 eStp cStp (eStp v) := ⟨rfl, rfl, rfl, fun _ => rfl⟩
theorem okT (v : Stt) : okE 8 eStt cStt (eStt v) := ⟨rfl, rfl, rfl, fun _ => rfl⟩
theorem okBr (v : Mbr) : okE 8 eMbr cMbr (eMbr v) := ⟨rfl, rfl, rfl, fun _ => rfl⟩
theorem eokP : (∀ a b c d e f g h, okE 8 eStp cStp (.ag [.n .i64 a, .s b, .n .i64 c, .n .i64 d, .n .i64 e, .n .i64 f, .s g, .s h]) = True) ∧ (∀ a b c d e f g h, okE 8 eStt cStt (.ag [.s a, .n .i64 b, .n .i64 c, .n .i64 d, .n .i64 e, .n .i64 f, .n .i64 g, .s h]) = True) ∧ (∀ a b c d e f g h, okE 8 eMbr cMbr (.ag [.s a, .n .i64 b, .n .i64 c, .n .i64 d, .n .i64 e, .n .i64 f, .s g, .s h]) = True) :=
  ⟨fun a b c d e f g h => eq_true (okP ⟨a, b, c, d, e, f, g, h⟩), fun a b c d e f g h => eq_true (okT ⟨a, b, c, d, e, f, g, h⟩), fun a b c d e f g h => eq_true (okBr ⟨a, b, c, d, e, f, g, h⟩)⟩
theorem cPd : (∀ k a b k2 c k3 d k4 e k5 f g h, cStp (.ag [.n k a, .s b, .n k2 c, .n k3 d, .n k4 e, .n k5 f, .s g, .s h]) = ⟨a, b, c, d, e, f, g, h⟩) ∧ (∀ a k b k2 c k3 d k4 e k5 f k6 g h, cStt (.ag [.s a, .n k b, .n k2 c, .n k3 d, .n k4 e, .n k5 f, .n k6 g, .s h]) = ⟨a, b, c, d, e, f, g, h⟩) ∧ (∀ a k b k2 c k3 d k4 e k5 f g h, cMbr (.ag [.s a, .n k b, .n k2 c, .n k3 d, .n k4 e, .n k5 f, .s g, .s h]) = ⟨a, b, c, d, e, f, g, h⟩) :=
  ⟨fun _ _ _ _ _ _ _ _ _ _ _ _ _ => rfl, fun _ _ _ _ _ _ _ _ _ _ _ _ _ _ => rfl, fun _ _ _ _ _ _ _ _ _ _ _ _ _ => rfl⟩
theorem rDo : (∀ l, rM l = .row 30 5 Man dMn l eMan cMan) ∧ (∀ l, rSh l = .row 61 3 Shr dS l eShr cShr) := ⟨fun _ => rfl, fun _ => rfl⟩
theorem okM (m : Man) : okE 5 eMan cMan (eMan m) := ⟨by rw [cMan_e], rfl, rfl, fun _ => rfl⟩
theorem okSh (m : Shr) : okE 3 eShr cShr (eShr m) := ⟨rfl, rfl, rfl, fun _ => rfl⟩
theorem eokO : (∀ a b n c e, okE 5 eMan cMan (.ag [.s a, .s b, .sl 3 Rul dR n eRul, .sl 3 Rul dR c eRul, .sl 5 Ent dE e eEnt]) = True) ∧ (∀ a b c, okE 3 eShr cShr (.ag [.s a, .n .i64 b, .b c]) = True) := ⟨fun a b n c e => eq_true (okM ⟨a, b, n, c, e⟩), fun a b c => eq_true (okSh ⟨a, b, c⟩)⟩
theorem cSo : (∀ a b n c e, cMan (.ag [.s a, .s b, .sl 3 Rul dR n eRul, .sl 3 Rul dR c eRul, .sl 5 Ent dE e eEnt]) = ⟨a, b, n, c, e⟩) ∧ (∀ a k b c, cShr (.ag [.s a, .n k b, .b c]) = ⟨a, b, c⟩) := ⟨fun a b n c e => cMan_e ⟨a, b, n, c, e⟩, fun _ _ _ _ => rfl⟩
theorem rDs : (∀ l, rS l = .row 9 1 (List UInt8) [] l .s cS) ∧ (∀ l, rR l = .row 76 3 Rul dR l eRul cRul) ∧ (∀ l, rE l = .row 53 5 Ent dE l eEnt cEnt) ∧ (∀ l, rB l = .row 5 1 UInt8 0 l eB cB) := ⟨fun _ => rfl, fun _ => rfl, fun _ => rfl, fun _ => rfl⟩
theorem okR (v : Rul) : okE 3 eRul cRul (eRul v) := ⟨rfl, rfl, rfl, fun _ => rfl⟩
theorem okEn (v : Ent) : okE 5 eEnt cEnt (eEnt v) := ⟨rfl, rfl, rfl, fun _ => rfl⟩
theorem eok : (∀ v, okE 1 V.s cS (V.s v) = True) ∧ (∀ a b c, okE 3 eRul cRul (.ag [.s a, .n .i64 b, .s c]) = True) ∧ (∀ a b c d e, okE 5 eEnt cEnt (.ag [.n .i64 a, .n .i64 b, .s c, .s d, .s e]) = True) ∧ (∀ c : UInt8, okE 1 eB cB (.n .u8 (c.toNat : Int)) = True) ∧ (∀ c : Int, okE 1 eB cB (.n .u8 (IntKind.wrap .u8 c)) = True) :=
  ⟨fun v => eq_true (okS v), fun a b c => eq_true (okR ⟨a, b, c⟩), fun a b c d e => eq_true (okEn ⟨a, b, c, d, e⟩), fun c => eq_true (okB c), fun c => eq_true (okU c)⟩
theorem rowc {T z : Nat} {α : Type} {d : α} {l l' : List α} {e : α → V} {c : V → α} (h : l = l') : Bk.row T z α d l e c = Bk.row T z α d l' e c := by rw [h]
theorem cSd : (∀ l, cS (.s l) = l) ∧ (∀ a k b c, cRul (.ag [.s a, .n k b, .s c]) = ⟨a, b, c⟩) ∧ (∀ k a k' b c d e, cEnt (.ag [.n k a, .n k' b, .s c, .s d, .s e]) = ⟨a, b, c, d, e⟩) := ⟨fun _ => rfl, fun _ _ _ _ => rfl, fun _ _ _ _ _ _ _ => rfl⟩
theorem fxM : sz Tryz.prog 9 = some 1 ∧ agT Tryz.prog 9 = false ∧ (Tryz.prog.underlying 9).isSome = true ∧ bys Tryz.prog 9 = some 16 ∧ zc Tryz.prog 9 = some [.s []] ∧ strT Tryz.prog 9 = true ∧ ik Tryz.prog 9 = none ∧ sz Tryz.prog 3 = some 1 ∧ agT Tryz.prog 3 = false ∧ (Tryz.prog.underlying 3).isSome = true ∧ bys Tryz.prog 3 = some 8 ∧ zc Tryz.prog 3 = some [.n .i64 0] ∧ ik Tryz.prog 3 = some .i64 ∧ sz Tryz.prog 4 = some 1 ∧ agT Tryz.prog 4 = false ∧ (Tryz.prog.underlying 4).isSome = true ∧ bys Tryz.prog 4 = some 1 ∧ zc Tryz.prog 4 = some [.b false] ∧ blT Tryz.prog 4 = true ∧ sz Tryz.prog 5 = some 1 ∧ agT Tryz.prog 5 = false ∧ (Tryz.prog.underlying 5).isSome = true ∧ bys Tryz.prog 5 = some 1 ∧ zc Tryz.prog 5 = some [.n .u8 0] ∧ ik Tryz.prog 5 = some .u8 ∧ sz Tryz.prog 21 = some 1 ∧ agT Tryz.prog 21 = false ∧ (Tryz.prog.underlying 21).isSome = true ∧ bys Tryz.prog 21 = some 4 ∧ zc Tryz.prog 21 = some [.n .i32 0] ∧ ik Tryz.prog 21 = some .i32 ∧ sz Tryz.prog 39 = some 1 ∧ agT Tryz.prog 39 = false ∧ (Tryz.prog.underlying 39).isSome = true ∧ bys Tryz.prog 39 = some 8 ∧ zc Tryz.prog 39 = some [.n .i64 0] ∧ ik Tryz.prog 39 = some .i64 ∧ sz Tryz.prog 63 = some 1 ∧ agT Tryz.prog 63 = false ∧ (Tryz.prog.underlying 63).isSome = true ∧ bys Tryz.prog 63 = some 24 ∧ zc Tryz.prog 63 = some [.nl] ∧ sle Tryz.prog 63 = some 9 ∧ (sle Tryz.prog 63).isSome = true ∧ sz Tryz.prog 76 = some 3 ∧ agT Tryz.prog 76 = true ∧ (Tryz.prog.underlying 76).isSome = true ∧ bys Tryz.prog 76 = some 40 ∧ zc Tryz.prog 76 = some [.s [], .n .i64 0, .s []] ∧ zv Tryz.prog 76 = .ag [.s [], .n .i64 0, .s []] ∧ cncT Tryz.prog 76 = true ∧ Tryz.prog.concrete 76 = true ∧ fld Tryz.prog 76 0 = some (0, false, 1) ∧ fld Tryz.prog 76 1 = some (1, false, 1) ∧ fld Tryz.prog 76 2 = some (2, false, 1) ∧ plc Tryz.prog 76 = some [(0, 1), (1, 1), (2, 1)] ∧ sz Tryz.prog 53 = some 5 ∧ agT Tryz.prog 53 = true ∧ (Tryz.prog.underlying 53).isSome = true ∧ bys Tryz.prog 53 = some 64 ∧ zc Tryz.prog 53 = some [.n .i64 0, .n .i64 0, .s [], .s [], .s []] ∧ zv Tryz.prog 53 = .ag [.n .i64 0, .n .i64 0, .s [], .s [], .s []] ∧ cncT Tryz.prog 53 = true ∧ Tryz.prog.concrete 53 = true ∧ fld Tryz.prog 53 0 = some (0, false, 1) ∧ fld Tryz.prog 53 1 = some (1, false, 1) ∧ fld Tryz.prog 53 2 = some (2, false, 1) ∧ fld Tryz.prog 53 3 = some (3, false, 1) ∧ fld Tryz.prog 53 4 = some (4, false, 1) ∧ plc Tryz.prog 53 = some [(0, 1), (1, 1), (2, 1), (3, 1), (4, 1)] ∧ sz Tryz.prog 30 = some 5 ∧ agT Tryz.prog 30 = true ∧ (Tryz.prog.underlying 30).isSome = true ∧ bys Tryz.prog 30 = some 104 ∧ zc Tryz.prog 30 = some [.s [], .s [], .nl, .nl, .nl] ∧ zv Tryz.prog 30 = .ag [.s [], .s [], .nl, .nl, .nl] ∧ cncT Tryz.prog 30 = true ∧ Tryz.prog.concrete 30 = true ∧ fld Tryz.prog 30 0 = some (0, false, 1) ∧ fld Tryz.prog 30 1 = some (1, false, 1) ∧ fld Tryz.prog 30 2 = some (2, false, 1) ∧ fld Tryz.prog 30 3 = some (3, false, 1) ∧ fld Tryz.prog 30 4 = some (4, false, 1) ∧ plc Tryz.prog 30 = some [(0, 1), (1, 1), (2, 1), (3, 1), (4, 1)] ∧ sz Tryz.prog 27 = some 1 ∧ agT Tryz.prog 27 = false ∧ (Tryz.prog.underlying 27).isSome = true ∧ bys Tryz.prog 27 = some 24 ∧ zc Tryz.prog 27 = some [.nl] ∧ sle Tryz.prog 27 = some 76 ∧ (sle Tryz.prog 27).isSome = true ∧ sz Tryz.prog 28 = some 1 ∧ agT Tryz.prog 28 = false ∧ (Tryz.prog.underlying 28).isSome = true ∧ bys Tryz.prog 28 = some 24 ∧ zc Tryz.prog 28 = some [.nl] ∧ sle Tryz.prog 28 = some 53 ∧ (sle Tryz.prog 28).isSome = true ∧ sz Tryz.prog 61 = some 3 ∧ agT Tryz.prog 61 = true ∧ (Tryz.prog.underlying 61).isSome = true ∧ bys Tryz.prog 61 = some 32 ∧ zc Tryz.prog 61 = some [.s [], .n .i64 0, .b false] ∧ zv Tryz.prog 61 = .ag [.s [], .n .i64 0, .b false] ∧ cncT Tryz.prog 61 = true ∧ Tryz.prog.concrete 61 = true ∧ fld Tryz.prog 61 0 = some (0, false, 1) ∧ fld Tryz.prog 61 1 = some (1, false, 1) ∧ fld Tryz.prog 61 2 = some (2, false, 1) ∧ plc Tryz.prog 61 = some [(0, 1), (1, 1), (2, 1)] ∧ sz Tryz.prog 25 = some 2 ∧ agT Tryz.prog 25 = true ∧ (Tryz.prog.underlying 25).isSome = true ∧ bys Tryz.prog 25 = some 48 ∧ zc Tryz.prog 25 = some [.nl, .nl] ∧ zv Tryz.prog 25 = .ag [.nl, .nl] ∧ cncT Tryz.prog 25 = true ∧ Tryz.prog.concrete 25 = true ∧ fld Tryz.prog 25 0 = some (0, false, 1) ∧ fld Tryz.prog 25 1 = some (1, false, 1) ∧ plc Tryz.prog 25 = some [(0, 1), (1, 1)] ∧ sz Tryz.prog 22 = some 1 ∧ agT Tryz.prog 22 = false ∧ (Tryz.prog.underlying 22).isSome = true ∧ bys Tryz.prog 22 = some 24 ∧ zc Tryz.prog 22 = some [.nl] ∧ sle Tryz.prog 22 = some 30 ∧ (sle Tryz.prog 22).isSome = true ∧ sz Tryz.prog 23 = some 1 ∧ agT Tryz.prog 23 = false ∧ (Tryz.prog.underlying 23).isSome = true ∧ bys Tryz.prog 23 = some 24 ∧ zc Tryz.prog 23 = some [.nl] ∧ sle Tryz.prog 23 = some 61 ∧ (sle Tryz.prog 23).isSome = true :=
  ⟨by kernel_rfl, by kernel_rfl, by kernel_rfl, by kernel_rfl, by kernel_rfl, by kernel_rfl, by kernel_rfl, by kernel_rfl, by kernel_rfl, by kernel_rfl, by kernel_rfl, by kernel_rfl, by kernel_rfl, by kernel_rfl, by kernel_rfl, by kernel_rfl, by kernel_rfl, by kernel_rfl, by kernel_rfl, by kernel_rfl, by kernel_rfl, by kernel_rfl, by kernel_rfl, by kernel_rfl, by kernel_rfl, by kernel_rfl, by kernel_rfl, by kernel_rfl, by kernel_rfl, by kernel_rfl, by kernel_rfl, by kernel_rfl, by kernel_rfl, by kernel_rfl, by kernel_rfl, by kernel_rfl, by kernel_rfl, by kernel_rfl, by kernel_rfl, by kernel_rfl, by kernel_rfl, by kernel_rfl, by kernel_rfl, by kernel_rfl, by kernel_rfl, by kernel_rfl, by kernel_rfl, by kernel_rfl, by kernel_rfl, by kernel_rfl, by kernel_rfl, by kernel_rfl, by kernel_rfl, by kernel_rfl, by kernel_rfl, by kernel_rfl, by kernel_rfl, by kernel_rfl, by kernel_rfl, by kernel_rfl, by kernel_rfl, by kernel_rfl, by kernel_rfl, by kernel_rfl, by kernel_rfl, by kernel_rfl, by kernel_rfl, by kernel_rfl, by kernel_rfl, by kernel_rfl, by kernel_rfl, by kernel_rfl, by kernel_rfl, by kernel_rfl, by kernel_rfl, by kernel_rfl, by kernel_rfl, by kernel_rfl, by kernel_rfl, by kernel_rfl, by kernel_rfl, by kernel_rfl, by kernel_rfl, by kernel_rfl, by kernel_rfl, by kernel_rfl, by kernel_rfl, by kernel_rfl, by kernel_rfl, by kernel_rfl, by kernel_rfl, by kernel_rfl, by kernel_rfl, by kernel_rfl, by kernel_rfl, by kernel_rfl, by kernel_rfl, by kernel_rfl, by kernel_rfl, by kernel_rfl, by kernel_rfl, by kernel_rfl, by kernel_rfl, by kernel_rfl, by kernel_rfl, by kernel_rfl, by kernel_rfl, by kernel_rfl, by kernel_rfl, by kernel_rfl, by kernel_rfl, by kernel_rfl, by kernel_rfl, by kernel_rfl, by kernel_rfl, by kernel_rfl, by kernel_rfl, by kernel_rfl, by kernel_rfl, by kernel_rfl, by kernel_rfl, by kernel_rfl, by kernel_rfl, by kernel_rfl, by kernel_rfl, by kernel_rfl, by kernel_rfl, by kernel_rfl, by kernel_rfl, by kernel_rfl, by kernel_rfl, by kernel_rfl, by kernel_rfl, by kernel_rfl, by kernel_rfl⟩
theorem fxP : sz Tryz.prog 55 = some 8 ∧ agT Tryz.prog 55 = true ∧ (Tryz.prog.underlying 55).isSome = true ∧ bys Tryz.prog 55 = some 80 ∧ zc Tryz.prog 55 = some [.s [], .n .i64 0, .n .i64 0, .n .i64 0, .n .i64 0, .n .i64 0, .n .i64 0, .s []] ∧ zv Tryz.prog 55 = .ag [.s [], .n .i64 0, .n .i64 0, .n .i64 0, .n .i64 0, .n .i64 0, .n .i64 0, .s []] ∧ cncT Tryz.prog 55 = true ∧ Tryz.prog.concrete 55 = true ∧ fld Tryz.prog 55 0 = some (0, false, 1) ∧ fld Tryz.prog 55 1 = some (1, false, 1) ∧ fld Tryz.prog 55 2 = some (2, false, 1) ∧ fld Tryz.prog 55 3 = some (3, false, 1) ∧ fld Tryz.prog 55 4 = some (4, false, 1) ∧ fld Tryz.prog 55 5 = some (5, false, 1) ∧ fld Tryz.prog 55 6 = some (6, false, 1) ∧ fld Tryz.prog 55 7 = some (7, false, 1) ∧ plc Tryz.prog 55 = some [(0, 1), (1, 1), (2, 1), (3, 1), (4, 1), (5, 1), (6, 1), (7, 1)] ∧ sz Tryz.prog 26 = some 1 ∧ agT Tryz.prog 26 = false ∧ (Tryz.prog.underlying 26).isSome = true ∧ bys Tryz.prog 26 = some 24 ∧ zc Tryz.prog 26 = some [.nl] ∧ sle Tryz.prog 26 = some 55 ∧ (sle Tryz.prog 26).isSome = true ∧ sz Tryz.prog 59 = some 8 ∧ agT Tryz.prog 59 = true ∧ (Tryz.prog.underlying 59).isSome = true ∧ bys Tryz.prog 59 = some 88 ∧ zc Tryz.prog 59 = some [.s [], .n .i64 0, .n .i64 0, .n .i64 0, .n .i64 0, .n .i64 0, .s [], .s []] ∧ zv Tryz.prog 59 = .ag [.s [], .n .i64 0, .n .i64 0, .n .i64 0, .n .i64 0, .n .i64 0, .s [], .s []] ∧ cncT Tryz.prog 59 = true ∧ Tryz.prog.concrete 59 = true ∧ fld Tryz.prog 59 0 = some (0, false, 1) ∧ fld Tryz.prog 59 1 = some (1, false, 1) ∧ fld Tryz.prog 59 2 = some (2, false, 1) ∧ fld Tryz.prog 59 3 = some (3, false, 1) ∧ fld Tryz.prog 59 4 = some (4, false, 1) ∧ fld Tryz.prog 59 5 = some (5, false, 1) ∧ fld Tryz.prog 59 6 = some (6, false, 1) ∧ fld Tryz.prog 59 7 = some (7, false, 1) ∧ plc Tryz.prog 59 = some [(0, 1), (1, 1), (2, 1), (3, 1), (4, 1), (5, 1), (6, 1), (7, 1)] ∧ sz Tryz.prog 31 = some 1 ∧ agT Tryz.prog 31 = false ∧ (Tryz.prog.underlying 31).isSome = true ∧ bys Tryz.prog 31 = some 24 ∧ zc Tryz.prog 31 = some [.nl] ∧ sle Tryz.prog 31 = some 59 ∧ (sle Tryz.prog 31).isSome = true ∧ sz Tryz.prog 46 = some 8 ∧ agT Tryz.prog 46 = true ∧ (Tryz.prog.underlying 46).isSome = true ∧ bys Tryz.prog 46 = some 88 ∧ zc Tryz.prog 46 = some [.n .i64 0, .s [], .n .i64 0, .n .i64 0, .n .i64 0, .n .i64 0, .s [], .s []] ∧ zv Tryz.prog 46 = .ag [.n .i64 0, .s [], .n .i64 0, .n .i64 0, .n .i64 0, .n .i64 0, .s [], .s []] ∧ cncT Tryz.prog 46 = true ∧ Tryz.prog.concrete 46 = true ∧ fld Tryz.prog 46 0 = some (0, false, 1) ∧ fld Tryz.prog 46 1 = some (1, false, 1) ∧ fld Tryz.prog 46 2 = some (2, false, 1) ∧ fld Tryz.prog 46 3 = some (3, false, 1) ∧ fld Tryz.prog 46 4 = some (4, false, 1) ∧ fld Tryz.prog 46 5 = some (5, false, 1) ∧ fld Tryz.prog 46 6 = some (6, false, 1) ∧ fld Tryz.prog 46 7 = some (7, false, 1) ∧ plc Tryz.prog 46 = some [(0, 1), (1, 1), (2, 1), (3, 1), (4, 1), (5, 1), (6, 1), (7, 1)] ∧ sz Tryz.prog 38 = some 1 ∧ agT Tryz.prog 38 = false ∧ (Tryz.prog.underlying 38).isSome = true ∧ bys Tryz.prog 38 = some 24 ∧ zc Tryz.prog 38 = some [.nl] ∧ sle Tryz.prog 38 = some 46 ∧ (sle Tryz.prog 38).isSome = true ∧ sz Tryz.prog 65 = some 15 ∧ agT Tryz.prog 65 = true ∧ (Tryz.prog.underlying 65).isSome = true ∧ bys Tryz.prog 65 = some 328 ∧ zc Tryz.prog 65 = some [.nl, .nl, .nl, .s [], .s [], .nl, .nl, .nl, .s [], .s [], .nl, .nl, .nl, .nl, .nl] ∧ zv Tryz.prog 65 = .ag [.nl, .nl, .nl, .s [], .s [], .nl, .nl, .nl, .s [], .s [], .nl, .nl, .nl, .nl, .nl] ∧ cncT Tryz.prog 65 = true ∧ Tryz.prog.concrete 65 = true ∧ fld Tryz.prog 65 0 = some (0, true, 2) ∧ fld Tryz.prog 65 1 = some (2, false, 1) ∧ fld Tryz.prog 65 2 = some (3, true, 5) ∧ fld Tryz.prog 65 3 = some (8, true, 5) ∧ fld Tryz.prog 65 4 = some (13, false, 1) ∧ fld Tryz.prog 65 5 = some (14, false, 1) ∧ plc Tryz.prog 65 = some [(0, 2), (2, 1), (3, 5), (8, 5), (13, 1), (14, 1)] ∧ sz Tryz.prog 62 = some 1 ∧ agT Tryz.prog 62 = false ∧ (Tryz.prog.underlying 62).isSome = true ∧ bys Tryz.prog 62 = some 8 ∧ zc Tryz.prog 62 = some [.pn] ∧ sz Tryz.prog 33 = some 9 ∧ agT Tryz.prog 33 = true ∧ (Tryz.prog.underlying 33).isSome = true ∧ bys Tryz.prog 33 = some 200 ∧ zc Tryz.prog 33 = some [.nl, .nl, .nl, .s [], .s [], .nl, .nl, .nl, .nl] ∧ zv Tryz.prog 33 = .ag [.nl, .nl, .nl, .s [], .s [], .nl, .nl, .nl, .nl] ∧ cncT Tryz.prog 33 = true ∧ Tryz.prog.concrete 33 = true ∧ fld Tryz.prog 33 0 = some (0, true, 2) ∧ fld Tryz.prog 33 1 = some (2, false, 1) ∧ fld Tryz.prog 33 2 = some (3, true, 5) ∧ fld Tryz.prog 33 3 = some (8, false, 1) ∧ plc Tryz.prog 33 = some [(0, 2), (2, 1), (3, 5), (8, 1)] :=
  ⟨by kernel_rfl, by kernel_rfl, by kernel_rfl, by kernel_rfl, by kernel_rfl, by kernel_rfl, by kernel_rfl, by kernel_rfl, by kernel_rfl, by kernel_rfl, by kernel_rfl, by kernel_rfl, by kernel_rfl, by kernel_rfl, by kernel_rfl, by kernel_rfl, by kernel_rfl, by kernel_rfl, by kernel_rfl, by kernel_rfl, by kernel_rfl, by kernel_rfl, by kernel_rfl, by kernel_rfl, by kernel_rfl, by kernel_rfl, by kernel_rfl, by kernel_rfl, by kernel_rfl, by kernel_rfl, by kernel_rfl, by kernel_rfl, by kernel_rfl, by kernel_rfl, by kernel_rfl, by kernel_rfl, by kernel_rfl, by kernel_rfl, by kernel_rfl, by kernel_rfl, by kernel_rfl, by kernel_rfl, by kernel_rfl, by kernel_rfl, by kernel_rfl, by kernel_rfl, by kernel_rfl, by kernel_rfl, by kernel_rfl, by kernel_rfl, by kernel_rfl, by kernel_rfl, by kernel_rfl, by kernel_rfl, by kernel_rfl, by kernel_rfl, by kernel_rfl, by kernel_rfl, by kernel_rfl, by kernel_rfl, by kernel_rfl, by kernel_rfl, by kernel_rfl, by kernel_rfl, by kernel_rfl, by kernel_rfl, by kernel_rfl, by kernel_rfl, by kernel_rfl, by kernel_rfl, by kernel_rfl, by kernel_rfl, by kernel_rfl, by kernel_rfl, by kernel_rfl, by kernel_rfl, by kernel_rfl, by kernel_rfl, by kernel_rfl, by kernel_rfl, by kernel_rfl, by kernel_rfl, by kernel_rfl, by kernel_rfl, by kernel_rfl, by kernel_rfl, by kernel_rfl, by kernel_rfl, by kernel_rfl, by kernel_rfl, by kernel_rfl, by kernel_rfl, by kernel_rfl, by kernel_rfl, by kernel_rfl, by kernel_rfl, by kernel_rfl, by kernel_rfl, by kernel_rfl, by kernel_rfl, by kernel_rfl, by kernel_rfl, by kernel_rfl, by kernel_rfl, by kernel_rfl⟩
theorem gm {p q : Prop} (hq : q) (h : p ↔ q := by simp (config := { maxSteps := 10000000 }) (disch := omega) only [fxM, cSd, wrc, eRd, eEd, eMd, eBd, eEE, rDs, eok, true_implies, eo5, ev5, Nat.mul_one, Nat.zero_mul, Nat.one_mul, Nat.add_zero, lenl, bne_self_eq_false, Int.reduceLT, Int.reduceLE, Int.reduceEq, Int.reduceNe, Int.reduceAdd, Int.reduceSub, Int.reduceMul, Int.reduceNeg, ebr, wr64, sdl, ler, true_or, or_true, rng, List.length_map, List.length_range, List.length_append, List.length_replicate, List.length_set, List.length_take, List.length_drop, List.not_mem_nil, false_implies, implies_true, ↓ec, ↓eg, ↓eo, ↓eox, ↓es, ↓et1, em, emR, efz, enl, ebx, ebt, et, ev, List.drop_nil, Option.some.injEq, Option.isSome_none, Int.reduceToNat, List.replicate_zero, Bool.or_self, ez, ef, ebd, et2, Int.toNat_natCast, Option.map_none, Option.map_some, List.all_cons, List.all_nil, Bool.and_self, List.cons_append, List.nil_append, List.append_nil, List.append_assoc, ep, ew, Option.isSome_some, id_eq, Nat.reduceLT, Nat.reduceSub, Bool.false_or, Bool.true_or, Bool.or_true, Bool.true_and, Bool.and_true, reduceCtorEq, Nat.reduceBEq, Bool.true_eq_false, Bool.false_eq_true, List.map_cons, List.map_nil, List.take_succ_cons, List.take_zero, List.drop_succ_cons, List.drop_zero, List.length_cons, List.length_nil, Nat.zero_add, Nat.reduceAdd, Nat.reduceLeDiff, Bool.not_true, Bool.not_false, List.getElem?_cons_succ, List.getElem?_cons_zero, Option.bind_some, ne_eq, not_false_eq_true, ↓eh1, eh, en, List.getD_cons_zero, List.getD_cons_succ, Nat.reduceEqDiff, ↓reduceIte, cond_true, cond_false, Bool.or_false, decide_true, decide_false, true_and, and_true, decide_eq_true_eq, decide_eq_false_iff_not, Bool.not_eq_true', Bool.not_eq_false', not_true_eq_false, Decidable.not_not]; exact Iff.rfl) : p := h.2 hq
theorem eSdD : (0 : Nat) = 0 := rfl
theorem eSd_men (a b : Nat) : True := trivial
end Go.Proofs.YtjbnmeofjiokeaaGreatDoor.Ev
namespace Go.Proofs.YtjbnmeofjiokeaaGreatDoor.Ev
open Go.RowKit
open Go.Proofs.YtjbnmeofjiokeaaGreatDoor.Mem
set_option linter.unusedVariables false
set_option linter.unusedSimpArgs false
set_option maxRecDepth 100000
/-- May that rune be a part's? -/
def signN (r : Nat) : Bool := decide (32 < r) && decide (r ≠ 47) && decide (r ≠ 127) && (decide (r < 128) || decide (159 < r))
theorem signN_of {b : Bool} {r : Nat} (h : b = true ↔ (32 < r ∧ r ≠ 47 ∧ r ≠ 127 ∧ (r < 128 ∨ 159 < r))) : b = signN r := by
  rw [Bool.eq_iff_iff, h]
  simp [signN, and_assoc]
theorem sign_ok (r : Nat) : Spec Tryz.prog LL 148 [.n .i32 (r : Int)] (.b (signN r)) := by
  refine spec_of (C := ⟨Tryz.prog, LL, EE, []⟩) (rl := [.b (signN r)]) (rs := [.tmp 2]) CCx LLs Tryz.func148 rfl (by kernel_rfl) rfl (by kernel_rfl) (Nat.le_of_ble_eq_true rfl) (fun i => rfl) (fun i => by first | rfl | exact (Bool.or_false _).trans (eSd_men _ _)) rfl (by decide) ?_
  refine gm ?_
  repeat' (first | exact True.intro | (exact signN_of (by simp; omega)) | refine br (fun h => ?_) (fun h => ?_) | refine gm ?_)
/-- Of each rune of a text from a place on. -/
def runs (f : Nat → Bool) (s : List UInt8) (p : Nat) : Bool := if h : p < s.length then f (dec s p).1 && runs f s (p + (dec s p).2) else true
termination_by s.length - p
decreasing_by have := dec_pos s p; omega
theorem runs_lt {f : Nat → Bool} {s : List UInt8} {p : Nat} (h : p < s.length) : runs f s p = (f (dec s p).1 && runs f s (p + (dec s p).2)) := by rw [runs, dif_pos h]
theorem runs_ge {f : Nat → Bool} {s : List UInt8} {p : Nat} (h : ¬ p < s.length) : runs f s p = true := by rw [runs, dif_neg h]
def sgF (sl : Bool) (r : Nat) : Bool := signN r || (sl && decide (r = 47))
def signsB (s : List UInt8) (sl : Bool) : Bool := Lib.validD s && runs (sgF sl) s 0
theorem signs_ok (s : List UInt8) (sl : Bool) (hs : s.length ≤ 1000000) : Spec Tryz.prog LL 131 [.s s, .b sl] (.b (signsB s sl)) := by
  refine spec_of (C := ⟨Tryz.prog, LL, EE, []⟩) (rl := [.b (signsB s sl)]) (rs := [.tmp 4]) CCx LLs Tryz.func131 rfl (by kernel_rfl) rfl (by kernel_rfl) (Nat.le_of_ble_eq_true rfl) (fun i => rfl) (fun i => by first | rfl | exact (Bool.or_false _).trans (eSd_men _ _)) rfl (by decide) ?_
  refine gm ?_
  refine cl (valid_ok s (by omega)) ?_
  refine gm ?_
  refine br (fun v => ?_) (fun v => ?_)
  · try refine gm ?_
    simp [signsB, v]
  · try refine gm ?_
    refine lp_hd [1] [] (fun p : Nat => [(11, .p 11 0)]) (fun p : Nat => [(11, .itr s p)]) (fun p : Nat => p ≤ s.length ∧ runs (sgF sl) s 0 = runs (sgF sl) s p) (fun p : Nat => s.length - p) (0) id (id) ⟨Nat.zero_le _, rfl⟩ (fits_of (gm ?_) (gm ?_) (gm ?_) (gm ?_) (gm ?_)) ?_
    · first | exact True.intro | exact ⟨rfl, rfl⟩ | exact ⟨rfl, rfl, rfl⟩ | rfl | exact rowc (List.map_id _) | trivial
    · first | exact True.intro | exact ⟨rfl, rfl⟩ | exact ⟨rfl, rfl, rfl⟩ | rfl | exact rowc (List.map_id _) | trivial
    · first | exact True.intro | exact ⟨rfl, rfl⟩ | exact ⟨rfl, rfl, rfl⟩ | rfl | exact rowc (List.map_id _) | trivial
    · first | exact True.intro | exact ⟨rfl, rfl⟩ | exact ⟨rfl, rfl, rfl⟩ | rfl | exact rowc (List.map_id _) | trivial
    · first | exact True.intro | exact ⟨rfl, rfl⟩ | exact ⟨rfl, rfl, rfl⟩ | rfl | exact rowc (List.map_id _) | trivial
    rintro p ⟨hp, hr⟩
    try refine gm ?_
    refine br (fun b => ?_) (fun b => ?_)
    · have h1 := dec_pos s p
      have h2 := dec_le s p b
      rw [runs_lt b] at hr
      have no : sgF sl (dec s p).1 = false → false = signsB s sl := fun e => by rw [signsB, hr, e]; simp
      have yes : sgF sl (dec s p).1 = true → runs (sgF sl) s 0 = runs (sgF sl) s (p + (dec s p).2) := fun e => by rw [hr, e]; simp
      try refine gm ?_
      refine cl (sign_ok _) ?_
      refine gm ?_
      repeat' (first | exact True.intro | (exact no (by clear no yes hr; simp_all [sgF] <;> omega)) | (refine ⟨p + (dec s p).2, ⟨h2, yes (by clear no yes hr; simp_all [sgF] <;> omega)⟩, (by omega), fits_of (gm ?_) (gm ?_) (gm ?_) (gm ?_) (gm ?_)⟩ <;> (first | exact True.intro | exact ⟨rfl, rfl⟩ | exact ⟨rfl, rfl, rfl⟩ | rfl | exact rowc (List.map_id _) | trivial); done) | refine br (fun h => ?_) (fun h => ?_) | refine gm ?_)
    · try refine gm ?_
      rw [runs_ge b] at hr
      simp [signsB, hr, v]
def partB (x : List UInt8) : Bool := decide (1 ≤ x.length) && decide (x.length ≤ 64) && decide (x ≠ [46]) && decide (x ≠ [46, 46]) && signsB x false
theorem part_ok (s : List UInt8) (hs : s.length ≤ 140737488355328) : Spec Tryz.prog LL 111 [.s s] (.b (partB s)) := by
  refine spec_of (C := ⟨Tryz.prog, LL, EE, []⟩) (rl := [.b (partB s)]) (rs := [.tmp 2]) CCx LLs Tryz.func111 rfl (by kernel_rfl) rfl (by kernel_rfl) (Nat.le_of_ble_eq_true rfl) (fun i => rfl) (fun i => by first | rfl | exact (Bool.or_false _).trans (eSd_men _ _)) rfl (by decide) ?_
  refine gm ?_
  repeat' (first | exact True.intro | (simp_all [partB]; done) | (simp_all [partB]; omega) | refine cl (signs_ok s false (by omega)) (gm ?_) | refine br (fun h => ?_) (fun h => ?_) | refine gm ?_)
theorem own_ok  : Spec Tryz.prog LL 137 [] (.s [46, 104, 111, 108, 100, 97, 108, 108]) := by
  refine spec_of (C := ⟨Tryz.prog, LL, EE, []⟩) (rl := [.s [46, 104, 111, 108, 100, 97, 108, 108]]) (rs := [.tmp 0]) CCx LLs Tryz.func137 rfl (by kernel_rfl) rfl (by kernel_rfl) (Nat.le_of_ble_eq_true rfl) (fun i => rfl) (fun i => by first | rfl | exact (Bool.or_false _).trans (eSd_men _ _)) rfl (by decide) ?_
  refine gm ?_
  trivial
/-- A path's parts, or what is wrong with it. -/
def partsM (s : List UInt8) : List (List UInt8) × Int :=
  if 200 < s.length then ([], 3) else if ¬ (sp 47 s).all partB then ([], 4) else if 16 < (sp 47 s).length then ([], 3) else (sp 47 s, 0)
theorem sp_sum (c : UInt8) : ∀ s x, x ∈ sp c s → x.length ≤ s.length
  | [], x, h => by simp [sp] at h; subst h; simp
  | b :: r, x, h => by
    unfold sp at h
    split at h
    · rcases List.mem_cons.1 h with rfl | h
      · simp
      · have := sp_sum c r x h; simp; omega
    · rcases List.mem_cons.1 h with rfl | h
      · have := sp_ne c r
        obtain ⟨y, l, e⟩ := List.exists_cons_of_ne_nil this
        have := sp_sum c r y (by rw [e]; simp)
        rw [e]
        simp
        omega
      · have := sp_sum c r x (List.mem_of_mem_tail h); simp; omega
theorem parts2_ok (s : List UInt8) (hs : s.length ≤ 281474976710656) : Spec Tryz.prog LL 94 [.s s] (.tp [.sl 1 (List UInt8) [] (partsM s).1 .s, .n .i64 (partsM s).2]) := by
  refine spec_of (C := ⟨Tryz.prog, LL, EE, []⟩) (rl := [.sl 1 (List UInt8) [] (partsM s).1 .s, .n .i64 (partsM s).2]) (rs := [.tmp 2, .tmp 3]) CCx LLs Tryz.func94 rfl (by kernel_rfl) rfl (by kernel_rfl) (Nat.le_of_ble_eq_true rfl) (fun i => rfl) (fun i => by first | rfl | exact (Bool.or_false _).trans (eSd_men _ _)) rfl (by decide) ?_
  refine gm ?_
  refine br (fun a => ?_) (fun a => ?_)
  · try refine gm ?_
    rw [show partsM s = ([], 3) from if_pos (by omega)]
    exact ⟨le_nl, rfl⟩
  · have hs2 : s.length ≤ 200 := by omega
    try refine gm ?_
    refine cl (split_ok s 47 (by omega)) ?_
    refine gm ?_
    have hsl := sp_len 47 s
    refine lp_hd [4, 12, 13] [] (fun i : Nat => [(14, .n .i64 (i : Int))]) (fun i : Nat => []) (fun i : Nat => i ≤ (sp 47 s).length ∧ ((sp 47 s).take i).all partB = true) (fun i : Nat => (sp 47 s).length - i) (0) id (id) ⟨Nat.zero_le _, rfl⟩ (fits_of (gm ?_) (gm ?_) (gm ?_) (gm ?_) (gm ?_)) ?_
    · first | exact True.intro | exact ⟨rfl, rfl⟩ | exact ⟨rfl, rfl, rfl⟩ | rfl | exact rowc (List.map_id _) | trivial
    · first | exact True.intro | exact ⟨rfl, rfl⟩ | exact ⟨rfl, rfl, rfl⟩ | rfl | exact rowc (List.map_id _) | trivial
    · first | exact True.intro | exact ⟨rfl, rfl⟩ | exact ⟨rfl, rfl, rfl⟩ | rfl | exact rowc (List.map_id _) | trivial
    · first | exact True.intro | exact ⟨rfl, rfl⟩ | exact ⟨rfl, rfl, rfl⟩ | rfl | exact rowc (List.map_id _) | trivial
    · first | exact True.intro | exact ⟨rfl, rfl⟩ | exact ⟨rfl, rfl, rfl⟩ | rfl | exact rowc (List.map_id _) | trivial
    rintro i ⟨hi, hall⟩
    try refine gm ?_
    refine br (fun b => ?_) (fun b => ?_)
    · try refine gm ?_
      have hm : (sp 47 s).getD i [] ∈ sp 47 s := getD_mem (by omega)
      have hml := sp_sum 47 s _ hm
      refine cl (part_ok ((sp 47 s).getD i []) (by omega)) ?_
      refine gm ?_
      refine br (fun c => ?_) (fun c => ?_)
      · try refine gm ?_
        rw [show partsM s = ([], 4) from (if_neg (by omega)).trans (if_pos (by rw [List.all_eq_true]; intro h; have := h _ hm; rw [c] at this; cases this))]
        exact ⟨le_nl, rfl⟩
      · try refine gm ?_
        refine ⟨i + 1, ⟨by omega, by rw [take_at _ i [] (by omega), List.all_append, hall]; simpa using c⟩, (by omega), fits_of (gm ?_) (gm ?_) (gm ?_) (gm ?_) (gm ?_)⟩
        · first | exact True.intro | exact ⟨rfl, rfl⟩ | exact ⟨rfl, rfl, rfl⟩ | rfl | exact rowc (List.map_id _) | trivial
        · first | exact True.intro | exact ⟨rfl, rfl⟩ | exact ⟨rfl, rfl, rfl⟩ | rfl | exact rowc (List.map_id _) | trivial
        · first | exact True.intro | exact ⟨rfl, rfl⟩ | exact ⟨rfl, rfl, rfl⟩ | rfl | exact rowc (List.map_id _) | trivial
        · first | exact True.intro | exact ⟨rfl, rfl⟩ | exact ⟨rfl, rfl, rfl⟩ | rfl | exact rowc (List.map_id _) | trivial
        · first | exact True.intro | exact ⟨rfl, rfl⟩ | exact ⟨rfl, rfl, rfl⟩ | rfl | exact rowc (List.map_id _) | trivial
    · try refine gm ?_
      rw [List.take_of_length_le (by omega)] at hall
      refine br (fun c => ?_) (fun c => ?_)
      · try refine gm ?_
        rw [show partsM s = ([], 3) from (if_neg (by omega)).trans ((if_neg (by rw [hall]; simp)).trans (if_pos (by omega)))]
        exact ⟨le_nl, rfl⟩
      · try refine gm ?_
        rw [show partsM s = (sp 47 s, 0) from (if_neg (by omega)).trans ((if_neg (by rw [hall]; simp)).trans (if_neg (by omega)))]
        exact ⟨le_refl _, rfl⟩
theorem parts_ok (s : List UInt8) (hs : s.length ≤ 140737488355328) : Spec Tryz.prog LL 94 [.s s] (.tp [.sl 1 (List UInt8) [] (partsM s).1 .s, .n .i64 (partsM s).2]) := parts2_ok s (by omega)
def resB (s : List UInt8) : Bool := decide ((Lib.cut s [47]).1 = [46, 104, 111, 108, 100, 97, 108, 108])
theorem res_ok (s : List UInt8) (hs : s.length ≤ 1000000) : Spec Tryz.prog LL 114 [.s s] (.b (resB s)) := by
  refine spec_of (C := ⟨Tryz.prog, LL, EE, []⟩) (rl := [.b (resB s)]) (rs := [.tmp 2]) CCx LLs Tryz.func114 rfl (by kernel_rfl) rfl (by kernel_rfl) (Nat.le_of_ble_eq_true rfl) (fun i => rfl) (fun i => by first | rfl | exact (Bool.or_false _).trans (eSd_men _ _)) rfl (by decide) ?_
  refine gm ?_
  refine cl (scut_ok s [47] (by omega)) ?_
  refine gm ?_
  refine cl (own_ok) ?_
  refine gm ?_
  rfl
def tarB (s : List UInt8) : Bool := decide (1 ≤ s.length) && decide (s.length ≤ 200) && signsB s true
theorem tar_ok (s : List UInt8) (hs : s.length ≤ 140737488355328) : Spec Tryz.prog LL 115 [.s s] (.b (tarB s)) := by
  refine spec_of (C := ⟨Tryz.prog, LL, EE, []⟩) (rl := [.b (tarB s)]) (rs := [.tmp 2]) CCx LLs Tryz.func115 rfl (by kernel_rfl) rfl (by kernel_rfl) (Nat.le_of_ble_eq_true rfl) (fun i => rfl) (fun i => by first | rfl | exact (Bool.or_false _).trans (eSd_men _ _)) rfl (by decide) ?_
  refine gm ?_
  repeat' (first | exact True.intro | (simp_all [tarB]; done) | (simp_all [tarB]; omega) | refine cl (signs_ok s true (by omega)) (gm ?_) | refine br (fun h => ?_) (fun h => ?_) | refine gm ?_)
def parentM (s : List UInt8) : List UInt8 := if Lib.lastIndexByte (tx s) 47 < 0 then [] else s.take (Lib.lastIndexByte (tx s) 47).toNat
theorem lix_rng (s : List UInt8) (c : Int) : -1 ≤ Lib.lastIndexByte (tx s) c ∧ Lib.lastIndexByte (tx s) c < (s.length : Int) := by
  rcases Lib.lastIndexByte_spec (tx s) c with ⟨h, _⟩ | ⟨i, h1, h2, _⟩
  · rw [h]; omega
  · rw [tx_size] at h1
    rw [h2]; omega
theorem parent_ok (s : List UInt8) (hs : s.length ≤ 1000000) : Spec Tryz.prog LL 101 [.s s] (.s (parentM s)) := by
  refine spec_of (C := ⟨Tryz.prog, LL, EE, []⟩) (rl := [.s (parentM s)]) (rs := [.tmp 2]) CCx LLs Tryz.func101 rfl (by kernel_rfl) rfl (by kernel_rfl) (Nat.le_of_ble_eq_true rfl) (fun i => rfl) (fun i => by first | rfl | exact (Bool.or_false _).trans (eSd_men _ _)) rfl (by decide) ?_
  refine gm ?_
  refine cl (lix_ok s 47 (by omega)) ?_
  refine gm ?_
  have hr := lix_rng s 47
  rw [show ((47 : UInt8).toNat : Int) = 47 from rfl]
  refine br (fun a => ?_) (fun a => ?_)
  · try refine gm ?_
    rw [show parentM s = [] from if_pos a]
  · try refine gm ?_
    rw [show parentM s = _ from if_neg a]
end Go.Proofs.YtjbnmeofjiokeaaGreatDoor.Ev
namespace Go.Proofs.YtjbnmeofjiokeaaGreatDoor.Ev
open Go.RowKit
open Go.Proofs.YtjbnmeofjiokeaaGreatDoor.Mem
set_option linter.unusedVariables false
set_option linter.unusedSimpArgs false
set_option maxRecDepth 100000
/-- Below 128 a rune is its byte. -/
theorem dec_lo (s : List UInt8) (i : Nat) (h : i < s.length) (hb : by' s i < 128) : dec s i = (by' s i, 1) := by
  have hs : i < (tx s).size := by rw [tx_size]; exact h
  have e : ((tx s)[i]'hs).toNat = by' s i := by
    unfold by'
    rw [List.getD_eq_getElem?_getD, List.getElem?_eq_getElem h]
    rfl
  unfold dec
  rw [decode_ascii (tx s) i hs (by rw [e]; exact hb), e]
theorem get_by (s : List UInt8) (i : Nat) : ((tx s).get! i).toNat = by' s i := by
  unfold by'
  show ((tx s).data[i]!).toNat = _
  rw [List.getD_eq_getElem?_getD, getElem!_def]
  simp only [tx, List.getElem?_toArray]
  cases s[i]? <;> rfl
theorem dec_hi (s : List UInt8) (i : Nat) (hb : 128 ≤ by' s i) : 128 ≤ (dec s i).1 := by
  have hb' : ¬ ((tx s).get! (i + 0)).toNat < 128 := by rw [Nat.add_zero, get_by]; omega
  unfold dec Utf8.decode Utf8.runeError
  dsimp only
  rw [if_neg hb']
  repeat' split
  all_goals first | omega | (simp_all; omega)
def digN (r : Nat) : Bool := decide (48 ≤ r) && decide (r ≤ 57)
def letN (r : Nat) : Bool := (decide (97 ≤ r) && decide (r ≤ 122)) || (decide (65 ≤ r) && decide (r ≤ 90))
def lowN (r : Nat) : Bool := decide (97 ≤ r) && decide (r ≤ 122)
theorem vdigit_ok (r : Nat) : Spec Tryz.prog LL 97 [.n .i32 (r : Int)] (.b (digN r)) := by
  refine spec_of (C := ⟨Tryz.prog, LL, EE, []⟩) (rl := [.b (digN r)]) (rs := [.tmp 2]) CCx LLs Tryz.func97 rfl (by kernel_rfl) rfl (by kernel_rfl) (Nat.le_of_ble_eq_true rfl) (fun i => rfl) (fun i => rfl) rfl (by decide) ?_
  refine gm ?_
  repeat' (first | (simp_all [digN]; done) | (simp_all [digN]; omega) | (rw [Bool.eq_iff_iff]; simp [digN]; omega) | refine br (fun h => ?_) (fun h => ?_) | refine gm ?_)
theorem vletter_ok (r : Nat) : Spec Tryz.prog LL 98 [.n .i32 (r : Int)] (.b (letN r)) := by
  refine spec_of (C := ⟨Tryz.prog, LL, EE, []⟩) (rl := [.b (letN r)]) (rs := [.tmp 2]) CCx LLs Tryz.func98 rfl (by kernel_rfl) rfl (by kernel_rfl) (Nat.le_of_ble_eq_true rfl) (fun i => rfl) (fun i => rfl) rfl (by decide) ?_
  refine gm ?_
  repeat' (first | (simp_all [letN]; done) | (simp_all [letN]; omega) | (rw [Bool.eq_iff_iff]; simp [letN]; omega) | refine br (fun h => ?_) (fun h => ?_) | refine gm ?_)
theorem mletter_ok (r : Nat) : Spec Tryz.prog LL 95 [.n .i32 (r : Int)] (.b (lowN r)) := by
  refine spec_of (C := ⟨Tryz.prog, LL, EE, []⟩) (rl := [.b (lowN r)]) (rs := [.tmp 2]) CCx LLs Tryz.func95 rfl (by kernel_rfl) rfl (by kernel_rfl) (Nat.le_of_ble_eq_true rfl) (fun i => rfl) (fun i => rfl) rfl (by decide) ?_
  refine gm ?_
  repeat' (first | (simp_all [lowN]; done) | (simp_all [lowN]; omega) | (rw [Bool.eq_iff_iff]; simp [lowN]; omega) | refine br (fun h => ?_) (fun h => ?_) | refine gm ?_)
/-! ### A rune among marks -/
def ascii (s : List UInt8) : Prop := ∀ b ∈ s, b.toNat < 128
theorem ascii_by {s : List UInt8} (h : ascii s) (i : Nat) : by' s i < 128 := by
  unfold by'
  rw [List.getD_eq_getElem?_getD]
  cases e : s[i]? with
  | none => decide
  | some b => exact h b (List.mem_of_getElem? e)
def validR (c : Nat) : Prop := c < 55296 ∨ (57344 ≤ c ∧ c ≤ 1114111)
theorem valid_iff (c : Nat) : Utf8.valid (c : Int) = true ↔ validR c := by
  unfold Utf8.valid validR
  simp only [Bool.or_eq_true, Bool.and_eq_true, decide_eq_true_eq]
  omega
theorem rune1_hi (r : Int) (h0 : 128 ≤ r) : 2 ≤ (rune1 r).length ∧ (rune1 r).length ≤ 4 ∧ ∀ c ∈ rune1 r, 128 ≤ c.toNat := by
  have hb : ∀ n : Nat, 128 ≤ n → n < 256 → 128 ≤ (UInt8.ofNat n).toNat := by
    intro n h1 h2
    rw [UInt8.toNat_ofNat', Nat.mod_eq_of_lt (by omega)]
    exact h1
  obtain ⟨c, hc, h1, h2⟩ : ∃ c, (if Utf8.valid r = true then r.toNat else Utf8.runeError) = c ∧ 128 ≤ c ∧ c ≤ 1114111 := by
    refine ⟨_, rfl, ?_, ?_⟩
    · split
      · omega
      · decide
    · split
      · rename_i h
        have := (valid_iff r.toNat).1 (by rw [show ((r.toNat : Nat) : Int) = r from by omega]; exact h)
        unfold validR at this
        omega
      · decide
  unfold rune1 bl Utf8.encode
  simp only [hc]
  rw [if_neg (by omega)]
  split
  · refine ⟨by simp, by simp, ?_⟩
    intro d hd
    simp only [List.mem_cons, List.not_mem_nil, or_false] at hd
    rcases hd with rfl | rfl <;> exact hb _ (by omega) (by omega)
  split
  · refine ⟨by simp, by simp, ?_⟩
    intro d hd
    simp only [List.mem_cons, List.not_mem_nil, or_false] at hd
    rcases hd with rfl | rfl | rfl <;> exact hb _ (by omega) (by omega)
  · refine ⟨by simp, by simp, ?_⟩
    intro d hd
    simp only [List.mem_cons, List.not_mem_nil, or_false] at hd
    rcases hd with rfl | rfl | rfl | rfl <;> exact hb _ (by omega) (by omega)
theorem ib_not (c : UInt8) : ∀ s : List UInt8, c ∉ s → Lib.indexByte s c = -1
  | [], _ => rfl
  | b :: s, h => by
    have hb : b ≠ c := fun e => h (by rw [e]; simp)
    rw [ibn c b s hb, ib_not c s (fun e => h (by simp [e])), if_pos rfl]
theorem ib_hi {s : List UInt8} (h : ascii s) (c : UInt8) (hc : 128 ≤ c.toNat) : Lib.indexByte s c = -1 := ib_not c s fun hm => by have := h c hm; omega
theorem vrune_ok (r : Int) : Spec Tryz.prog LL 133 [.n .i32 r] (.b (Lib.validRune r)) := by
  refine Spec.of (fn := Tryz.f133) Tryz.func133 (by kernel_rfl) (by kernel_rfl) (fun _ => rfl) fun S W xs hL hz hx _ => ?_
  obtain ⟨v, rfl⟩ := one_arg hz
  rw [(hx 0 _ v rfl rfl).n_inv]
  refine (Tryz.utf8_ValidRune r W).mono ?_
  rintro e W' ⟨rfl, rfl⟩
  exact ⟨_, rfl, Below.refl _ _, .b _ _⟩
theorem irune_ok (s : List UInt8) (r : Nat) (h : ascii s) (hs : s.length ≤ 1000000) (h0 : 128 ≤ r) (h1 : r ≤ 1114111) : Spec Tryz.prog LL 112 [.s s, .n .i32 (r : Int)] (.n .i64 (-1)) := by
  refine spec_of (C := ⟨Tryz.prog, LL, EE, []⟩) (rl := [.n .i64 (-1)]) (rs := [.tmp 4]) CCx LLs Tryz.func112 rfl (by kernel_rfl) rfl (by kernel_rfl) (Nat.le_of_ble_eq_true rfl) (fun i => rfl) (fun i => rfl) rfl (by decide) ?_
  refine gm ?_
  refine br (fun a => ?_) (fun a => ?_)
  · try refine gm ?_
    refine br (fun a => ?_) (fun a => ?_)
    · exfalso; omega
    · try refine gm ?_
      refine br (fun b => ?_) (fun b => ?_)
      · try refine gm ?_
        refine lp_hd [] [] (fun p : Nat => [(175, .p 175 0)]) (fun p : Nat => [(175, .itr s p)]) (fun p : Nat => p ≤ s.length) (fun p : Nat => s.length - p) (0) id (id) (Nat.zero_le _) (fits_of (gm ?_) (gm ?_) (gm ?_) (gm ?_) (gm ?_)) ?_
        · first | exact True.intro | exact ⟨rfl, rfl⟩ | exact ⟨rfl, rfl, rfl⟩ | rfl | exact rowc (List.map_id _) | trivial
        · first | exact True.intro | exact ⟨rfl, rfl⟩ | exact ⟨rfl, rfl, rfl⟩ | rfl | exact rowc (List.map_id _) | trivial
        · first | exact True.intro | exact ⟨rfl, rfl⟩ | exact ⟨rfl, rfl, rfl⟩ | rfl | exact rowc (List.map_id _) | trivial
        · first | exact True.intro | exact ⟨rfl, rfl⟩ | exact ⟨rfl, rfl, rfl⟩ | rfl | exact rowc (List.map_id _) | trivial
        · first | exact True.intro | exact ⟨rfl, rfl⟩ | exact ⟨rfl, rfl, rfl⟩ | rfl | exact rowc (List.map_id _) | trivial
        rintro p hp
        try refine gm ?_
        refine br (fun c => ?_) (fun c => ?_)
        · have h3 := dec_pos s p
          have h2 := dec_le s p c
          have h4 := dec_lo s p c (ascii_by h p)
          have h5 := ascii_by h p
          try refine gm ?_
          refine br (fun e => ?_) (fun e => ?_)
          · exfalso; rw [h4] at e; dsimp only at e; omega
          · try refine gm ?_
            refine ⟨p + (dec s p).2, h2, (by omega), fits_of (gm ?_) (gm ?_) (gm ?_) (gm ?_) (gm ?_)⟩
            · first | exact True.intro | exact ⟨rfl, rfl⟩ | exact ⟨rfl, rfl, rfl⟩ | rfl | exact rowc (List.map_id _) | trivial
            · first | exact True.intro | exact ⟨rfl, rfl⟩ | exact ⟨rfl, rfl, rfl⟩ | rfl | exact rowc (List.map_id _) | trivial
            · first | exact True.intro | exact ⟨rfl, rfl⟩ | exact ⟨rfl, rfl, rfl⟩ | rfl | exact rowc (List.map_id _) | trivial
            · first | exact True.intro | exact ⟨rfl, rfl⟩ | exact ⟨rfl, rfl, rfl⟩ | rfl | exact rowc (List.map_id _) | trivial
            · first | exact True.intro | exact ⟨rfl, rfl⟩ | exact ⟨rfl, rfl, rfl⟩ | rfl | exact rowc (List.map_id _) | trivial
        · try refine gm ?_
          trivial
      · try refine gm ?_
        refine cl (vrune_ok _) ?_
        refine gm ?_
        refine br (fun c => ?_) (fun c => ?_)
        · try refine gm ?_
          trivial
        · try refine gm ?_
          obtain ⟨q1, q2, q3⟩ := rune1_hi (r : Int) (by omega)
          generalize rune1 (r : Int) = u at q1 q2 q3
          rw [show ((u.length : Int) - 1) = ((u.length - 1 : Nat) : Int) by omega]
          have hu : 128 ≤ by' u (u.length - 1) := by rw [← by_at u _ (by omega)]; exact q3 _ (List.getElem_mem _)
          refine lp_hd [0, 7, 8] [] (fun i : Nat => [(9, .n .i64 (i : Int))]) (fun i : Nat => []) (fun i : Nat => 1 ≤ i) (fun i : Nat => 0) ((u.length - 1)) id (id) (by omega) (fits_of (gm ?_) (gm ?_) (gm ?_) (gm ?_) (gm ?_)) ?_
          · first | exact True.intro | exact ⟨rfl, rfl⟩ | exact ⟨rfl, rfl, rfl⟩ | rfl | exact rowc (List.map_id _) | trivial
          · first | exact True.intro | exact ⟨rfl, rfl⟩ | exact ⟨rfl, rfl, rfl⟩ | rfl | exact rowc (List.map_id _) | trivial
          · first | exact True.intro | exact ⟨rfl, rfl⟩ | exact ⟨rfl, rfl, rfl⟩ | rfl | exact rowc (List.map_id _) | trivial
          · first | exact True.intro | exact ⟨rfl, rfl⟩ | exact ⟨rfl, rfl, rfl⟩ | rfl | exact rowc (List.map_id _) | trivial
          · first | exact True.intro | exact ⟨rfl, rfl⟩ | exact ⟨rfl, rfl, rfl⟩ | rfl | exact rowc (List.map_id _) | trivial
          rintro i hi
          try refine gm ?_
          refine br (fun d => ?_) (fun d => ?_)
          · try refine gm ?_
            refine br (fun e => ?_) (fun e => ?_)
            · try refine gm ?_
              have hi1 : Lib.indexByte (s.drop ((i : Int) + 1).toNat) (u.getD (u.length - 1) 0) = -1 := ib_hi (fun b hb => h b (List.mem_of_mem_drop hb)) _ hu
              refine cd (ib_ok (s.drop ((i : Int) + 1).toNat) (u.getD (u.length - 1) 0)) ?_
              refine gm ?_
              rw [hi1]
              try refine gm ?_
              trivial
            · exfalso; have := ascii_by h i; omega
          · try refine gm ?_
            trivial
  · exfalso; omega
/-- Whether a rune is one of some marks. -/
def markB (s : List UInt8) (r : Nat) : Bool := decide (r < 128) && decide (0 ≤ Lib.indexByte s r.toUInt8)
theorem crune_lo (s : List UInt8) (r : Nat) (h0 : r < 128) : Spec Tryz.prog LL 96 [.s s, .n .i32 (r : Int)] (.b (markB s r)) := by
  refine Spec.of (fn := Tryz.f96) Tryz.func96 (by kernel_rfl) (by kernel_rfl) (fun _ => rfl) fun S W xs hL hz hx _ => ?_
  rw [ag2n hz hx rfl]
  refine (Tryz.strings_ContainsRune_ascii (tx s) (r : Int) W (by omega) (by omega)).mono ?_
  rintro e W' ⟨rfl, rfl⟩
  rw [tx_dl, Int.toNat_natCast, show decide (0 ≤ Lib.indexByte s r.toUInt8) = markB s r by simp [markB, h0]]
  exact ⟨_, rfl, Below.refl _ _, .b _ _⟩
theorem crune_hi (s : List UInt8) (r : Nat) (h : ascii s) (hs : s.length ≤ 1000000) (h0 : 128 ≤ r) (h1 : r ≤ 1114111) : Spec Tryz.prog LL 96 [.s s, .n .i32 (r : Int)] (.b (markB s r)) := by
  refine spec_of (C := ⟨Tryz.prog, LL, EE, []⟩) (rl := [.b (markB s r)]) (rs := [.tmp 4]) CCx LLs Tryz.func96 rfl (by kernel_rfl) rfl (by kernel_rfl) (Nat.le_of_ble_eq_true rfl) (fun i => rfl) (fun i => rfl) rfl (by decide) ?_
  refine gm ?_
  refine cl (irune_ok s r h hs h0 h1) ?_
  refine gm ?_
  simp [markB]; omega
theorem crune_ok (s : List UInt8) (r : Nat) (h : ascii s) (hs : s.length ≤ 1000000) (h1 : r ≤ 1114111) : Spec Tryz.prog LL 96 [.s s, .n .i32 (r : Int)] (.b (markB s r)) := by
  by_cases h0 : r < 128
  · exact crune_lo s r h0
  · exact crune_hi s r h hs (by omega) h1
end Go.Proofs.YtjbnmeofjiokeaaGreatDoor.Ev
namespace Go.Proofs.YtjbnmeofjiokeaaGreatDoor.Ev
open Go.RowKit
open Go.Proofs.YtjbnmeofjiokeaaGreatDoor.Mem
set_option linter.unusedVariables false
set_option linter.unusedSimpArgs false
set_option maxRecDepth 100000
def vmarks : List UInt8 := [46, 45, 43, 126, 95]
def nmarks : List UInt8 := [48, 49, 50, 51, 52, 53, 54, 55, 56, 57, 45, 43, 46, 95]
theorem vasc : ascii vmarks := by unfold ascii; decide
theorem nasc : ascii nmarks := by unfold ascii; decide
def okv (i r : Nat) : Bool := digN r || letN r || (decide (i ≠ 0) && markB vmarks r)
def okn (i r : Nat) : Bool := lowN r || (decide (i ≠ 0) && markB nmarks r)
theorem okv_hi {i r : Nat} (h : 128 ≤ r) : okv i r = false := by simp [okv, digN, letN, markB]; omega
theorem okn_hi {i r : Nat} (h : 128 ≤ r) : okn i r = false := by simp [okn, lowN, markB]; omega
def allI (f : Nat → Nat → Bool) (s : List UInt8) (n : Nat) : Bool := (List.range n).all fun i => f i (by' s i)
theorem allI_iff {f : Nat → Nat → Bool} {s : List UInt8} {n : Nat} : allI f s n = true ↔ ∀ i, i < n → f i (by' s i) = true := by simp [allI]
def verB (s : List UInt8) : Bool := decide (s ≠ []) && decide (s.length ≤ 24) && allI okv s s.length
def nameB (s : List UInt8) : Bool := decide (s ≠ []) && decide (s.length ≤ 24) && allI okn s s.length
/-- What one round of the runes tells. -/
theorem step_rune {f : Nat → Nat → Bool} (hf : ∀ i r, 128 ≤ r → f i r = false) {s : List UInt8} {p : Nat} (hp : p < s.length) :
    (f p (dec s p).1 = false → allI f s s.length = false) ∧ (f p (dec s p).1 = true → allI f s p = true → allI f s (p + (dec s p).2) = true ∧ p + (dec s p).2 ≤ s.length ∧ p < p + (dec s p).2) := by
  rcases Nat.lt_or_ge (by' s p) 128 with h | h
  · rw [dec_lo s p hp h]
    refine ⟨fun h1 => ?_, fun h1 h2 => ⟨allI_iff.2 fun i hi => ?_, by omega, by omega⟩⟩
    · rw [Bool.eq_false_iff]
      intro h2
      have := allI_iff.1 h2 p hp
      dsimp only at h1
      rw [h1] at this
      cases this
    · dsimp only at hi h1
      rcases Nat.lt_or_ge i p with h3 | h3
      · exact allI_iff.1 h2 i h3
      · rw [show i = p by omega]; exact h1
  · have h1 := dec_hi s p h
    refine ⟨fun _ => ?_, fun h2 => by rw [hf _ _ h1] at h2; cases h2⟩
    rw [Bool.eq_false_iff]
    intro h2
    have := allI_iff.1 h2 p hp
    rw [hf _ _ h] at this
    cases this
theorem ver_ok (s : List UInt8) (hs : s.length ≤ 140737488355328) : Spec Tryz.prog LL 80 [.s s] (.b (verB s)) := by
  refine spec_of (C := ⟨Tryz.prog, LL, EE, []⟩) (rl := [.b (verB s)]) (rs := [.tmp 2]) CCx LLs Tryz.func80 rfl (by kernel_rfl) rfl (by kernel_rfl) (Nat.le_of_ble_eq_true rfl) (fun i => rfl) (fun i => rfl) rfl (by decide) ?_
  refine gm ?_
  refine br (fun a => ?_) (fun a => ?_)
  · try refine gm ?_
    refine br (fun b => ?_) (fun b => ?_)
    · try refine gm ?_
      simp [verB]; omega
    · try refine gm ?_
      refine lp_hd [] [] (fun p : Nat => [(13, .p 13 0)]) (fun p : Nat => [(13, .itr s p)]) (fun p : Nat => p ≤ s.length ∧ allI okv s p = true) (fun p : Nat => s.length - p) (0) id (id) ⟨Nat.zero_le _, rfl⟩ (fits_of (gm ?_) (gm ?_) (gm ?_) (gm ?_) (gm ?_)) ?_
      · first | exact True.intro | exact ⟨rfl, rfl⟩ | exact ⟨rfl, rfl, rfl⟩ | rfl | exact rowc (List.map_id _) | trivial
      · first | exact True.intro | exact ⟨rfl, rfl⟩ | exact ⟨rfl, rfl, rfl⟩ | rfl | exact rowc (List.map_id _) | trivial
      · first | exact True.intro | exact ⟨rfl, rfl⟩ | exact ⟨rfl, rfl, rfl⟩ | rfl | exact rowc (List.map_id _) | trivial
      · first | exact True.intro | exact ⟨rfl, rfl⟩ | exact ⟨rfl, rfl, rfl⟩ | rfl | exact rowc (List.map_id _) | trivial
      · first | exact True.intro | exact ⟨rfl, rfl⟩ | exact ⟨rfl, rfl, rfl⟩ | rfl | exact rowc (List.map_id _) | trivial
      rintro p ⟨hp, hr⟩
      try refine gm ?_
      refine br (fun c => ?_) (fun c => ?_)
      · obtain ⟨k1, k2⟩ := step_rune @okv_hi c
        have h4 := dec_max s p
        generalize (dec s p).1 = r at k1 k2 h4
        have no : okv p r = false → false = verB s := fun e => by simp [verB, k1 e]
        repeat' (first | exact True.intro | (exact no (by clear no k1 k2; simp_all [okv]; done)) | refine cl (vdigit_ok r) (gm ?_) | refine cl (vletter_ok r) (gm ?_) | refine cl (crune_ok vmarks r vasc (by decide) h4) (gm ?_) | (refine ⟨p + (dec s p).2, ⟨(k2 (by clear no k1 k2; simp_all [okv]; done) hr).2.1, (k2 (by clear no k1 k2; simp_all [okv]; done) hr).1⟩, (by have := (k2 (by clear no k1 k2; simp_all [okv]; done) hr).2.2; omega), fits_of (gm ?_) (gm ?_) (gm ?_) (gm ?_) (gm ?_)⟩ <;> (first | exact True.intro | exact ⟨rfl, rfl⟩ | exact ⟨rfl, rfl, rfl⟩ | rfl | exact rowc (List.map_id _) | trivial); done) | refine br (fun h => ?_) (fun h => ?_) | refine gm ?_)
      · try refine gm ?_
        rw [show p = s.length by omega] at hr
        simp [verB, a, hr]; omega
  · simp [verB, a]
theorem name_ok (s : List UInt8) (hs : s.length ≤ 140737488355328) : Spec Tryz.prog LL 79 [.s s] (.b (nameB s)) := by
  refine spec_of (C := ⟨Tryz.prog, LL, EE, []⟩) (rl := [.b (nameB s)]) (rs := [.tmp 2]) CCx LLs Tryz.func79 rfl (by kernel_rfl) rfl (by kernel_rfl) (Nat.le_of_ble_eq_true rfl) (fun i => rfl) (fun i => rfl) rfl (by decide) ?_
  refine gm ?_
  refine br (fun a => ?_) (fun a => ?_)
  · try refine gm ?_
    refine br (fun b => ?_) (fun b => ?_)
    · try refine gm ?_
      simp [nameB]; omega
    · try refine gm ?_
      refine lp_hd [] [] (fun p : Nat => [(13, .p 13 0)]) (fun p : Nat => [(13, .itr s p)]) (fun p : Nat => p ≤ s.length ∧ allI okn s p = true) (fun p : Nat => s.length - p) (0) id (id) ⟨Nat.zero_le _, rfl⟩ (fits_of (gm ?_) (gm ?_) (gm ?_) (gm ?_) (gm ?_)) ?_
      · first | exact True.intro | exact ⟨rfl, rfl⟩ | exact ⟨rfl, rfl, rfl⟩ | rfl | exact rowc (List.map_id _) | trivial
      · first | exact True.intro | exact ⟨rfl, rfl⟩ | exact ⟨rfl, rfl, rfl⟩ | rfl | exact rowc (List.map_id _) | trivial
      · first | exact True.intro | exact ⟨rfl, rfl⟩ | exact ⟨rfl, rfl, rfl⟩ | rfl | exact rowc (List.map_id _) | trivial
      · first | exact True.intro | exact ⟨rfl, rfl⟩ | exact ⟨rfl, rfl, rfl⟩ | rfl | exact rowc (List.map_id _) | trivial
      · first | exact True.intro | exact ⟨rfl, rfl⟩ | exact ⟨rfl, rfl, rfl⟩ | rfl | exact rowc (List.map_id _) | trivial
      rintro p ⟨hp, hr⟩
      try refine gm ?_
      refine br (fun c => ?_) (fun c => ?_)
      · obtain ⟨k1, k2⟩ := step_rune @okn_hi c
        have h4 := dec_max s p
        generalize (dec s p).1 = r at k1 k2 h4
        have no : okn p r = false → false = nameB s := fun e => by simp [nameB, k1 e]
        repeat' (first | exact True.intro | (exact no (by clear no k1 k2; simp_all [okn]; done)) | refine cl (mletter_ok r) (gm ?_) | refine cl (crune_ok nmarks r nasc (by decide) h4) (gm ?_) | (refine ⟨p + (dec s p).2, ⟨(k2 (by clear no k1 k2; simp_all [okn]; done) hr).2.1, (k2 (by clear no k1 k2; simp_all [okn]; done) hr).1⟩, (by have := (k2 (by clear no k1 k2; simp_all [okn]; done) hr).2.2; omega), fits_of (gm ?_) (gm ?_) (gm ?_) (gm ?_) (gm ?_)⟩ <;> (first | exact True.intro | exact ⟨rfl, rfl⟩ | exact ⟨rfl, rfl, rfl⟩ | rfl | exact rowc (List.map_id _) | trivial); done) | refine br (fun h => ?_) (fun h => ?_) | refine gm ?_)
      · try refine gm ?_
        rw [show p = s.length by omega] at hr
        simp [nameB, a, hr]; omega
  · simp [nameB, a]
end Go.Proofs.YtjbnmeofjiokeaaGreatDoor.Ev
