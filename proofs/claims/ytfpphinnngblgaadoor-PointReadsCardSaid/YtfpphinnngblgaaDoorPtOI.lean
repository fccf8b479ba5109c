/- A number that came in as 32 bytes: its value; how it reads. What the listed variable gives: the cells of d. -/
import Derived.Test.YtfpphinnngblgaaDoorFldM
import Derived.Test.YtfpphinnngblgaaDoorPt
import Derived.ChangeSame
import Derived.OpenShut
import Derived.ChangeAt
import Derived.DataShut
import Derived.Handed
import Derived.Test.YtfpphinnngblgaaDoorRows
import Derived.ProofKit
import Derived.LaidMore
namespace Go.Proofs.YtfpphinnngblgaaDoor.Fld
open Go.RowKit Go.ChangeShapes Go.WideShapes Go.ChangeAt
open Go.Proofs.YtfpphinnngblgaaDoor.Num (val up val_congr val_add val_lt val_up val_digits val_word)
open Go.Proofs.YtfpphinnngblgaaDoor.Arr Go.Proofs.YtfpphinnngblgaaDoor.Sym

theorem cellsN : Tryd.prog.cellsOf 23 = 32 := by kernel_rfl
theorem cellsB : Tryd.prog.cellsOf 5 = 1 := by kernel_rfl
def numOf (cs : Array Value) (j : Nat) : Nat := match cs[j]? with
  | some (.int _ n) => n.toNat
  | _ => 0
theorem row_bs' (f : Nat → Nat) (hf : ∀ j, j < 32 → f j < 256) : val 256 f 32 < MM ∧ rowOf .u8 f 32 = bs (val 256 f 32) := by
  refine ⟨by rw [MM_eq_b]; exact val_lt hf, rowOf_congr fun j hj => ?_⟩
  unfold bt
  exact (val_word hf hj).symm
section
variable {H : Type} {enc : TypeId × Value → H} {W W' : World} {base : Nat} {spare spare' : Nat → Bool} {held : Bool}
theorem trod_byte {m : Nat} {c : Value} {x : DataW H × List MemPlace} (h : DataW.trod enc Tryd.prog W base spare held m 5 [c] = some x) :
    ∃ n : Nat, n < 256 ∧ c = .int .u8 (n : Int) ∧ x.2 = [] ∧ DataW.trod enc Tryd.prog W' 0 spare' held m 5 [c] = some x := by
  obtain ⟨n, e, hx, hw⟩ := DataW.trod_int Tryd.underlying5 h
  simp only [List.cons.injEq, and_true] at e
  subst e
  have hb : 0 ≤ n ∧ n < 256 := by
    have := bounds_u8 hw
    omega
  obtain ⟨k, rfl⟩ := Int.eq_ofNat_of_zero_le hb.1
  refine ⟨k, by omega, rfl, by rw [hx], ?_⟩
  cases m with
  | zero => simp [DataW.trod] at h
  | succ m =>
    simp only [DataW.trod, Tryd.underlying5] at h ⊢
    exact h
theorem open_num {r : Reach} {b0 : Nat} {v : Value} {d : DataW H} {p : List MemPlace} (hval : Value.okWide Tryd.prog W r b0 23 v) (h : DataW.Trod enc Tryd.prog W base spare held 23 v d p) :
    ∃ n : Nat, n < MM ∧ v = .agg (bs n) ∧ p = [] ∧ ∀ (W' : World) (spare' : Nat → Bool), DataW.Trod enc Tryd.prog W' 0 spare' held 23 (.agg (bs n)) d [] := by
  obtain ⟨cs, rfl, hsz⟩ : ∃ cs, v = .agg cs ∧ cs.size = Tryd.prog.cellsOf 23 := by
    have := hval
    simp [Value.okWide, Tryd.underlying23] at this
    obtain ⟨cs, h1, h2, _⟩ := this
    exact ⟨cs, h1, h2⟩
  rw [cellsN] at hsz
  obtain ⟨fuel, hf⟩ := h
  obtain ⟨xs, m, rfl, hx, hlen, hl, hel⟩ := DataW.trod_array Tryd.underlying23 hf
  simp only [Value.cells] at hel hlen
  have hone : ∀ i, (hi : i < 32) → (cs.toList.drop (i * Tryd.prog.cellsOf 5)).take (Tryd.prog.cellsOf 5) = [cs[i]'(by omega)] := by
    intro i hi
    rw [cellsB, Nat.mul_one, List.drop_eq_getElem_cons (by simpa using (by omega : i < cs.size))]
    simp
  have hall : ∀ i, (hi : i < 32) → ∃ n : Nat, n < 256 ∧ cs[i]'(by omega) = .int .u8 (n : Int) ∧ (xs[i]'(by omega)).2 = [] ∧ ∀ (W' : World) (spare' : Nat → Bool), DataW.trod enc Tryd.prog W' 0 spare' held m 5 [cs[i]'(by omega)] = some (xs[i]'(by omega)) := by
    intro i hi
    have h1 := hel i hi
    rw [hone i hi, List.getElem?_eq_getElem (by omega)] at h1
    obtain ⟨n, h2, h3, h4, _⟩ := trod_byte (W' := W) (spare' := spare) h1
    refine ⟨n, h2, h3, h4, fun W' spare' => ?_⟩
    obtain ⟨_, _, _, _, h5⟩ := trod_byte (W' := W') (spare' := spare') h1
    exact h5
  have hrow : cs = rowOf .u8 (numOf cs) 32 := by
    apply Array.ext
    · rw [rowOf_size]; exact hsz
    · intro i h1 h2
      have hi : i < 32 := by omega
      obtain ⟨n, hn, he, _⟩ := hall i hi
      have e2 := rowOf_get .u8 (numOf cs) 32 i hi
      rw [Array.getElem?_eq_getElem h2] at e2
      rw [Option.some.inj e2, he]
      unfold numOf
      rw [Array.getElem?_eq_getElem h1, he]
      simp
  have hlt : ∀ j, j < 32 → numOf cs j < 256 := by
    intro j hj
    obtain ⟨n, hn, he, _⟩ := hall j hj
    unfold numOf
    rw [Array.getElem?_eq_getElem (by omega), he]
    simpa using hn
  obtain ⟨hM, hB⟩ := row_bs' (numOf cs) hlt
  rw [hB] at hrow
  have hp : p = [] := by
    have : p = xs.flatMap (·.2) := by
      have := congrArg Prod.snd hx
      simpa using this
    rw [this, List.flatMap_eq_nil_iff]
    intro y hy
    obtain ⟨i, hi, rfl⟩ := List.getElem_of_mem hy
    obtain ⟨_, _, _, h4, _⟩ := hall i (by omega)
    exact h4
  refine ⟨val 256 (numOf cs) 32, hM, by rw [← hrow], hp, fun W' spare' => ⟨m + 1, ?_⟩⟩
  rw [← hrow]
  have hmap : (List.range 32).mapM (fun i => DataW.trod enc Tryd.prog W' 0 spare' held m 5 ((cs.toList.drop (i * Tryd.prog.cellsOf 5)).take (Tryd.prog.cellsOf 5))) = some xs := by
    refine mapM_some_of_get _ _ (by simpa using hl) fun i x hix => ?_
    have hi : i < 32 := by
      have := (List.getElem?_eq_some_iff.1 hix).1
      simpa using this
    have hxi : x = i := by
      rw [List.getElem?_eq_getElem (by simpa using hi)] at hix
      simpa using hix.symm
    subst hxi
    obtain ⟨_, _, _, _, h5⟩ := hall x hi
    rw [hone x hi, h5 W' spare', List.getElem?_eq_getElem (by omega)]
  have hd : d = .agg (xs.map (·.1)) := by
    have := congrArg Prod.fst hx
    simpa using this
  have hp2 : xs.flatMap (·.2) = ([] : List MemPlace) := by
    have := congrArg Prod.snd hx
    simp at this
    rw [← hp]; simp [this]
  show DataW.trod enc Tryd.prog W' 0 spare' held (m + 1) 23 cs.toList = some (d, [])
  unfold DataW.trod
  simp only [Tryd.underlying23]
  rw [if_pos hlen, hmap, hd]
  simp [hp2]
theorem open_cells {fuel : Nat} {cs : Array Value} {d : DataW H} {p : List MemPlace} (hf : DataW.trod enc Tryd.prog W base spare held fuel 23 cs.toList = some (d, p)) :
    ∃ n : Nat, n < MM ∧ cs = bs n ∧ p = [] ∧ ∀ (W' : World) (spare' : Nat → Bool), DataW.trod enc Tryd.prog W' 0 spare' held fuel 23 (bs n).toList = some (d, []) := by
  obtain ⟨xs, m, rfl, hx, hlen, hl, hel⟩ := DataW.trod_array Tryd.underlying23 hf
  have hsz : cs.size = 32 := by rw [cellsN] at hlen; simpa using hlen
  have hone : ∀ i, (hi : i < 32) → (cs.toList.drop (i * Tryd.prog.cellsOf 5)).take (Tryd.prog.cellsOf 5) = [cs[i]'(by omega)] := by
    intro i hi
    rw [cellsB, Nat.mul_one, List.drop_eq_getElem_cons (by simpa using (by omega : i < cs.size))]
    simp
  have hall : ∀ i, (hi : i < 32) → ∃ n : Nat, n < 256 ∧ cs[i]'(by omega) = .int .u8 (n : Int) ∧ (xs[i]'(by omega)).2 = [] ∧ ∀ (W' : World) (spare' : Nat → Bool), DataW.trod enc Tryd.prog W' 0 spare' held m 5 [cs[i]'(by omega)] = some (xs[i]'(by omega)) := by
    intro i hi
    have h1 := hel i hi
    rw [hone i hi, List.getElem?_eq_getElem (by omega)] at h1
    obtain ⟨n, h2, h3, h4, _⟩ := trod_byte (W' := W) (spare' := spare) h1
    refine ⟨n, h2, h3, h4, fun W' spare' => ?_⟩
    obtain ⟨_, _, _, _, h5⟩ := trod_byte (W' := W') (spare' := spare') h1
    exact h5
  have hrow : cs = rowOf .u8 (numOf cs) 32 := by
    apply Array.ext
    · rw [rowOf_size]; exact hsz
    · intro i h1 h2
      have hi : i < 32 := by omega
      obtain ⟨n, hn, he, _⟩ := hall i hi
      have e2 := rowOf_get .u8 (numOf cs) 32 i hi
      rw [Array.getElem?_eq_getElem h2] at e2
      rw [Option.some.inj e2, he]
      unfold numOf
      rw [Array.getElem?_eq_getElem h1, he]
      simp
  have hlt : ∀ j, j < 32 → numOf cs j < 256 := by
    intro j hj
    obtain ⟨n, hn, he, _⟩ := hall j hj
    unfold numOf
    rw [Array.getElem?_eq_getElem (by omega), he]
    simpa using hn
  obtain ⟨hM, hB⟩ := row_bs' (numOf cs) hlt
  rw [hB] at hrow
  have hp : p = [] := by
    have : p = xs.flatMap (·.2) := by
      have := congrArg Prod.snd hx
      simpa using this
    rw [this, List.flatMap_eq_nil_iff]
    intro y hy
    obtain ⟨i, hi, rfl⟩ := List.getElem_of_mem hy
    obtain ⟨_, _, _, h4, _⟩ := hall i (by omega)
    exact h4
  refine ⟨val 256 (numOf cs) 32, hM, hrow, hp, fun W' spare' => ?_⟩
  rw [← hrow]
  have hmap : (List.range 32).mapM (fun i => DataW.trod enc Tryd.prog W' 0 spare' held m 5 ((cs.toList.drop (i * Tryd.prog.cellsOf 5)).take (Tryd.prog.cellsOf 5))) = some xs := by
    refine mapM_some_of_get _ _ (by simpa using hl) fun i x hix => ?_
    have hi : i < 32 := by
      have := (List.getElem?_eq_some_iff.1 hix).1
      simpa using this
    have hxi : x = i := by
      rw [List.getElem?_eq_getElem (by simpa using hi)] at hix
      simpa using hix.symm
    subst hxi
    obtain ⟨_, _, _, _, h5⟩ := hall x hi
    rw [hone x hi, h5 W' spare', List.getElem?_eq_getElem (by omega)]
  have hd : d = .agg (xs.map (·.1)) := by
    have := congrArg Prod.fst hx
    simpa using this
  have hp2 : xs.flatMap (·.2) = ([] : List MemPlace) := by
    have := congrArg Prod.snd hx
    simp at this
    rw [← hp]; simp [this]
  show DataW.trod enc Tryd.prog W' 0 spare' held (m + 1) 23 cs.toList = some (d, [])
  unfold DataW.trod
  simp only [Tryd.underlying23]
  rw [if_pos hlen, hmap, hd]
  simp [hp2]
theorem pt_four (x y z t : Nat) : (pt x y z t).toList = (bs x).toList ++ ((bs y).toList ++ ((bs z).toList ++ (bs t).toList)) := by
  rw [← Array.toList_append, ← Array.toList_append, ← Array.toList_append]
  refine congrArg Array.toList ?_
  unfold pt bs
  rw [rowOf_append, rowOf_append, rowOf_append]
  exact rowOf_congr fun j hj => by
    unfold pf
    by_cases c1 : j < 32
    · rw [if_pos c1, if_pos c1]
    · rw [if_neg c1, if_neg c1]
      by_cases c2 : j < 64
      · have a2 : j - 32 < 32 := by omega
        rw [if_pos c2, if_pos a2]
      · have a2 : ¬ j - 32 < 32 := by omega
        rw [if_neg c2, if_neg a2]
        by_cases c3 : j < 96
        · have a3 : j - 32 - 32 < 32 := by omega
          rw [if_pos c3, if_pos a3]; rfl
        · have a3 : ¬ j - 32 - 32 < 32 := by omega
          rw [if_neg c3, if_neg a3]; rfl
theorem bsl (x : Nat) : (bs x).toList.length = 32 := by rw [Array.length_toList]; exact bs_sz x
theorem pt_d0 (x y z t : Nat) : ((pt x y z t).toList.drop 0).take 32 = (bs x).toList := by
  rw [pt_four, List.drop_zero, List.take_left' (bsl x)]
theorem pt_d1 (x y z t : Nat) : ((pt x y z t).toList.drop 32).take 32 = (bs y).toList := by
  rw [pt_four, List.drop_left' (bsl x), List.take_left' (bsl y)]
theorem pt_d2 (x y z t : Nat) : ((pt x y z t).toList.drop 64).take 32 = (bs z).toList := by
  rw [pt_four, show 64 = 32 + 32 from rfl, ← List.drop_drop, List.drop_left' (bsl x), List.drop_left' (bsl y), List.take_left' (bsl z)]
theorem pt_d3 (x y z t : Nat) : ((pt x y z t).toList.drop 96).take 32 = (bs t).toList := by
  rw [pt_four, show 96 = 32 + 32 + 32 from rfl, ← List.drop_drop, ← List.drop_drop, List.drop_left' (bsl x), List.drop_left' (bsl y), List.drop_left' (bsl z), List.take_of_length_le (by rw [bsl]; decide)]
theorem cut4 (l : List Value) (h : l.length = 128) : l = (l.drop 0).take 32 ++ ((l.drop 32).take 32 ++ ((l.drop 64).take 32 ++ (l.drop 96).take 32)) := by
  rw [List.drop_zero, show 64 = 32 + 32 from rfl, show 96 = 32 + 32 + 32 from rfl, ← List.drop_drop, ← List.drop_drop, ← List.drop_drop]
  rw [List.take_of_length_le (i := 32) (l := (l.drop 32).drop 32 |>.drop 32) (by simp only [List.length_drop]; omega), List.take_append_drop, List.take_append_drop, List.take_append_drop]
theorem cellsP : Tryd.prog.cellsOf 25 = 128 := by kernel_rfl
theorem open_point {r : Reach} {b0 : Nat} {v : Value} {d : DataW H} {p : List MemPlace} (hval : Value.okWide Tryd.prog W r b0 25 v) (h : DataW.Trod enc Tryd.prog W base spare held 25 v d p) :
    ∃ x y z t : Nat, (x < MM ∧ y < MM ∧ z < MM ∧ t < MM) ∧ v = .agg (pt x y z t) ∧ p = [] ∧ ∀ (W' : World) (spare' : Nat → Bool), DataW.Trod enc Tryd.prog W' 0 spare' held 25 (.agg (pt x y z t)) d [] := by
  obtain ⟨cs, rfl, hsz⟩ : ∃ cs, v = .agg cs ∧ cs.size = Tryd.prog.cellsOf 25 := by
    have := hval
    simp [Value.okWide, Tryd.underlying25] at this
    obtain ⟨cs, h1, h2, _⟩ := this
    exact ⟨cs, h1, h2⟩
  rw [cellsP] at hsz
  obtain ⟨fuel, hf⟩ := h
  obtain ⟨xs, n, hfu, hx, hl, hlen, hel⟩ := DataW.trod_struct Tryd.underlying25 hf
  simp only [Value.cells] at hel hl
  match xs, hlen with
  | [y0, y1, y2, y3], _ =>
    have h0 : DataW.trod enc Tryd.prog W base spare held n 23 ((cs.toList.drop 0).take 32) = some y0 := by rw [← cellsN]; exact hel 0 _ rfl
    have h1 : DataW.trod enc Tryd.prog W base spare held n 23 ((cs.toList.drop 32).take 32) = some y1 := by rw [← cellsN]; exact hel 1 _ rfl
    have h2 : DataW.trod enc Tryd.prog W base spare held n 23 ((cs.toList.drop 64).take 32) = some y2 := by rw [← cellsN]; exact hel 2 _ rfl
    have h3 : DataW.trod enc Tryd.prog W base spare held n 23 ((cs.toList.drop 96).take 32) = some y3 := by rw [← cellsN]; exact hel 3 _ rfl
    obtain ⟨e0, p0⟩ := y0
    obtain ⟨e1, p1⟩ := y1
    obtain ⟨e2, p2⟩ := y2
    obtain ⟨e3, p3⟩ := y3
    obtain ⟨x, hx0, ex, rfl, k0⟩ := open_cells (cs := ((cs.toList.drop 0).take 32).toArray) h0
    obtain ⟨y, hy0, ey, rfl, k1⟩ := open_cells (cs := ((cs.toList.drop 32).take 32).toArray) h1
    obtain ⟨z, hz0, ez, rfl, k2⟩ := open_cells (cs := ((cs.toList.drop 64).take 32).toArray) h2
    obtain ⟨t, ht0, et, rfl, k3⟩ := open_cells (cs := ((cs.toList.drop 96).take 32).toArray) h3
    have hcs : cs = pt x y z t := by
      apply Array.toList_inj.1
      have hc := cut4 cs.toList (by simpa using hsz)
      have g0 := congrArg Array.toList ex
      have g1 := congrArg Array.toList ey
      have g2 := congrArg Array.toList ez
      have g3 := congrArg Array.toList et
      simp only at g0 g1 g2 g3
      rw [g0, g1, g2, g3] at hc
      rw [hc, pt_four]
    have hd : d = .agg [e0, e1, e2, e3] ∧ p = [] := by
      have a1 := congrArg Prod.fst hx
      have a2 := congrArg Prod.snd hx
      simp at a1 a2
      exact ⟨a1, a2⟩
    refine ⟨x, y, z, t, ⟨hx0, hy0, hz0, ht0⟩, by rw [hcs], hd.2, fun W' spare' => ⟨n + 1, ?_⟩⟩
    have m := trod_struct_mk (P := Tryd.prog) (enc := enc) (w := W') (base := 0) (spare := spare') (held := held) (n := n) (cs := (pt x y z t).toList) (xs := [(e0, []), (e1, []), (e2, []), (e3, [])]) Tryd.underlying25 (by rw [cellsP, Array.length_toList]; exact pt_sz x y z t) (by
      have c0 := k0 W' spare'
      have c1 := k1 W' spare'
      have c2 := k2 W' spare'
      have c3 := k3 W' spare'
      rw [← pt_d0 x y z t] at c0
      rw [← pt_d1 x y z t] at c1
      rw [← pt_d2 x y z t] at c2
      rw [← pt_d3 x y z t] at c3
      simp only [List.mapM_cons, List.mapM_nil, cellsN, c0, c1, c2, c3]
      rfl)
    rw [hd.1]
    show DataW.trod enc Tryd.prog W' 0 spare' held (n + 1) 25 (pt x y z t).toList = _
    simpa using m
end
end Go.Proofs.YtfpphinnngblgaaDoor.Fld

namespace Go.Proofs.YtfpphinnngblgaaDoor.Fld
open Go.ChangeShapes Go.WideShapes Go.ChangeAt Go.RowKit Go.ChangeMaps
open Go.Proofs.YtfpphinnngblgaaDoor.Arr Go.Proofs.YtfpphinnngblgaaDoor.Sym

theorem gD : Tryd.prog.globalNamed "holdall/point.d" = some 0 := by kernel_rfl
theorem tD : (Tryd.prog.globals[0]?).map (·.type) = some 23 := by kernel_rfl
/-- An array of whole numbers, one cell each: its cells. -/
theorem arr_cells {H : Type} {enc : TypeId × Value → H} {P : Program} {w : World} {base : Nat} {sp : Nat → Bool} {held : Bool} {fuel n : Nat} {t e : TypeId} {k : IntKind} {cs : List Value} {q : List MemPlace} {L : List Int}
    (ht : P.underlying t = some (.array n e)) (he : P.underlying e = some (.int k)) (hc : P.cellsOf e = 1)
    (hd : DataW.trod enc P w base sp held fuel t cs = some (.agg (L.map fun x => .lit (.int k x)), q)) (i : Nat) (hi : i < n) (x : Int) (hx : L[i]? = some x) : cs[i]? = some (.int k x) := by
  obtain ⟨xs, m, rfl, hxs, _, _, hel⟩ := DataW.trod_array ht hd
  have h0 := hel i hi
  rw [hc, Nat.mul_one] at h0
  simp only [Prod.mk.injEq, DataW.agg.injEq] at hxs
  have h1 : (L.map fun x => DataW.lit (H := H) (.int k x))[i]? = (xs.map (·.1))[i]? := by rw [hxs.1]
  rw [List.getElem?_map, List.getElem?_map, hx] at h1
  cases hxi : xs[i]? with
  | none => rw [hxi] at h1; cases h1
  | some y =>
    rw [hxi] at h0 h1
    obtain ⟨n', e1, e2, _⟩ := DataW.trod_int he h0
    rw [e2] at h1
    simp only [Option.map_some, Option.some.injEq, DataW.lit.injEq, Lit.int.injEq, true_and] at h1
    subst h1
    have h2 := congrArg (·[0]?) e1
    simp only [List.getElem?_take, List.getElem?_drop] at h2
    simpa using h2

/-- A returning call over worlds as they stand behind start-up. -/
theorem handed {H : Type} {enc : TypeId × Value → H} {os : Os} {f : FuncId} {fn : Func} {s : ChangeSpec} {X : World → Array Value → Prop} (hX : ∀ (w w' : World) (args : Array Value), w.heap = w'.heap → X w args → X w' args)
    (own : ownKnob Tryd.checked.prog.godebug = none) (started : os.Started) (noInit : Tryd.checked.prog.inits.idxOf? f = none) (hfn : Tryd.checked.prog.funcs[f]? = some fn)
    (witness : ∃ (w : World) (tape : Tape) (i : Input), w.os = os ∧ (w.forCall tape i).Shaped Tryd.checked.prog ∧ i.vars = [] ∧ Input.okWide Tryd.checked.prog (w.forCall tape i) .any w.heap.size f i ∧
      ((s.pre enc Tryd.checked.prog fn [] false (w.forCall tape i).memory i.args ∧ X (w.forCall tape i).memory i.args) ∧ sizedMet enc Tryd.checked.prog fn (OpenSpec.ofChange s) false (w.forCall tape i).memory i.args) ∧ ({} : Assume).holds Tryd.checked.prog (lone (Frame.enter Tryd.checked.prog f i.args .normal) [] (w.forCall tape i)))
    (contract : ∀ (W : World) (base : Nat) (args : Array Value) (ds gs : List (DataW H)) (before : List MemPlace),
      (∀ (j : Nat) t v, fn.params[j]? = some t → args[j]? = some v → Value.okWide Tryd.checked.prog W .any base t v) →
      DataW.Whole enc Tryd.checked.prog fn.params.toList s.vars false W args.toList ds gs before → X W args → W.ShapedOpen Tryd.checked.prog →
      Calls Tryd.checked.prog f args W fun e W' => ∃ v, e = .returned v ∧ s.post enc Tryd.checked.prog fn false true false false W args v W') :
    ReturnsInHanded {} Tryd.checked os f .any (fun w args => (s.pre enc Tryd.checked.prog fn [] false w args ∧ X w args) ∧ sizedMet enc Tryd.checked.prog fn (OpenSpec.ofChange s) false w args) (s.post enc Tryd.checked.prog fn false true false false) := by
  refine returnsInHanded_of_calls own started noInit witness ?_
  intro w tape i _ hs _ hok hpre _
  obtain ⟨_, _, _, fn', hfn', _, _, _, _, hval⟩ := hok
  obtain rfl : fn' = fn := Option.some.inj (hfn'.symm.trans hfn)
  obtain ⟨⟨⟨ds, gs, before, hw, hc⟩, hx⟩, hz⟩ := hpre
  refine (contract (w.forCall tape i) w.heap.size i.args ds gs before hval (DataW.Whole.of_heap (w' := w.forCall tape i) (by rfl) hw) (hX _ _ _ (by rfl) hx) hs).mono fun e W' ⟨v, he, hp⟩ => ?_
  subst he
  exact ChangeSpec.post_blind hp
theorem begin_d : ((begin Tryd.prog (fun _ _ => 0) default).world.heap[0]?).bind Obj.row? = some (bs 0, 23) := by kernel_rfl
def dl : List Int := [163, 120, 89, 19, 202, 77, 235, 117, 171, 216, 65, 65, 77, 10, 112, 0, 152, 232, 121, 119, 121, 64, 199, 140, 115, 254, 111, 43, 238, 108, 3, 82]
theorem laid_d : (Rows.laid_holdall_point_d : DataW Unit) = .agg (dl.map fun x => .lit (.int .u8 x)) := by kernel_rfl
theorem dl_at : ∀ j : Nat, j < 32 → dl[j]? = some (bt dN j : Int) := by decide +kernel
def dLaid : List (String × DataW Unit) := [("holdall/point.d", Rows.laid_holdall_point_d)]
theorem cu8 : Tryd.prog.cellsOf 5 = 1 := by kernel_rfl
theorem of_d {W : World} (hs : W.ShapedOpen Tryd.prog) (h : laidMetH Tryd.prog dLaid W) : DD W := by
  rw [MakeChecks.laidMetH_plain _ _ _ (by kernel_rfl)] at h
  obtain ⟨ps, ⟨g0, u0, cs0, f0, p0, q0, hg0, ht0, hv0, hd0, _⟩, _⟩ := h
  obtain rfl := Option.some.inj (gD.symm.trans hg0)
  obtain rfl := Option.some.inj (tD.symm.trans ht0)
  rw [laid_d] at hd0
  have hc : ∀ j, j < 32 → cs0.toList[j]? = some (.int .u8 (bt dN j : Int)) := fun j hj => arr_cells Tryd.underlying23 Tryd.underlying5 cu8 hd0 j hj _ (dl_at j hj)
  obtain ⟨cs, h0, hz, _⟩ := hs.1 0 (bs 0) 23 (by decide +kernel) begin_d
  have e : cs = cs0 := by
    unfold World.var? at hv0
    rw [gD, Option.bind_some, h0] at hv0
    exact Option.some.inj hv0
  subst e
  rw [bs_sz] at hz
  unfold DD Blk
  rw [h0]
  congr 2
  apply Array.ext
  · rw [bs_sz, hz]
  · intro j h1 h2
    have hj : j < 32 := by omega
    have a1 := hc j hj
    have a2 := rowOf_get .u8 (bt dN) 32 j hj
    rw [Array.getElem?_toList, Array.getElem?_eq_getElem h1] at a1
    unfold bs
    rw [Array.getElem?_eq_getElem (by rw [rowOf_size]; exact hj)] at a2
    rw [Option.some.inj a1]
    exact (Option.some.inj a2).symm
theorem met_d (os : Os) (args : Array Value) : laidMetH Tryd.prog dLaid ((World.doorLaid Tryd.prog 400 os).forCall (fun _ _ => 0) ⟨#[], args, []⟩).memory :=
  laidMetH_of_parts3 (fuel := 8) (laidMet_of_run' 8 (by kernel_rfl) (by kernel_rfl)) (by kernel_rfl) (by kernel_rfl)
end Go.Proofs.YtfpphinnngblgaaDoor.Fld
