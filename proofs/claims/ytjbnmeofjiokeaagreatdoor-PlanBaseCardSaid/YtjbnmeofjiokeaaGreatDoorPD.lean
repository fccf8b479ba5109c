/- The sort of the library, laid at this program. -/
import Derived.Shelf.SlSortCmp.WholeK
import Derived.Shelf.SlSortCmp.NoneTotal
import Derived.Test.YtjbnmeofjiokeaaGreatDoorProg
import Derived.Test.YtjbnmeofjiokeaaGreatDoorPB
import Derived.Test.YtjbnmeofjiokeaaGreatDoorPA
import Derived.Test.YtjbnmeofjiokeaaGreatDoorPC
set_option linter.all false
namespace Go.Proofs
open Go.Shelf
def Tryz.laysSort_ren : Go.Shelf.Ren := ⟨fun | 6 => 83 | 15 => 104 | 14 => 103 | 28 => 125 | 29 => 126 | 20 => 117 | 21 => 118 | 22 => 119 | 23 => 120 | 24 => 121 | 25 => 122 | 26 => 123 | 27 => 124 | 46 => 139 | 47 => 140 | 48 => 141 | 49 => 142 | 50 => 143 | 57 => 151 | n => n, fun | 22 => 28 | 24 => 53 | 25 => 120 | 3 => 3 | 39 => 133 | 0 => 0 | 53 => 124 | 55 => 139 | 4 => 4 | 46 => 145 | 45 => 144 | 50 => 149 | 5 => 5 | 9 => 9 | 66 => 160 | 70 => 164 | 76 => 167 | 77 => 168 | n => n, fun | n => n⟩
theorem Tryz.laysSort : Go.Proofs.SlLaysF0.n6 Tryz.prog Tryz.laysSort_ren := {
  mixed := by kernel_rfl
  f6 := ⟨Tryz.f83.name, by decide, Tryz.func83.trans (congrArg some (by kernel_rfl))⟩
  f14 := ⟨Tryz.f103.name, by decide, Tryz.func103.trans (congrArg some (by kernel_rfl))⟩
  f15 := Tryz.func104.trans (congrArg some (by kernel_rfl))
  f20 := ⟨Tryz.f117.name, by decide, Tryz.func117.trans (congrArg some (by kernel_rfl))⟩
  f21 := ⟨Tryz.f118.name, by decide, Tryz.func118.trans (congrArg some (by kernel_rfl))⟩
  f22 := ⟨Tryz.f119.name, by decide, Tryz.func119.trans (congrArg some (by kernel_rfl))⟩
  f23 := ⟨Tryz.f120.name, by decide, Tryz.func120.trans (congrArg some (by kernel_rfl))⟩
  f24 := ⟨Tryz.f121.name, by decide, Tryz.func121.trans (congrArg some (by kernel_rfl))⟩
  f25 := ⟨Tryz.f122.name, by decide, Tryz.func122.trans (congrArg some (by kernel_rfl))⟩
  f26 := ⟨Tryz.f123.name, by decide, Tryz.func123.trans (congrArg some (by kernel_rfl))⟩
  f27 := ⟨Tryz.f124.name, by decide, Tryz.func124.trans (congrArg some (by kernel_rfl))⟩
  f28 := Tryz.func125.trans (congrArg some (by kernel_rfl))
  f29 := Tryz.func126.trans (congrArg some (by kernel_rfl))
  f46 := ⟨Tryz.f139.name, by decide, Tryz.func139.trans (congrArg some (by kernel_rfl))⟩
  f47 := Tryz.func140.trans (congrArg some (by kernel_rfl))
  f48 := Tryz.func141.trans (congrArg some (by kernel_rfl))
  f49 := ⟨Tryz.f142.name, by decide, Tryz.func142.trans (congrArg some (by kernel_rfl))⟩
  f50 := ⟨Tryz.f143.name, by decide, Tryz.func143.trans (congrArg some (by kernel_rfl))⟩
  f57 := ⟨Tryz.f151.name, by decide, Tryz.func151.trans (congrArg some (by kernel_rfl))⟩
  t0 := Tryz.underlying0
  a0 := Tryz.isAgg0
  z0 := Tryz.sizeOf0
  v0 := Tryz.zeroValue0
  t3 := Tryz.underlying3
  a3 := Tryz.isAgg3
  z3 := Tryz.sizeOf3
  v3 := Tryz.zeroValue3
  t4 := Tryz.underlying4
  a4 := Tryz.isAgg4
  z4 := Tryz.sizeOf4
  v4 := Tryz.zeroValue4
  t5 := Tryz.underlying5
  a5 := Tryz.isAgg5
  z5 := Tryz.sizeOf5
  v5 := Tryz.zeroValue5
  t9 := Tryz.underlying9
  a9 := Tryz.isAgg9
  z9 := Tryz.sizeOf9
  v9 := Tryz.zeroValue9
  t22 := Tryz.underlying28
  a22 := Tryz.isAgg28
  z22 := Tryz.sizeOf28
  v22 := Tryz.zeroValue28
  t25 := Tryz.underlying120
  a25 := Tryz.isAgg120
  z25 := Tryz.sizeOf120
  v25 := Tryz.zeroValue120
  t39 := Tryz.underlying133
  a39 := Tryz.isAgg133
  z39 := Tryz.sizeOf133
  v39 := Tryz.zeroValue133
  t45 := Tryz.underlying144
  a45 := Tryz.isAgg144
  z45 := Tryz.sizeOf144
  v45 := Tryz.zeroValue144
  t46 := Tryz.underlying145
  a46 := Tryz.isAgg145
  z46 := Tryz.sizeOf145
  v46 := Tryz.zeroValue145
  t50 := Tryz.underlying149
  a50 := Tryz.isAgg149
  z50 := Tryz.sizeOf149
  v50 := Tryz.zeroValue149
  t53 := Tryz.underlying124
  a53 := Tryz.isAgg124
  z53 := Tryz.sizeOf124
  v53 := Tryz.zeroValue124
  t55 := Tryz.underlying139
  a55 := Tryz.isAgg139
  z55 := Tryz.sizeOf139
  v55 := Tryz.zeroValue139
  t66 := Tryz.underlying160
  a66 := Tryz.isAgg160
  z66 := Tryz.sizeOf160
  v66 := Tryz.zeroValue160
  t70 := Tryz.underlying164
  a70 := Tryz.isAgg164
  z70 := Tryz.sizeOf164
  v70 := Tryz.zeroValue164
  t76 := Tryz.underlying167
  a76 := Tryz.isAgg167
  z76 := Tryz.sizeOf167
  v76 := Tryz.zeroValue167
  t77 := Tryz.underlying168
  a77 := Tryz.isAgg168
  z77 := Tryz.sizeOf168
  v77 := Tryz.zeroValue168 }
end Go.Proofs
namespace Go.Proofs.YtjbnmeofjiokeaaGreatDoor.Ev
open Go.RowKit
open Go.Proofs.YtjbnmeofjiokeaaGreatDoor.Mem
set_option linter.unusedVariables false
set_option linter.unusedSimpArgs false
set_option maxRecDepth 100000
instance : Inhabited Ent := ⟨dE⟩
def encE (x : Ent) : List Value := [.int .i64 x.kind, .int .i64 x.mode, .string (tx x.sum), .string (tx x.path), .string (tx x.target)]
def cfE (x y : Ent) : Int := Lib.compareBytes x.path y.path
theorem cmp_neg : ∀ a b : List UInt8, decide (Lib.compareBytes a b < 0) = lt' a b
  | [], [] => by decide
  | [], b :: l => by unfold Lib.compareBytes; rfl
  | a :: l, [] => by unfold Lib.compareBytes; rfl
  | a :: l, b :: r => by
    have ih := cmp_neg l r
    unfold Lib.compareBytes lt' Op.bytesLess
    by_cases h1 : a < b
    · simp [h1]
    · by_cases h2 : b < a
      · simp only [h1, h2, if_true, if_false]
        have : ¬ a = b := fun e => by subst e; exact h1 h2
        simp [this]
      · have e : a = b := UInt8.toNat_inj.1 (by have h1' : ¬ a.toNat < b.toNat := h1; have h2' : ¬ b.toNat < a.toNat := h2; omega)
        subst e
        simp only [h1, if_false]
        unfold lt' at ih
        simpa using ih
theorem ltE (x y : Ent) : Go.Proofs.ltOf cfE x y = lt' x.path y.path := cmp_neg _ _
theorem lt_ntr {a b c : List UInt8} (h1 : lt' a b = false) (h2 : lt' b c = false) : lt' a c = false := by
  rw [← Bool.not_eq_true]
  intro h
  rcases lt_tot a b with h3 | h3 | h3
  · rw [h1] at h3; cases h3
  · subst h3; rw [h2] at h; cases h
  · have := lt_tr h3 h; rw [h2] at this; cases this
theorem swoE : Go.Sort.SWO (Go.Proofs.ltOf cfE) where
  irrefl x := by rw [ltE]; exact lt_irr _
  trans x y z h1 h2 := by rw [ltE] at *; exact lt_tr h1 h2
  ntrans x y z h1 h2 := by rw [ltE] at *; exact lt_ntr h1 h2
open Go.Sort in
def sortE (l : List Ent) : List Ent := (pdq (Go.Proofs.ltOf cfE) l.toArray 0 l.toArray.size (Lib.bitLen l.toArray.size) true true).toList
open Go.Sort in
theorem sortE_both (l : List Ent) : (sortE l).Perm l ∧ Srt (sortE l) := by
  obtain ⟨⟨h1, h2, h3⟩, h4⟩ := pdq_sorts (Go.Proofs.ltOf cfE) swoE l.toArray 0 l.toArray.size (Lib.bitLen l.toArray.size) true true (Nat.zero_le _) (Nat.le_refl _) (Or.inl rfl)
  generalize hd : pdq (Go.Proofs.ltOf cfE) l.toArray 0 l.toArray.size (Lib.bitLen l.toArray.size) true true = d at h1 h2 h3 h4
  have hs : sortE l = d.toList := by unfold sortE; rw [hd]
  refine ⟨?_, ?_⟩
  · rw [hs]
    have e1 : d.extract 0 l.toArray.size = d := by rw [← h1]; exact Array.extract_size
    have e2 : l.toArray.extract 0 l.toArray.size = l.toArray := Array.extract_size
    rw [e1, e2] at h3
    exact h3
  · rw [hs]
    unfold Srt
    rw [List.pairwise_iff_getElem]
    intro i j hi hj hij
    have hi' : i < d.size := by simpa using hi
    have hj' : j < d.size := by simpa using hj
    have := h4 i j (Nat.zero_le _) hij (by rw [← h1]; exact hj')
    rw [ltE, getElem!_pos d i hi', getElem!_pos d j hj'] at this
    simpa using this
theorem sortE_len (l : List Ent) : (sortE l).length = l.length := (sortE_both l).1.length_eq
set_option maxHeartbeats 1000000 in
open Go.Sort in
theorem cmpE (x y : Ent) (W : World) : Calls Tryz.prog 84 #[.agg #[.int .i64 x.kind, .int .i64 x.mode, .string (tx x.sum), .string (tx x.path), .string (tx x.target)], .agg #[.int .i64 y.kind, .int .i64 y.mode, .string (tx y.sum), .string (tx y.path), .string (tx y.target)]] W fun e w' => e = .returned (.int .i64 (cfE x y)) ∧ ∃ q os', w' = grow (W.drewN q) os' := by
  have hcon := fun W' => Tryz.strings_Compare (tx x.path) (tx y.path) W'
  rw [show Lib.compareBytes (tx x.path).data.toList (tx y.path).data.toList = cfE x y by rw [tx_dl, tx_dl]; rfl] at hcon
  generalize cfE x y = r at hcon ⊢
  generalize tx x.path = xp at hcon ⊢
  generalize tx y.path = yp at hcon ⊢
  generalize tx x.sum = xs
  generalize tx y.sum = ys
  generalize tx x.target = xt
  generalize tx y.target = yt
  go_enter Tryz.func84, Tryz.ntmps84
  go_wp2_with (go_at_call 85; refine (hcon _).mono ?_; rintro e w' ⟨rfl, rfl⟩)
  go_ret
  exact ⟨rfl, 0, _, by rw [alloc_eq_grow, alloc_eq_grow, grow_grow]; rfl⟩
theorem encE_rep {F : Nat → Prop} {W : World} {G : Gm} {x : Ent} {k : Nat} {y : V} {v : Value} (h : (cs (eEnt x))[k]? = some y) (hr : Rep F W G y v) : (encE x)[k]? = some v := by
  have h : [V.n .i64 x.kind, V.n .i64 x.mode, V.s x.sum, V.s x.path, V.s x.target][k]? = some y := h
  rcases k with _ | _ | _ | _ | _ | k
  · simp at h; subst h; rw [hr.n_inv]; rfl
  · simp at h; subst h; rw [hr.n_inv]; rfl
  · simp at h; subst h; rw [hr.s_inv]; rfl
  · simp at h; subst h; rw [hr.s_inv]; rfl
  · simp at h; subst h; rw [hr.s_inv]; rfl
  · simp at h
theorem rep_encE {F : Nat → Prop} {W : World} {G : Gm} {x : Ent} {k : Nat} {y : V} (h : (cs (eEnt x))[k]? = some y) : ∃ v, (encE x)[k]? = some v ∧ Rep F W G y v := by
  have h : [V.n .i64 x.kind, V.n .i64 x.mode, V.s x.sum, V.s x.path, V.s x.target][k]? = some y := h
  rcases k with _ | _ | _ | _ | _ | k
  · simp at h; subst h; exact ⟨_, rfl, .n _ _ _⟩
  · simp at h; subst h; exact ⟨_, rfl, .n _ _ _⟩
  · simp at h; subst h; exact ⟨_, rfl, .s _ _⟩
  · simp at h; subst h; exact ⟨_, rfl, .s _ _⟩
  · simp at h; subst h; exact ⟨_, rfl, .s _ _⟩
  · simp at h
open Go.Sort in
theorem flatE_get {l : List Ent} {t : Nat} (ht : t < l.length * 5) : (flatK encE 5 l.toArray)[t]? = (encE (l.getD (t / 5) dE))[t % 5]? := by
  have h1 : t / 5 < l.length := by omega
  have h2 : t % 5 < 5 := Nat.mod_lt _ (by decide)
  have h3 : t < l.toArray.size * 5 := by simpa using ht
  rw [Array.getElem?_eq_getElem (by rw [size_flatK]; exact h3), ← getElem!_pos _ t (by rw [size_flatK]; exact h3), get_flatK _ _ _ _ h3]
  have hd : l.toArray[t / 5]! = l.getD (t / 5) dE := by
    rw [getElem!_pos _ _ (by simpa using h1), List.getD_eq_getElem?_getD, List.getElem?_eq_getElem h1]
    simp
  rw [hd, getElem!_pos (encE _) (t % 5) (by show t % 5 < 5; exact h2), List.getElem?_eq_getElem (by show t % 5 < 5; exact h2)]
open Go.Sort in
theorem flat_of {l : List Ent} {xs : List Value} (hl : xs.length = l.length * 5) (h : ∀ (q : Nat) (x : Ent), l[q]? = some x → ∀ (k : Nat) (v : Value), (encE x)[k]? = some v → xs[q * 5 + k]? = some v) : xs = (flatK encE 5 l.toArray).toList := by
  apply List.ext_getElem?
  intro t
  by_cases ht : t < l.length * 5
  · have h1 : t / 5 < l.length := by omega
    have h2 : t % 5 < 5 := Nat.mod_lt _ (by decide)
    have e1 : t / 5 * 5 + t % 5 = t := by omega
    have hx : l[t / 5]? = some (l.getD (t / 5) dE) := by rw [List.getD_eq_getElem?_getD, List.getElem?_eq_getElem h1]; rfl
    have h3 := h (t / 5) _ hx (t % 5) _ (List.getElem?_eq_getElem (by show t % 5 < 5; exact h2))
    rw [e1] at h3
    rw [h3, Array.getElem?_toList, flatE_get ht, List.getElem?_eq_getElem (by show t % 5 < 5; exact h2)]
  · rw [List.getElem?_eq_none (by omega), List.getElem?_eq_none (by simp; omega)]
open Go.Sort in
theorem srt_heap {W : World} {g n k : Nat} {d : Array Ent} {os : Array Obj} (hk : k < W.heap.size) : (sortWorldK encE 5 W g 0 n d os).heap[k]? = if g = k then W.heap[k]?.map (onCells (putCells id 0 (flatK encE 5 d))) else W.heap[k]? := by
  unfold sortWorldK Go.Sort.grow putRowK putRow mapBlock Go.Sort.ahead
  dsimp only
  rw [Array.getElem?_append_left (by simpa using hk), Array.getElem?_modify]
open Go.Sort in
set_option maxHeartbeats 1000000 in
theorem sort_ok (l : List Ent) (hl : l.length < 4611686018427387904) : SpecP Tryz.prog LL 83 [.ow 1000000000 l.length, .fn 84] [(1000000000, rE l)] (.tp []) [(1000000000, rE (sortE l))] := by
  refine ⟨⟨Tryz.f83, Tryz.func83, by kernel_rfl, by kernel_rfl⟩, ⟨by simp, by simp, fun k h => by simp [men, menL] at h, fun p hp k hk => by rw [List.mem_singleton] at hp; subst hp; exact (nomatch hk), fun k _ h => ?_⟩, fun S t W G xs hL ht hxs hx hS hB hap => ?_⟩
  · obtain ⟨b, hb⟩ := h
    rw [List.mem_singleton, Prod.mk.injEq] at hb
    exact ⟨rE l, by rw [hb.1]; simp⟩
  obtain ⟨v, u, rfl⟩ := two_arg hxs
  have h0 := hx 0 _ v rfl rfl
  have h1 := hx 1 _ u rfl rfl
  have hfn : u = .func (.func 84) #[] #[] := by cases h1; rfl
  obtain ⟨e1, ao, c, e2⟩ := h0.ow_inv
  obtain ⟨⟨ys, ho, hob, hel⟩, hown⟩ := hB _ (List.mem_singleton.2 rfl)
  have apn : ∀ l' : List Ent, apB G [(1000000000, rE l')] := fun l' p hp q hq hne => by
    rw [List.mem_singleton] at hp hq
    subst hp; subst hq
    exact absurd rfl hne
  rcases ho.2 with ⟨h5, h6⟩ | ⟨g, cap, cur, h5, k1, k2, k3, k4, k5, k6⟩
  · have hl0 : l = [] := List.eq_nil_of_length_eq_zero h6
    subst hl0
    rw [e1, h5, hfn]
    refine (AnyF.slices_SortFunc_none Tryz.laysSort none 0 _ W).mono ?_
    rintro e W' ⟨rfl, rfl⟩
    have es : sortE [] = [] := List.eq_nil_of_length_eq_zero (sortE_len [])
    rw [es]
    exact ⟨_, S, G, rfl, ⟨rfl, rfl, rfl, Nat.le_refl _, fun _ _ _ => rfl⟩, fun g hg => ⟨hS g hg, .inr (.inr hg)⟩, .tp _ _ _ rfl (fun q y v h => by simp at h), fun p hp => ⟨(hB p hp).1, fun g hg => ⟨.inr ⟨p, hp, hg⟩, ((hB p hp).2 g hg).2⟩⟩, hap, fun _ _ _ => rfl⟩
  · have hgb : (G 1000000000).2.ownBlock = some g := by rw [h5]; rfl
    obtain ⟨o1, o2, o3⟩ := hown g hgb
    have hys : ys = (flatK encE 5 l.toArray).toList := flat_of ho.1 fun q x hq k v hv => by
      obtain ⟨q1, q2, q3⟩ := hel q x hq
      have hk : k < 5 := (List.getElem?_eq_some_iff.1 hv).1
      obtain ⟨w, hw, hr⟩ := q3 k _ (List.getElem?_eq_getElem (by rw [q1]; exact hk))
      have := encE_rep (x := x) (k := k) (List.getElem?_eq_getElem (by rw [q1]; exact hk)) hr
      rw [hv] at this
      rw [hw, ← this]
    have hcur : ∀ t, t < l.length * 5 → cur[t]? = (flatK encE 5 l.toArray)[t]? := fun t ht => by
      have : (cur.toList.take (l.length * 5))[t]? = ys[t]? := by rw [k6]
      rw [List.getElem?_take, if_pos ht, hys] at this
      simpa using this
    have hH : HoldsK encE 5 W g 0 l.toArray := fun j hj => by
      have hj' : j < l.length * 5 := by simpa using hj
      have h7 := hcur j hj'
      rw [Array.getElem?_eq_getElem (xs := flatK encE 5 l.toArray) (by simpa using hj')] at h7
      refine ⟨?_, ?_⟩
      · simp only [World.cell?, k2, Nat.zero_add]
        rw [h7, getElem!_pos _ j hj]
        rfl
      · simp [World.frozen?, k2]
    have hsz : (Lib.bitLen l.toArray.size) = Lib.bitLen l.toArray.size := rfl
    have eg : ∀ args w, (callFunc 84 args).run Tryz.prog w = .ok (.enter 84 args) w := enters_of Tryz.func84 (by kernel_rfl) rfl
    have hcon := AnyQ.slices_SortFunc_eq Tryz.laysSort 5 Tryz.isAgg53 Tryz.sizeOf53 encE (fun _ => rfl) (fun x v hv => by simp [encE] at hv; rcases hv with rfl | rfl | rfl | rfl | rfl <;> rfl) cfE swoE 84 #[] g 0 cap l.toArray W eg (fun m os dk hs x y => cmpE x y _) hH o2 (by simpa using hl)
    rw [show l.toArray.size = l.length by simp] at hcon
    rw [e1, h5, hfn]
    refine Calls.mono hcon ?_
    rintro e W' ⟨rfl, n, os, hW⟩
    have hd : (pdq (Go.Proofs.ltOf cfE) l.toArray 0 l.length (Lib.bitLen l.length) true true) = (sortE l).toArray := by unfold sortE; simp
    rw [hd] at hW
    have hW0 : W'.os = W.os ∧ W'.tape = W.tape ∧ W'.output = W.output ∧ W.heap.size ≤ W'.heap.size := by
      subst hW
      refine ⟨rfl, rfl, rfl, ?_⟩
      show _ ≤ (_ ++ os).size
      rw [Array.size_append]
      have := size_putRow id (Go.Sort.ahead W n) g 0 (flatK encE 5 (sortE l).toArray)
      have e : (putRowK encE 5 (Go.Sort.ahead W n) g 0 (sortE l).toArray).heap.size = W.heap.size := this
      rw [e]
      exact Nat.le_add_right _ _
    have hg' : W'.heap[g]? = some (.cells (putCells id 0 (flatK encE 5 (sortE l).toArray) cur) 53 (0, 0)) := by
      rw [hW, srt_heap o2, if_pos rfl, k2]
      rfl
    have hso : ∀ t, t < (sortE l).length * 5 → (putCells id 0 (flatK encE 5 (sortE l).toArray) cur)[t]? = (flatK encE 5 (sortE l).toArray)[t]? := fun t ht => by
      have ht2 : t < cur.size := by
        rw [sortE_len] at ht
        rw [k5]
        have := Nat.mul_le_mul_right 5 k3
        omega
      have ht3 : t < (flatK encE 5 (sortE l).toArray).size := by simpa using ht
      unfold putCells
      rw [Array.getElem?_mapIdx, Array.getElem?_eq_getElem ht2, Option.map_some, if_pos ⟨Nat.zero_le _, by omega⟩, Array.getElem?_eq_getElem ht3, Nat.sub_zero, getElem!_pos _ t ht3]
      rfl
    have hrow : W'.ownsRow 0 53 5 (G 1000000000).2 (sortE l).length (flatK encE 5 (sortE l).toArray).toList := by
      refine ⟨by simp, .inr ⟨g, cap, _, by rw [h5, sortE_len], Nat.zero_le _, hg', by rw [sortE_len]; exact k3, k4, by rw [← k5]; simp [putCells], ?_⟩⟩
      apply List.ext_getElem?
      intro t
      by_cases ht : t < (sortE l).length * 5
      · rw [List.getElem?_take, if_pos ht, Array.getElem?_toList, hso t ht, Array.getElem?_toList]
      · rw [List.getElem?_take, if_neg ht, List.getElem?_eq_none (by simpa using Nat.le_of_not_lt ht)]
    refine ⟨_, fun _ => False, G, rfl, ⟨hW0.1, hW0.2.1, hW0.2.2.1, hW0.2.2.2, fun k hk hn => ?_⟩, fun k h => h.elim, .tp _ _ _ rfl (fun q y v h => by simp at h), fun p hp => ?_, apn _, fun _ _ _ => rfl⟩
    · rw [hW, srt_heap hk, if_neg]
      intro e
      exact hn ⟨_, List.mem_singleton.2 rfl, by rw [← e]; exact hgb⟩
    · rw [List.mem_singleton] at hp
      subst hp
      refine ⟨⟨_, hrow, hob, fun q x hq => ⟨rfl, fun k => rfl, fun k y hy => ?_⟩⟩, fun k hk => ⟨.inr ⟨_, List.mem_singleton.2 rfl, hk⟩, Nat.lt_of_lt_of_le (hown k hk).2.1 hW0.2.2.2, fun h => h⟩⟩
      obtain ⟨v, hv, hr⟩ := rep_encE (F := fun _ => False) (W := W') (G := G0) hy
      have hq' : q < (sortE l).length := (List.getElem?_eq_some_iff.1 hq).1
      have hk : k < 5 := (List.getElem?_eq_some_iff.1 hv).1
      refine ⟨v, ?_, hr⟩
      rw [Array.getElem?_toList, flatE_get (by omega), show (q * 5 + k) / 5 = q by omega, show (q * 5 + k) % 5 = k by omega, List.getD_eq_getElem?_getD, hq]
      exact hv
end Go.Proofs.YtjbnmeofjiokeaaGreatDoor.Ev
namespace Go.Proofs.YtjbnmeofjiokeaaGreatDoor.Ev
open Go.RowKit
open Go.Proofs.YtjbnmeofjiokeaaGreatDoor.Mem
set_option linter.unusedVariables false
set_option linter.unusedSimpArgs false
set_option maxRecDepth 100000
open Classical in
theorem packs_ok (l : List Man) (hl : l.length ≤ 1353245080300) (h1 : ∀ m ∈ l, m.Fit) : Spec Tryz.prog LL 35 [.sl 5 Man dMn l eMan] (.b (decide (PkOk l))) := by
  refine spec_of (C := ⟨Tryz.prog, LL, EE, []⟩) (rl := [.b (decide (PkOk l))]) (rs := [.tmp 2]) CCx LLs Tryz.func35 rfl (by kernel_rfl) rfl (by kernel_rfl) (Nat.le_of_ble_eq_true rfl) (fun i => rfl) (fun i => by first | rfl | exact (Bool.or_false _).trans (eSd_men _ _)) rfl (by decide) ?_
  refine gb ?_
  refine br (fun a => ?_) (fun a => ?_)
  · try refine gb ?_
    rw [decide_eq_false fun h : PkOk l => absurd h.len (by omega)]
  · try refine gb ?_
    refine lp_hd [0, 8, 9] [] (fun i : Nat => [(10, .n .i64 (i : Int))]) (fun i : Nat => []) (fun i : Nat => i ≤ l.length ∧ ∀ j, j < i → checkM (l.getD j dMn) = 0 ∧ (0 < j → lt' (l.getD (j - 1) dMn).name (l.getD j dMn).name = true)) (fun i : Nat => l.length - i) (0) id (id) ⟨Nat.zero_le _, fun j h => absurd h (Nat.not_lt_zero _)⟩ (fits_of (gb ?_) (gb ?_) (gb ?_) (gb ?_) (gb ?_)) ?_
    · first | exact True.intro | exact ⟨rfl, rfl⟩ | exact ⟨rfl, rfl, rfl⟩ | rfl | exact rowc (List.map_id _) | trivial
    · first | exact True.intro | exact ⟨rfl, rfl⟩ | exact ⟨rfl, rfl, rfl⟩ | rfl | exact rowc (List.map_id _) | trivial
    · first | exact True.intro | exact ⟨rfl, rfl⟩ | exact ⟨rfl, rfl, rfl⟩ | rfl | exact rowc (List.map_id _) | trivial
    · first | exact True.intro | exact ⟨rfl, rfl⟩ | exact ⟨rfl, rfl, rfl⟩ | rfl | exact rowc (List.map_id _) | trivial
    · first | exact True.intro | exact ⟨rfl, rfl⟩ | exact ⟨rfl, rfl, rfl⟩ | rfl | exact rowc (List.map_id _) | trivial
    rintro i ⟨hi, hr⟩
    try refine gb ?_
    refine br (fun e => ?_) (fun e => ?_)
    · have hi2 : i < l.length := by omega
      have hm : l.getD i dMn ∈ l := getD_mem hi2
      have no1 : ¬ checkM (l.getD i dMn) = 0 → false = decide (PkOk l) := fun h => (decide_eq_false fun hp : PkOk l => h (hp.chk _ hm)).symm
      have no2 : 0 < i → lt' (l.getD (i - 1) dMn).name (l.getD i dMn).name = false → false = decide (PkOk l) := fun h0 h => (decide_eq_false fun hp : PkOk l => by
        have := (ris_map (·.name) l dMn).2 hp.names i h0 hi2
        rw [h] at this; cases this).symm
      have yes : checkM (l.getD i dMn) = 0 → (0 < i → lt' (l.getD (i - 1) dMn).name (l.getD i dMn).name = true) → ∀ j, j < i + 1 → checkM (l.getD j dMn) = 0 ∧ (0 < j → lt' (l.getD (j - 1) dMn).name (l.getD j dMn).name = true) := fun h1 h2 j hj => by
        rcases Nat.lt_or_ge j i with h | h
        · exact hr j h
        · rw [show j = i by omega]; exact ⟨h1, h2⟩
      have hf := h1 _ hm
      clear hr
      try refine gb ?_
      refine cd (check_ok (l.getD i dMn) hf) ?_
      refine gb ?_
      repeat' (first | exact True.intro | (exact no1 (by assumption)) | (exact no2 (by omega) (by simp_all)) | (refine ⟨i + 1, ⟨by omega, yes (by first | assumption | omega | simp_all) (fun _ => by first | omega | simp_all)⟩, (by omega), fits_of (gb ?_) (gb ?_) (gb ?_) (gb ?_) (gb ?_)⟩ <;> (first | exact True.intro | exact ⟨rfl, rfl⟩ | exact ⟨rfl, rfl, rfl⟩ | rfl | exact rowc (List.map_id _) | trivial); done) | (rw [show ((i : Int) - 1).toNat = i - 1 by omega]) | refine br (fun h => ?_) (fun h => ?_) | refine gb ?_)
    · try refine gb ?_
      rw [decide_eq_true]
      refine ⟨by omega, fun m hm => ?_, (ris_map (·.name) l dMn).1 fun j h0 hj => (hr j (by omega)).2 h0⟩
      obtain ⟨j, hj, rfl⟩ := List.getElem_of_mem hm
      have := (hr j (by omega)).1
      rwa [getD_get hj] at this
theorem ents_len2 {l : List Man} (h : ∀ m ∈ l, m.ents.length ≤ 64) : (entsOf l).length ≤ l.length * 64 := by
  induction l with
  | nil => simp [entsOf]
  | cons m r ih =>
    rw [show entsOf (m :: r) = m.ents ++ entsOf r by simp [entsOf], List.length_append, List.length_cons]
    have := h m (by simp)
    have := ih fun y hy => h y (by simp [hy])
    omega
theorem ents_take (l : List Man) (i : Nat) (hi : i < l.length) : entsOf (l.take (i + 1)) = entsOf (l.take i) ++ (l.getD i dMn).ents := by
  rw [take_at l i dMn hi]
  simp [entsOf]
theorem places_ok (l : List Man) (hl : l.length ≤ 32) (h : ∀ m ∈ l, m.ents.length ≤ 64) : Spec Tryz.prog LL 61 [.sl 5 Man dMn l eMan] (.sl 5 Ent dE (sortE (entsOf l)) eEnt) := by
  refine spec_of (C := ⟨Tryz.prog, LL, EE, []⟩) (rl := [.sl 5 Ent dE (sortE (entsOf l)) eEnt]) (rs := [.tmp 2]) CCx LLs Tryz.func61 rfl (by kernel_rfl) rfl (by kernel_rfl) (Nat.le_of_ble_eq_true rfl) (fun i => rfl) (fun i => by first | rfl | exact (Bool.or_false _).trans (eSd_men _ _)) rfl (by decide) ?_
  refine gb ?_
  refine lp_nil 3 53 hEn (gb ?_) (gb ?_) ?_
  · trivial
  · trivial
  refine lp_hr [6, 7] [] (fun x : Nat => [(3, .ow 3 (entsOf (l.take x)).length), (8, .n .i64 (x : Int))]) (fun x : Nat => [(3, rE (entsOf (l.take x)))]) (fun x : Nat => x ≤ l.length) (fun x : Nat => l.length - x) (0) id (Nat.zero_le _) (fits_of (gb ?_) (gb ?_) (gb ?_) (gb ?_) (gb ?_)) ?_
  · first | exact True.intro | exact ⟨rfl, rfl⟩ | exact ⟨rfl, rfl, rfl⟩ | rfl | exact rowc (List.map_id _) | trivial
  · first | exact True.intro | exact ⟨rfl, rfl⟩ | exact ⟨rfl, rfl, rfl⟩ | rfl | exact rowc (List.map_id _) | trivial
  · first | exact True.intro | exact ⟨rfl, rfl⟩ | exact ⟨rfl, rfl, rfl⟩ | rfl | exact rowc (List.map_id _) | trivial
  · first | exact True.intro | exact ⟨rfl, rfl⟩ | exact ⟨rfl, rfl, rfl⟩ | rfl | exact rowc (List.map_id _) | trivial
  · first | exact True.intro | exact ⟨rfl, rfl⟩ | exact ⟨rfl, rfl, rfl⟩ | rfl | exact rowc (List.map_id _) | trivial
  rintro i hi
  have hlen := ents_len2 fun m hm => h m (List.mem_of_mem_take (i := i) hm)
  have hlen2 : (l.take i).length ≤ 32 := by rw [List.length_take]; omega
  try refine gb ?_
  refine br (fun e => ?_) (fun e => ?_)
  · have htk := ents_take l i (by omega)
    have hm := h _ (getD_mem (x := dMn) (show i < l.length by omega))
    try refine gb ?_
    refine ⟨i + 1, fun i => if i = 3 then 15 else i, (by omega), (by omega), fits_of (gb ?_) (gb ?_) (gb ?_) (gb ?_) (gb ?_)⟩
    · first | exact True.intro | exact ⟨rfl, rfl⟩ | exact ⟨rfl, rfl, rfl⟩ | rfl | exact rowc (List.map_id _) | trivial
    · (first | trivial | exact ⟨rfl, rfl⟩ | simp [htk])
    · first | exact True.intro | exact ⟨rfl, rfl⟩ | exact ⟨rfl, rfl, rfl⟩ | rfl | exact rowc (List.map_id _) | trivial
    · (first | trivial | exact rowc (by rw [htk]; exact congrArg _ (List.map_id _)))
    · first | exact True.intro | exact ⟨rfl, rfl⟩ | exact ⟨rfl, rfl, rfl⟩ | rfl | exact rowc (List.map_id _) | trivial
  · rw [List.take_of_length_le (by omega)] at hlen ⊢
    try refine gb ?_
    refine cp (fun i => if i = 1000000000 then 3 else i) (fun i => if i = 1000000000 then 3 else i) (sort_ok (entsOf l) (by omega)) (gb ?_) (gb ?_) (gb ?_) (gb ?_) (gb ?_) ?_
    · first | trivial | exact ⟨rfl, rfl⟩ | exact ⟨rfl, rfl, rfl⟩ | exact le_refl _
    · first | trivial | exact ⟨rfl, rfl⟩ | exact ⟨rfl, rfl, rfl⟩ | exact le_refl _
    · first | trivial | exact ⟨rfl, rfl⟩ | exact ⟨rfl, rfl, rfl⟩ | exact le_refl _
    · first | trivial | exact ⟨rfl, rfl⟩ | exact ⟨rfl, rfl, rfl⟩ | exact le_refl _
    · first | trivial | exact ⟨rfl, rfl⟩ | exact ⟨rfl, rfl, rfl⟩ | exact le_refl _
    refine gb ?_
    rw [if_pos (sortE_len _).symm]
    exact le_refl _
def sharedM (l : List Man) : List Shr × Bool := match sharedF (sortE (entsOf l)) dE [] with
  | some D => (D, true)
  | none => ([], false)
def hSh : Elp := ⟨3, Shr, dS, eShr, cShr⟩
theorem set_last (o : List Shr) (h : o ≠ []) (d : Shr) : o.set (o.length - 1) d = o.dropLast ++ [d] := by
  obtain ⟨a, x, rfl⟩ : ∃ a x, o = a ++ [x] := ⟨_, _, (List.dropLast_concat_getLast h).symm⟩
  simp
theorem shared_ok (l : List Man) (hl : l.length ≤ 32) (h : ∀ m ∈ l, m.ents.length ≤ 64) : Spec Tryz.prog LL 36 [.sl 5 Man dMn l eMan] (.tp [.sl 3 Shr dS (sharedM l).1 eShr, .b (sharedM l).2]) := by
  refine spec_of (C := ⟨Tryz.prog, LL, EE, []⟩) (rl := [.sl 3 Shr dS (sharedM l).1 eShr, .b (sharedM l).2]) (rs := [.tmp 2, .tmp 3]) CCx LLs Tryz.func36 rfl (by kernel_rfl) rfl (by kernel_rfl) (Nat.le_of_ble_eq_true rfl) (fun i => rfl) (fun i => by first | rfl | exact (Bool.or_false _).trans (eSd_men _ _)) rfl (by decide) ?_
  refine gb ?_
  refine cl (places_ok l hl h) ?_
  refine gb ?_
  have hlen : (sortE (entsOf l)).length ≤ 2048 := by
    rw [sortE_len]
    have := ents_len2 h
    omega
  have hs : sharedM l = match sharedF (sortE (entsOf l)) dE [] with
    | some D => (D, true)
    | none => ([], false) := rfl
  generalize sortE (entsOf l) = S at hlen hs ⊢
  refine lp_nil 4 61 hSh (gb ?_) (gb ?_) ?_
  · trivial
  · trivial
  refine lp_hr [11, 12] [] (fun x : Nat × Ent × List Shr => [(4, .ow 4 x.2.2.length), (5, .p 5 0), (13, .n .i64 (x.1 : Int))]) (fun x : Nat × Ent × List Shr => [(5, .cells 53 [.n .i64 x.2.1.kind, .n .i64 x.2.1.mode, .s x.2.1.sum, .s x.2.1.path, .s x.2.1.target]), (4, rSh x.2.2)]) (fun x : Nat × Ent × List Shr => x.1 ≤ S.length ∧ x.2.2.length ≤ x.1 ∧ (x.2.1.kind = 2 → x.2.2 ≠ []) ∧ (∀ d ∈ x.2.2, 0 ≤ d.refs ∧ d.refs ≤ x.1) ∧ sharedF S dE [] = sharedF (S.drop x.1) x.2.1 x.2.2) (fun x : Nat × Ent × List Shr => S.length - x.1) ((0, dE, [])) id ⟨Nat.zero_le _, Nat.le_refl _, fun h => absurd h (by decide), fun d hd => absurd hd List.not_mem_nil, rfl⟩ (fits_of (gb ?_) (gb ?_) (gb ?_) (gb ?_) (gb ?_)) ?_
  · first | exact True.intro | exact ⟨rfl, rfl⟩ | exact ⟨rfl, rfl, rfl⟩ | rfl | exact rowc (List.map_id _) | trivial
  · first | exact True.intro | exact ⟨rfl, rfl⟩ | exact ⟨rfl, rfl, rfl⟩ | rfl | exact rowc (List.map_id _) | trivial
  · first | exact True.intro | exact ⟨rfl, rfl⟩ | exact ⟨rfl, rfl, rfl⟩ | rfl | exact rowc (List.map_id _) | trivial
  · first | exact True.intro | exact ⟨rfl, rfl⟩ | exact ⟨rfl, rfl, rfl⟩ | rfl | exact rowc (List.map_id _) | trivial
  · first | exact True.intro | exact ⟨rfl, rfl⟩ | exact ⟨rfl, rfl, rfl⟩ | rfl | exact rowc (List.map_id _) | trivial
  rintro ⟨i, last, out⟩ ⟨hi, h1, h2, h3, hr⟩
  dsimp only at hi h1 h2 h3 hr ⊢
  try refine gb ?_
  refine br (fun e => ?_) (fun e => ?_)
  · rw [drop_at S i dE (by omega), sharedF] at hr
    try refine gb ?_
    generalize S.getD i dE = x at hr ⊢
    have hno : sharedF S dE [] = none → sharedM l = ([], false) := fun h => by rw [hs, h]
    refine br (fun c => ?_) (fun c => ?_)
    · rw [if_pos c] at hr
      by_cases k1 : ¬ x.kind = 2 ∨ ¬ last.kind = 2
      · rw [if_pos k1] at hr
        have hno := hno hr
        repeat' (first | exact True.intro | (rw [hno]; exact ⟨lenl _ _ _ _ ▸ trivial, rfl⟩) | (exfalso; omega) | refine br (fun h => ?_) (fun h => ?_) | refine gb ?_)
      · rw [if_neg k1] at hr
        have k2 : x.kind = 2 := by omega
        have k3 : last.kind = 2 := by omega
        have hne := h2 k3
        have hpos := List.length_pos_iff.2 hne
        have hlx : ((out.length : Int) - 1).toNat = out.length - 1 := by omega
        have hlm : out.getD (out.length - 1) dS ∈ out := getD_mem (by omega)
        have hgl : out.getLastD dS = out.getD (out.length - 1) dS := by
          obtain ⟨a, y, rfl⟩ : ∃ a y, out = a ++ [y] := ⟨_, _, (List.dropLast_concat_getLast hne).symm⟩
          simp [List.getD_eq_getElem?_getD]
        have hrf := h3 _ hlm
        rw [hgl, ← set_last out hne] at hr
        have hset : ∀ d ∈ out.set (out.length - 1) ⟨(out.getD (out.length - 1) dS).path, (out.getD (out.length - 1) dS).refs + 1, (out.getD (out.length - 1) dS).made⟩, 0 ≤ d.refs ∧ d.refs ≤ ((i + 1 : Nat) : Int) := fun d hd => by
          rcases List.mem_or_eq_of_mem_set hd with hd | rfl
          · have := h3 d hd; omega
          · dsimp only; omega
        repeat' (first | exact True.intro | (exfalso; omega) | (exfalso; contradiction) | (rw [hlx]) | refine br (fun h => ?_) (fun h => ?_) | refine gb ?_)
        refine ⟨(i + 1, x, out.set (out.length - 1) ⟨(out.getD (out.length - 1) dS).path, (out.getD (out.length - 1) dS).refs + 1, (out.getD (out.length - 1) dS).made⟩), id, ⟨by dsimp only; omega, by dsimp only; rw [List.length_set]; omega, fun _ h => hne (by have := congrArg List.length h; dsimp only at this; rw [List.length_set] at this; exact List.length_eq_zero_iff.1 this), hset, hr⟩, (by dsimp only; omega), fits_of (gb ?_) (gb ?_) (gb ?_) (gb ?_) (gb ?_)⟩
        · first | exact True.intro | exact ⟨rfl, rfl⟩ | exact ⟨rfl, rfl, rfl⟩ | rfl | exact rowc (List.map_id _) | trivial
        · first | exact True.intro | exact ⟨rfl, rfl⟩ | exact ⟨rfl, rfl, rfl⟩ | rfl | exact rowc (List.map_id _) | trivial
        · first | exact True.intro | exact ⟨rfl, rfl⟩ | exact ⟨rfl, rfl, rfl⟩ | rfl | exact rowc (List.map_id _) | trivial
        · first | exact True.intro | exact ⟨rfl, rfl⟩ | exact ⟨rfl, rfl, rfl⟩ | rfl | exact rowc (List.map_id _) | trivial
        · first | exact True.intro | exact ⟨rfl, rfl⟩ | exact ⟨rfl, rfl, rfl⟩ | rfl | exact rowc (List.map_id _) | trivial
    · rw [if_neg c] at hr
      try refine gb ?_
      refine br (fun c0 => ?_) (fun c0 => ?_)
      · exact absurd c0 c
      · try refine gb ?_
        refine br (fun k1 => ?_) (fun k1 => ?_)
        · rw [if_pos k1] at hr
          try refine gb ?_
          refine .inr ?_
          try refine gb ?_
          refine ⟨(i + 1, x, out ++ [⟨x.path, 1, false⟩]), fun i => if i = 4 then 52 else i, ⟨by dsimp only; omega, by simp; omega, fun _ => by simp, fun d hd => by rcases List.mem_append.1 hd with hd | hd <;> first | (have := h3 d hd; dsimp only; omega) | (rw [List.mem_singleton] at hd; subst hd; dsimp only; omega), hr⟩, (by dsimp only; omega), fits_of (gb ?_) (gb ?_) (gb ?_) (gb ?_) (gb ?_)⟩
          · first | exact True.intro | exact ⟨rfl, rfl⟩ | exact ⟨rfl, rfl, rfl⟩ | rfl | exact rowc (List.map_id _) | trivial
          · (first | trivial | exact ⟨rfl, rfl⟩ | simp)
          · first | exact True.intro | exact ⟨rfl, rfl⟩ | exact ⟨rfl, rfl, rfl⟩ | rfl | exact rowc (List.map_id _) | trivial
          · first | exact True.intro | exact ⟨rfl, rfl⟩ | exact ⟨rfl, rfl, rfl⟩ | rfl | exact rowc (List.map_id _) | trivial
          · first | exact True.intro | exact ⟨rfl, rfl⟩ | exact ⟨rfl, rfl, rfl⟩ | rfl | exact rowc (List.map_id _) | trivial
        · rw [if_neg k1] at hr
          try refine gb ?_
          refine ⟨(i + 1, x, out), id, ⟨by dsimp only; omega, by dsimp only; omega, fun h => absurd h k1, fun d hd => by have := h3 d hd; dsimp only; omega, hr⟩, (by dsimp only; omega), fits_of (gb ?_) (gb ?_) (gb ?_) (gb ?_) (gb ?_)⟩
          · first | exact True.intro | exact ⟨rfl, rfl⟩ | exact ⟨rfl, rfl, rfl⟩ | rfl | exact rowc (List.map_id _) | trivial
          · first | exact True.intro | exact ⟨rfl, rfl⟩ | exact ⟨rfl, rfl, rfl⟩ | rfl | exact rowc (List.map_id _) | trivial
          · first | exact True.intro | exact ⟨rfl, rfl⟩ | exact ⟨rfl, rfl, rfl⟩ | rfl | exact rowc (List.map_id _) | trivial
          · first | exact True.intro | exact ⟨rfl, rfl⟩ | exact ⟨rfl, rfl, rfl⟩ | rfl | exact rowc (List.map_id _) | trivial
          · first | exact True.intro | exact ⟨rfl, rfl⟩ | exact ⟨rfl, rfl, rfl⟩ | rfl | exact rowc (List.map_id _) | trivial
  · try refine gb ?_
    rw [List.drop_eq_nil_of_le (by omega), sharedF] at hr
    rw [hs, hr]
    exact ⟨le_refl _, rfl⟩
theorem bas_pk {b : Bas} (h : BasOk b) : PkOk b.packs := ⟨h.len, h.chk, h.names⟩
theorem pk_ents {l : List Man} (h : PkOk l) : ∀ m ∈ l, m.ents.length ≤ 64 := fun m hm => (ManOk.of (h.chk m hm)).el
end Go.Proofs.YtjbnmeofjiokeaaGreatDoor.Ev
