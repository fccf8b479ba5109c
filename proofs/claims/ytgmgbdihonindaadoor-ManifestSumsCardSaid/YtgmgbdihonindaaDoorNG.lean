/- The law of sums: the reference's SHA-256 and its two signs. -/
import Derived.Test.YtgmgbdihonindaaDoorNF
import Derived.Test.YtgmgbdihonindaaDoorKF
import Derived.ProofKit
import Derived.OpenShut
import Derived.LaidMore
set_option linter.all false
namespace Go.Proofs.YtgmgbdihonindaaDoor.Ev.Sm
open Go.RowKit
open Go.Proofs.YtgmgbdihonindaaDoor.Mem
set_option linter.unusedVariables false
set_option linter.unusedSimpArgs false
set_option maxRecDepth 100000
def LL : World → Prop := fun w => Ev.LL w ∧ Sha.KT 0 w
theorem LLs : Stab LL := fun w W h hb => ⟨Ev.LLs w W h.1 hb, Sha.KT.below h.2 hb h.2.lt⟩
theorem CCx : (⟨Tryd.prog, LL, EE, []⟩ : Cx).P.follows .mixedOrders = true := by kernel_rfl
theorem more {P : Program} {f : Nat} {av : List V} {r : V} (h : Spec P Ev.LL f av r) : Spec P LL f av r := ⟨h.1, h.2.1, fun S W xs hL => h.2.2 S W xs hL.1⟩
theorem rsum_ok (s : List UInt8) (hs : s.length ≤ 250000) : Spec Tryd.prog LL 13 [.s s] (.s (Sha.sha (tx s))) := by
  refine Spec.of (fn := Tryd.f13) Tryd.func13 (by kernel_rfl) (by kernel_rfl) (fun _ => rfl) fun S W xs hL hz hx _ => ?_
  rw [ag1 hz hx rfl]
  exact (Sha.refsum_any (tx s) W (by rw [tx_size]; exact hs) hL.2).mono fun e W' h => ⟨_, h.1, h.2, .s _ _⟩
theorem sha_len (s : ByteArray) : (Sha.sha s).length = 32 := Sha.spellN_length _ 8
theorem dp : ∀ p, p < 16 → List.drop p ((48 : UInt8) :: List.take p [49, 50, 51, 52, 53, 54, 55, 56, 57, 97, 98, 99, 100, 101, 102]) = [sgn p] := by decide
theorem rhex_ok (s : List UInt8) (hs : s.length ≤ 1000000) : Spec Tryd.prog LL 14 [.s s] (.s (hexL s)) := by
  refine spec_of (C := ⟨Tryd.prog, LL, EE, []⟩) (rl := [.s (hexL s)]) (rs := [.tmp 2]) CCx LLs Tryd.func14 rfl (by kernel_rfl) rfl (by kernel_rfl) (Nat.le_of_ble_eq_true rfl) (fun i => rfl) (fun i => by first | rfl | exact (Bool.or_false _).trans (eSd_men _ _)) rfl (by decide) ?_
  refine gr ?_
  refine lp_hd [0] [] (fun i : Nat => [(3, .s (hexL (s.take i))), (4, .n .i64 (i : Int))]) (fun i : Nat => []) (fun i : Nat => i ≤ s.length) (fun i : Nat => s.length - i) (0) id (id) (Nat.zero_le _) (fits_of (gr ?_) (gr ?_) (gr ?_) (gr ?_) (gr ?_)) ?_
  · first | exact True.intro | exact ⟨rfl, rfl⟩ | exact ⟨rfl, rfl, rfl⟩ | rfl | exact rowc (List.map_id _) | trivial
  · first | exact True.intro | exact ⟨rfl, rfl⟩ | exact ⟨rfl, rfl, rfl⟩ | rfl | exact rowc (List.map_id _) | trivial
  · first | exact True.intro | exact ⟨rfl, rfl⟩ | exact ⟨rfl, rfl, rfl⟩ | rfl | exact rowc (List.map_id _) | trivial
  · first | exact True.intro | exact ⟨rfl, rfl⟩ | exact ⟨rfl, rfl, rfl⟩ | rfl | exact rowc (List.map_id _) | trivial
  · first | exact True.intro | exact ⟨rfl, rfl⟩ | exact ⟨rfl, rfl, rfl⟩ | rfl | exact rowc (List.map_id _) | trivial
  rintro i hi
  try refine gr ?_
  refine br (fun e => ?_) (fun e => ?_)
  · try refine gr ?_
    have hl := hexL_len (s.take i)
    rw [List.length_take] at hl
    have hb := by_lt s i
    have htk : hexL (s.take (i + 1)) = hexL (s.take i) ++ [sgn (by' s i / 16), sgn (by' s i % 16)] := by
      rw [take_at s i 0 (by omega), hexL, List.flatMap_append]
      rfl
    have d1 : ((by' s i : Nat) : Int).tdiv 16 = ((by' s i / 16 : Nat) : Int) := rfl
    have d2 : ((by' s i : Nat) : Int).tmod 16 = ((by' s i % 16 : Nat) : Int) := rfl
    have w8 : ∀ x : Nat, x < 256 → IntKind.u8.wrap (x : Int) = x := fun x h1 => by simp [IntKind.wrap, IntKind.bits, IntKind.signed]; omega
    have hp : by' s i / 16 < 16 := by omega
    have hq : by' s i % 16 < 16 := Nat.mod_lt _ (by omega)
    rw [d1, d2]
    generalize by' s i / 16 = p at *
    generalize by' s i % 16 = q at *
    rw [w8 p (by omega), show (p : Int) + 1 = ((p + 1 : Nat) : Int) from rfl, show (q : Int) + 1 = ((q + 1 : Nat) : Int) from rfl, w8 (p + 1) (by omega), w8 (q + 1) (by omega)]
    try refine gr ?_
    refine ⟨i + 1, (by omega), (by omega), fits_of (gr ?_) (gr ?_) (gr ?_) (gr ?_) (gr ?_)⟩
    · first | exact True.intro | exact ⟨rfl, rfl⟩ | exact ⟨rfl, rfl, rfl⟩ | rfl | exact rowc (List.map_id _) | trivial
    · (rw [htk, dp p hp, dp q hq]; exact ⟨rfl, rfl⟩)
    · first | exact True.intro | exact ⟨rfl, rfl⟩ | exact ⟨rfl, rfl, rfl⟩ | rfl | exact rowc (List.map_id _) | trivial
    · first | exact True.intro | exact ⟨rfl, rfl⟩ | exact ⟨rfl, rfl, rfl⟩ | rfl | exact rowc (List.map_id _) | trivial
    · first | exact True.intro | exact ⟨rfl, rfl⟩ | exact ⟨rfl, rfl, rfl⟩ | rfl | exact rowc (List.map_id _) | trivial
  · try refine gr ?_
    rw [List.take_of_length_le (by omega)]
def sM (k : Int) (sm : List UInt8) : Man := ⟨[112], [49], [], [], [⟨k, 420, sm, [102], []⟩]⟩
theorem sM_ok {k : Int} {sm : List UInt8} (hk : k = 1 ∨ k = 5) (h : sm.length = 32) : checkM (sM k sm) = 0 := by
  have hE : entryM ⟨k, 420, sm, [102], []⟩ = 0 := by
    have h0 : (partsM [102]).2 = 0 := by decide +kernel
    have h1 : resB [102] = false := by decide +kernel
    have hz : sizeM k = 32 := by rcases hk with rfl | rfl <;> decide
    unfold entryM
    dsimp only
    rw [if_neg (fun e => e h0), if_neg (by rw [h1]; decide), if_neg (fun e => e (by unfold knd; omega)), if_neg (by rw [hz]; omega), if_neg (by omega), if_neg (fun e => e.2 rfl)]
  have hN : nameB [112] = true := by decide +kernel
  have hV : verB [49] = true := by decide +kernel
  have hP : parentM [102] = [] := by decide +kernel
  have hF : entF [⟨k, 420, sm, [102], []⟩] 0 = 0 := by
    unfold entF
    rw [List.getD_cons_zero, hE, if_neg (by simp), if_neg (by omega), if_neg (fun e => e.1 hP)]
  unfold checkM sM
  dsimp only
  rw [hN, hV, if_neg (by simp), if_neg (by simp), if_neg (by simp)]
  show entsFrom _ 1 0 = 0
  unfold entsFrom
  rw [hF, if_neg (by simp)]
  rfl
theorem sM_fit {k : Int} {sm : List UInt8} (h : sm.length = 32) : (sM k sm).Fit := Man.In.fit (k := 1) (n := 32) (by unfold Man.In sM; simp; omega) (by omega) (by omega)
def sT (w sm : List UInt8) : List UInt8 := [104, 111, 108, 100, 97, 108, 108, 32, 49, 10, 110, 97, 109, 101, 32, 112, 10, 118, 101, 114, 115, 105, 111, 110, 32, 49, 10] ++ w ++ [32, 48, 54, 52, 52, 32] ++ hexL sm ++ [32, 102, 10]
theorem sM_text {k : Int} {sm : List UInt8} (hk : k = 1 ∨ k = 5) : textM (sM k sm) = sT (if k = 5 then wConf else wFile) sm := by
  have ho : octD 4 (420 : Int).toNat = [48, 54, 52, 52] := by decide
  unfold textM preL sM rulesL entsL entL lineL sT
  simp only [List.flatMap_cons, List.flatMap_nil, List.append_nil]
  rw [if_neg (by omega), if_neg (by omega), ho]
  rw [join2, join2, join4]
  simp [wHead, wName, wVers]
set_option maxHeartbeats 4000000 in
theorem sums_ok (s : List UInt8) (c : Bool) (hs : s.length ≤ 9223372036854775807) : Spec Tryd.prog LL 5 [.s s, .b c] (.b true) := by
  refine spec_of (C := ⟨Tryd.prog, LL, EE, []⟩) (rl := [.b true]) (rs := [.tmp 4]) CCx LLs Tryd.func5 rfl (by kernel_rfl) rfl (by kernel_rfl) (Nat.le_of_ble_eq_true rfl) (fun i => rfl) (fun i => by first | rfl | exact (Bool.or_false _).trans (eSd_men _ _)) rfl (by decide) ?_
  refine gr ?_
  refine br (fun a => ?_) (fun a => ?_)
  · try refine gr ?_
    refine cl (more awake_ok) ?_
    refine gr ?_
    trivial
  · try refine gr ?_
    refine cl (rsum_ok s (by omega)) ?_
    refine gr ?_
    have hl := sha_len (tx s)
    generalize Sha.sha (tx s) = sm at hl ⊢
    refine br (fun b => ?_) (fun b => ?_)
    · try refine gr ?_
      refine .inr ?_
      refine cln (more (print_ok (sM 5 sm) (sM_fit hl))) (gr ?_) ?_
      · repeat' apply And.intro
        all_goals first | exact le_refl _ | exact le_nl | trivial
      rw [print_some (sM_ok (.inr rfl) hl), sM_text (.inr rfl)]
      try refine gr ?_
      refine cl (more awake_ok) ?_
      refine gr ?_
      refine cl (rhex_ok sm (by omega)) ?_
      refine gr ?_
      have hx := hexL_len sm
      exact ⟨by omega, by omega, by unfold sT; simp [wConf, wFile]⟩
    · try refine gr ?_
      refine .inr ?_
      refine cln (more (print_ok (sM 1 sm) (sM_fit hl))) (gr ?_) ?_
      · repeat' apply And.intro
        all_goals first | exact le_refl _ | exact le_nl | trivial
      rw [print_some (sM_ok (.inl rfl) hl), sM_text (.inl rfl)]
      try refine gr ?_
      refine cl (more awake_ok) ?_
      refine gr ?_
      refine cl (rhex_ok sm (by omega)) ?_
      refine gr ?_
      have hx := hexL_len sm
      exact ⟨by omega, by omega, by unfold sT; simp [wConf, wFile]⟩
end Go.Proofs.YtgmgbdihonindaaDoor.Ev.Sm
set_option linter.unusedVariables false
namespace Go.Proofs.YtgmgbdihonindaaDoor.Ev.Sm
open Go.ChangeShapes Go.WideShapes Go.ChangeAt Go.RowKit Go.ChangeMaps
open Go.Proofs.YtgmgbdihonindaaDoor.Sha
open Go.Shelf
set_option maxRecDepth 100000
theorem arr_cells {H : Type} {enc : TypeId × Value → H} {P : Program} {w : World} {base : Nat} {sp : Nat → Bool} {held : Bool} {fuel n : Nat} {t e : TypeId} {k : IntKind} {cs : List Value} {q : List MemPlace} {L : List Int}
    (ht : P.underlying t = some (.array n e)) (he : P.underlying e = some (.int k)) (hc : P.cellsOf e = 1)
    (hd : DataW.trod enc P w base sp held fuel t cs = some (.agg (L.map fun x => .lit (.int k x)), q)) (i : Nat) (hi : i < n) (x : Int) (hx : L[i]? = some x) : cs[i]? = some (.int k x) := by
  obtain ⟨xs, m, rfl, hxs, _, _, hel⟩ := DataW.trod_array ht hd
  have h0 := hel i hi
  rw [hc, Nat.mul_one] at h0
  simp only [Prod.mk.injEq, DataW.agg.injEq] at hxs
  have h1 : (L.map fun x => DataW.lit (H := H) (.int k x))[i]? = (xs.map (·.1))[i]? := by rw [hxs.1]
  rw [List.getElem?_map, List.getElem?_map, hx] at h1
  cases hxi : xs[i]? with
  | none => rw [hxi] at h1; cases h1
  | some y =>
    rw [hxi] at h0 h1
    obtain ⟨n', e1, e2, _⟩ := DataW.trod_int he h0
    rw [e2] at h1
    simp only [Option.map_some, Option.some.injEq, DataW.lit.injEq, Lit.int.injEq, true_and] at h1
    subst h1
    have h2 := congrArg (·[0]?) e1
    simp only [List.getElem?_take, List.getElem?_drop] at h2
    simpa using h2
theorem gT : Tryd.prog.globalNamed "holdall/holdallref01.table" = some 0 := by kernel_rfl
theorem laid_T : (Rows.laid_holdall_holdallref01_table : DataW Unit) = .agg ((ktab.map nt).map fun x => .lit (.int .u32 x)) := by kernel_rfl
theorem ktab_at (j : Nat) (h : j < 64) : (ktab.map nt)[j]? = some (nt (kt j)) := by
  have hl : ktab.length = 64 := by decide +kernel
  rw [List.getElem?_map, List.getElem?_eq_getElem (by omega)]
  unfold kt
  rw [List.getD_eq_getElem?_getD, List.getElem?_eq_getElem (by omega)]; rfl
theorem kt_of {W : World} {g : Nat} {nm : String} {t : TypeId} {cs : Array Value} {fuel : Nat} {q : List MemPlace} {e : TypeId} {enc : TypeId × Value → Unit} {base : Nat} {sp : Nat → Bool} {held : Bool}
    (hg : Tryd.prog.globalNamed nm = some g) (ht : Tryd.prog.underlying t = some (.array 64 e)) (he : Tryd.prog.underlying e = some (.int .u32)) (hc : Tryd.prog.cellsOf e = 1)
    (hv : W.var? Tryd.prog nm = some cs) (hd : DataW.trod enc Tryd.prog W base sp held fuel t cs.toList = some (.agg ((ktab.map nt).map fun x => .lit (.int .u32 x)), q)) : KT g W := by
  intro j hj
  rw [World.var?_cell hg hv j]
  have := arr_cells ht he hc hd j hj _ (ktab_at j hj)
  simpa using this
theorem t0 : (Tryd.prog.globals[0]?).map (·.type) = some 80 := by kernel_rfl
theorem c32 : Tryd.prog.cellsOf 57 = 1 := by kernel_rfl
def laidS : List (String × DataW Unit) := [("holdall/holdallref01.table", Rows.laid_holdall_holdallref01_table), ("unicode/utf8.acceptRanges", Rows.laid_unicode_utf8_acceptRanges), ("unicode/utf8.first", Rows.laid_unicode_utf8_first)]
theorem of_tab {W : World} (h : laidMetH Tryd.prog laidS W) : KT 0 W := by
  rw [MakeChecks.laidMetH_plain _ _ _ (by kernel_rfl)] at h
  obtain ⟨ps, ⟨g0, u0, cs0, f0, p0, q0, hg0, ht0, hv0, hd0, _⟩, _⟩ := h
  obtain rfl := Option.some.inj (gT.symm.trans hg0)
  obtain rfl := Option.some.inj (t0.symm.trans ht0)
  rw [laid_T] at hd0
  exact kt_of hg0 Tryd.underlying80 Tryd.underlying57 c32 hv0 hd0
theorem laid_ofS {W : World} (hL : laidMetH Tryd.prog laidS W) (hS : W.ShapedOpen Tryd.prog) : LL W := by
  refine ⟨⟨?_, Tryd.laysM145.s1_3 W hS⟩, of_tab hL⟩
  have h1 := Lib.laidMet.reads hL (.tail _ (.tail _ (.head _)))
  have h2 := Lib.laidMet.reads hL (.tail _ (.head _))
  rw [fst_eq] at h1
  rw [acc_eq] at h2
  exact utf8Tabs_of_readsT (U8Types.of196 Tryd.laysValid) ⟨by kernel_rfl, by kernel_rfl, by kernel_rfl, by kernel_rfl, by kernel_rfl, by kernel_rfl, by kernel_rfl⟩ h1 h2
noncomputable def laidWorldS (os : Os) : World :=
  let w0 := World.holding Tryd.prog os ⟨#[], #[], []⟩
  let put (h : Array Obj) (g : Nat) (cs : Array Value) : Array Obj := h.modify g fun
    | .cells _ t frozen => .cells cs t frozen
    | o => o
  let h0 := put w0.heap 0 (ktab.map fun z => Value.int .u32 (nt z)).toArray
  let h1 := put h0 2 (Lib.firstTab.map fun z => Value.int .u8 z).toArray
  let h2 := put h1 3 ((List.range 16).flatMap fun i => [Value.int .u8 (Lib.accLo i), Value.int .u8 (Lib.accHi i)]).toArray
  { w0 with heap := h2 }
theorem laid_metS (os : Os) (args : Array Value) : laidMet Tryd.prog laidS ((laidWorldS os).forCall (fun _ _ => 0) ⟨#[], args, []⟩).memory :=
by
  unfold laidS
  rw [acc_eq, fst_eq, laid_T]
  exact (LaidIn.of_run (l := [("holdall/holdallref01.table", .agg ((ktab.map nt).map fun x => .lit (.int .u32 x))), ("unicode/utf8.acceptRanges", Lib.acceptData), ("unicode/utf8.first", Lib.firstData)]) [0, 3, 2] 8 (by kernel_rfl) (by kernel_rfl) (by kernel_rfl) (by kernel_rfl)).met
end Go.Proofs.YtgmgbdihonindaaDoor.Ev.Sm
