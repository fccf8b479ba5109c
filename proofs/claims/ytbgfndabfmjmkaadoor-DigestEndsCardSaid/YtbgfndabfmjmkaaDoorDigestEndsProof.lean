/- DigestEnds: the sum of a message of any length up to 300 bytes, all of them one byte, is the reference's; no conditions. -/
import Derived.Test.YtbgfndabfmjmkaaDoorRows
import Derived.Test.YtbgfndabfmjmkaaDoorLaid
import Derived.Test.YtbgfndabfmjmkaaDoorRefC
import Derived.WalkKit
import Derived.Deep.RegionHeld3
import Derived.ProofKit
import Derived.OpenShut
import Derived.ShutString
import Derived.LaidMore
import Derived.SevenTiedAt
import Derived.Test.YtbgfndabfmjmkaaDoorTie
import Derived.Test.YtbgfndabfmjmkaaDoorCards
namespace Go.Proofs.YtbgfndabfmjmkaaDoor.digestEnds
open Go.ChangeShapes Go.WideShapes Go.ChangeAt Go.RowKit
open Go.ChangeMaps (open_string shut_string)
set_option linter.unusedVariables false      -- a walk need not use every 'w<i>' (that an integer argument fits its kind)

theorem own : ownKnob Tryd.prog.godebug = none := by kernel_rfl

theorem buf_below {w w' : World} {base : Nat} {v : Value} {l : List UInt8} (h : Buf.Buf w base v l) (hb : Below w.heap.size w w') : Buf.Buf w' base v l := by
  obtain ⟨h1, h2⟩ := h
  refine ⟨h1, h2.imp id ?_⟩
  rintro ⟨g, cap, cur, e1, e2, e3, rest⟩
  exact ⟨g, cap, cur, e1, e2, by rw [hb.block g (Array.getElem?_eq_some_iff.1 e3).1]; exact e3, rest⟩
theorem conv_keep {wr W : World} {B : Nat} {v : Value} {l : List UInt8} (hbuf : Buf.Buf wr B v l) (h : Below wr.heap.size wr W) :
    (convert 26 9 v).run Tryd.prog W = .ok (.string ⟨l.toArray⟩) W ∧ Hid (Below wr.heap.size wr W) := ⟨Buf.buf_string (buf_below hbuf h), h⟩

theorem walk (a0 : Int) (a1 : Int) (w0 : (Lit.int .u16 a0).wf = true) (w1 : (Lit.int .u8 a1).wf = true) (w : World) (hk : Sha.KT 0 w ∧ Sha.KT 1 w) :
    Calls Tryd.prog 4 #[.int .u16 a0, .int .u8 a1] w fun e w' => e = .returned (.bool true) ∧ Below w.heap.size w w' := by
  have HK := Lib.hid hk.1
  have HT := Lib.hid hk.2
  clear hk
  obtain ⟨i0, hi, hz0, hz1, hz2⟩ := info_parts Buf.info5
  have hw1 := w1
  have hw0 := w0
  simp [Lit.wf] at hw1 hw0
  have e0 : IntKind.u8.min = 0 := rfl
  have e1 : IntKind.u8.max = 255 := rfl
  have e2 : IntKind.u16.min = 0 := rfl
  have e3 : IntKind.u16.max = 65535 := rfl
  obtain ⟨n, hn⟩ : ∃ n : Nat, a0 % 301 = (n : Int) := ⟨(a0 % 301).toNat, by omega⟩
  obtain ⟨x, rfl⟩ : ∃ x : UInt8, (x.toNat : Int) = a1 := ⟨UInt8.ofNat a1.toNat, by rw [UInt8.toNat_ofNat']; omega⟩
  have hn300 : n ≤ 300 := by omega
  have hm1 : i0.bytes * n ≤ 281474976710656 := by rw [hz2]; omega
  have hm2 : n ≤ maxLen := by unfold maxLen; omega
  have hwr : IntKind.i64.wrap a0 = a0 := IntWalk.i64_in _ (by omega)
  have HN := Lib.hid (show a0.tmod 301 = (n : Int) by rw [Int.tmod_eq_emod_of_nonneg (by omega)]; exact hn)
  clear e0 e1 e2 e3 hw1 hw0 w0 w1 hn hz2
  go_enter Tryd.func4, Tryd.ntmps4
  go_wp2_with (at_make; refine wpList_make_full _ rfl _ _ 26 rfl w.heap.size 5 i0 (.int .u8 0) 1 Tryd.underlying26 hi hz0 hz1 .i64 .i64 _ _ n rfl rfl HN.out HN.out hm1 hm2 (Nat.le_refl _) ?_; intro w1 hown hgrow)
  have hbuf := Buf.buf_made hown
  have hbel : Below w.heap.size w w1 := (Below.refl _ _).grown hgrow (Nat.le_refl _) (fun _ h => by cases h)
  clear hown hgrow hm1 hm2 hi hz0 hz1 hwr HN
  go_loopw [6] (fun iv wr => ∃ (k : Nat) (l : List UInt8), k ≤ n ∧ iv = .int .i64 k ∧ l.length = n ∧ Hid (Buf.Buf wr w.heap.size (.slice (some ⟨w.heap.size, 0, none⟩) n n) l) ∧ Below w.heap.size w wr) (fun iv _ => n - (intOf iv).toNat)
  case atStart => exact ⟨0, _, Nat.zero_le _, rfl, List.length_replicate .., hbuf, hbel⟩
  case round =>
    clear hbuf hbel
    obtain ⟨k, l, hk, rfl, hl, hbuf, hbel⟩ := hrel
    have HL := Lib.hid hl
    clear hl
    by_cases hlt : k < n
    · have hk0 : (0 : Int) ≤ (k : Int) := by omega
      have hkn : (k : Int) < (n : Int) := by omega
      have hc := Buf.buf_cell hbuf.out HL.out.symm k (by rw [HL.out]; exact hlt)
      have hfz := Buf.buf_frozen hbuf.out HL.out.symm k
      obtain ⟨v0, hv0⟩ : ∃ v, wr.cell? ⟨w.heap.size, k, none⟩ = some v := ⟨_, hc⟩
      clear hc
      go_wp2
      go_roundw
      case rel => exact ⟨k + 1, l.set k x, by omega, by go_num, by rw [List.length_set]; exact HL.out, Buf.buf_store hbuf.out HL.out.symm k x, hbel.setCell (Nat.le_refl _) _⟩
      case measure => simp [intOf]; omega
    · obtain rfl : k = n := by omega
      obtain ⟨S, HS, RS⟩ : ∃ S : List UInt8, Hid (Sha.sha ⟨l.toArray⟩ = S) ∧ Hid (∀ W, Sha.KT 1 W → Calls Tryd.prog 11 #[.string ⟨l.toArray⟩] W fun e w' => e = .returned (.string ⟨S.toArray⟩) ∧ Below W.heap.size W w') :=
        ⟨_, rfl, fun W hW => Sha.refsum_any ⟨l.toArray⟩ W (by have := HL.out; show l.length ≤ _; omega) hW⟩
      have HK2 := Lib.hid (HK.out.below hbel HK.out.lt)
      have HT2 := Lib.hid (HT.out.below hbel HT.out.lt)
      have hsz : (⟨l.toArray⟩ : ByteArray).size ≤ 250000 := by have := HL.out; show l.length ≤ _; omega
      go_wp2_with fail
      go_region_held3 (fun w' => (convert 26 9 (.slice (some ⟨w.heap.size, 0, none⟩) k k)).run Tryd.prog w' = .ok (.string ⟨l.toArray⟩) w' ∧ Hid (Below wr.heap.size wr w')) (first | exact conv_keep hbuf.out ((Below.refl _ _).drew) | exact conv_keep hbuf.out hb2) ((first
        | (go_at_call 9; have hH := (‹_ ∧ Hid (Below wr.heap.size wr _)›).2.out; refine (Sha.awake _ (HK2.out.below hH HK2.out.lt)).mono ?_; rintro e' w2 ⟨rfl, hb2⟩; replace hb2 := hH.trans (hb2.mono hH.size))
        | (go_at_call 10; have hH := (‹_ ∧ Hid (Below wr.heap.size wr _)›).2.out; refine (Sha.sum_at ⟨l.toArray⟩ _ hsz (HK2.out.below hH HK2.out.lt) S HS.out).mono ?_; rintro e' w2 ⟨rfl, hb2⟩; replace hb2 := hH.trans (hb2.mono hH.size))
        | (go_at_call 11; have hH := (‹_ ∧ Hid (Below wr.heap.size wr _)›).2.out; refine (RS.out _ (HT2.out.below hH HT2.out.lt)).mono ?_; rintro e' w2 ⟨rfl, hb2⟩; replace hb2 := hH.trans (hb2.mono hH.size))))
      all_goals
        go_wp2
        go_ret
        exact ⟨rfl, hbel.trans ((‹_ ∧ Hid (Below wr.heap.size wr _)›).2.out.mono hbel.size)⟩

/-! ### THE ROW's STEP: WRITTEN OUT: LEAVE IT -/
set_option maxRecDepth 100000 in
theorem lifted (os : Os) (started : os.Started) (H : Type) (enc : TypeId × Value → H) :
    ReturnsInHanded {} Tryd.checked os 4 .any (fun w args => (Rows.digestEndsSpec.pre enc Tryd.prog Tryd.f4 [] false w args ∧ laidMetH Tryd.prog Sha.two w) ∧ sizedMet enc Tryd.prog Tryd.f4 (OpenSpec.ofChange Rows.digestEndsSpec) false w args) (Rows.digestEndsSpec.post enc Tryd.prog Tryd.f4 false true false false) := by
  refine returnsInHanded_of_change_and (C := Tryd.checked) (X := fun w _ => laidMetH Tryd.prog Sha.two w) (fun _ _ _ hh h => h.of_heap hh) own started (by kernel_rfl) Tryd.func4
    (ChangeSpec.witness_shaped (enc := enc) (C := Tryd.checked) (os := os) (X := fun w _ => laidMetH Tryd.prog Sha.two w) false (World.doorLaid Tryd.prog 400 os) #[.int .u16 0, .int .u8 0] 8 rfl (World.shaped_of_RefB (by kernel_rfl) (by kernel_rfl)) (by kernel_rfl) (by kernel_rfl) (by kernel_rfl) (Sha.met_two os _)) ?_
  intro W base args ds gs before hval0 hW _ _ hL _
  have hval : ∀ (j : Nat) t v, Tryd.f4.params[j]? = some t → args[j]? = some v → Value.okWide Tryd.prog W .any base t v := hval0
  have hW' := hW
  obtain ⟨p, q, hA0, hV, rfl, hfz, hnd⟩ := hW
  have hA : DataW.TrodAll enc Tryd.prog W 0 (fun _ => true) true Tryd.f4.params.toList args.toList ds p := hA0
  rw [Tryd.params4] at hA hval
  obtain ⟨v0, vs0, d0, ds0, p0, q0, hargs, rfl, rfl, h0, r0⟩ := trodAll_cons hA
  obtain ⟨v1, vs1, d1, ds1, p1, q1, rfl, rfl, rfl, h1, r1⟩ := trodAll_cons r0
  obtain ⟨rfl, rfl, rfl⟩ := trodAll_nil r1
  obtain rfl : args = #[v0, v1] := by cases args; simp_all
  obtain ⟨rfl, rfl⟩ := trodVars_none hV
  obtain ⟨a0, rfl, rfl, rfl, w0⟩ := open_int Tryd.underlying25 (hval 0 25 v0 rfl rfl) h0
  obtain ⟨a1, rfl, rfl, rfl, w1⟩ := open_int Tryd.underlying5 (hval 1 5 v1 rfl rfl) h1
  clear hA0 hval0
  simp only [List.append_nil] at hW'
  refine (walk a0 a1 w0 w1 W (Sha.of_two hL)).mono fun e W' ⟨he, hg⟩ => ?_
  subst he
  exact ⟨_, rfl, _, _, _, [], [], [], hW', (trodAll_cons_mk (shut_bool Tryd.underlying4 _) trodAll_mk0), (trodAll_cons_mk (shut_int Tryd.underlying25 w0) (trodAll_cons_mk (shut_int Tryd.underlying5 w1) trodAll_mk0)), rfl, hg.frame _, fun h => by cases h⟩

theorem over : Rows.digestEndsRow.holds Tryd.pinned (OpenSpec.ofChange Rows.digestEndsSpec) :=
  OpenClaim.holds_of_wide 4 Tryd.f4 rfl rfl rfl rfl rfl rfl rfl ⟨rfl, rfl, rfl, rfl, rfl⟩ rfl rfl rfl rfl rfl (by kernel_rfl) Tryd.func4 (by kernel_rfl)
    (of_decide_eq_true (by kernel_rfl)) (by unfold Func.isWrapper; first | (rw [if_pos (by decide +kernel)]; kernel_rfl) | (rw [if_neg (by decide +kernel)]; exact ⟨rfl, rfl⟩))
    (fun os started H enc _ => lifted os started H enc)

/-- The statement: the tied card. -/
theorem proved : Rows.DigestEndsCardSaid :=
  Claim7.holds_tied_plain_at .later [] [.data, .data] true (true, "8e9f7b9b135d83a4f605c022fffade9a2ae323bc6facca77096a7213e8b1ae55") false
    over (fun _ h => by cases h) (by kernel_rfl) (fun _ h => by cases h) digestEnds_row_tie rfl ⟨rfl, rfl⟩ (by kernel_rfl) rfl
    (fun f fn hf hfn => by
      obtain rfl : f = 4 := Option.some.inj ((show Tryd.prog.funcNamed "holdall/holdalllaw01.DigestEnds" = some 4 by kernel_rfl).symm.trans hf) |>.symm
      obtain rfl : fn = Tryd.f4 := (Option.some.inj (Tryd.func4.symm.trans hfn)).symm
      exact ⟨by kernel_rfl, fun j t ht => by
        rw [Tryd.params4] at ht
        have hm : t ∈ [25, 5] := by simpa using Array.mem_of_getElem? ht
        have hall : ([25, 5].all fun u => !Tryd.prog.wantsStandIn u) = true := by kernel_rfl
        exact (show Tryd.prog.wantsStandIn t = false by simpa using List.all_eq_true.1 hall t hm)⟩)
    (by kernel_rfl)
#print axioms proved
end Go.Proofs.YtbgfndabfmjmkaaDoor.digestEnds
