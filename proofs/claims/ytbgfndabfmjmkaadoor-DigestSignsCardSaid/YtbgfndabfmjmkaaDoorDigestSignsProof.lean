/- DigestSigns: signs of bytes put together are those of each, one behind the other, all of them digits or letters from a to f; no conditions. -/
import Derived.Test.YtbgfndabfmjmkaaDoorRows
import Derived.Test.YtbgfndabfmjmkaaDoorLaid
import Derived.WalkKit
import Derived.ProofKit
import Derived.OpenShut
import Derived.ShutString
import Derived.LaidMore
import Derived.SevenTiedAt
import Derived.Test.YtbgfndabfmjmkaaDoorTie
import Derived.Test.YtbgfndabfmjmkaaDoorCards
namespace Go.Proofs.YtbgfndabfmjmkaaDoor.digestSigns
open Go.ChangeShapes Go.WideShapes Go.ChangeAt Go.RowKit
open Go.ChangeMaps (open_string shut_string)
set_option linter.unusedVariables false      -- a walk need not use every 'w<i>' (that an integer argument fits its kind)

theorem own : ownKnob Tryd.prog.godebug = none := by kernel_rfl

theorem sg_range : ∀ n : Fin 16, (48 ≤ (Hex.sg n.val).toNat ∧ (Hex.sg n.val).toNat ≤ 57) ∨ (97 ≤ (Hex.sg n.val).toNat ∧ (Hex.sg n.val).toNat ≤ 102) := by decide +kernel
theorem hex_range : ∀ l : List UInt8, ∀ x ∈ Hex.hex l, (48 ≤ x.toNat ∧ x.toNat ≤ 57) ∨ (97 ≤ x.toNat ∧ x.toNat ≤ 102)
  | [], x, h => by simp [Hex.hex] at h
  | a :: l, x, h => by
    rw [Hex.hex] at h
    simp only [List.mem_cons] at h
    rcases h with rfl | rfl | h
    · exact sg_range ⟨_, by have := a.toNat_lt; omega⟩
    · exact sg_range ⟨_, by omega⟩
    · exact hex_range l x h

theorem walk (a0 : ByteArray) (a1 : ByteArray) (w0 : a0.size ≤ maxLen) (w1 : a1.size ≤ maxLen) (w : World) (hk : Sha.KT 0 w) :
    Calls Tryd.prog 8 #[.string a0, .string a1] w fun e w' => e = .returned (.bool true) ∧ Below w.heap.size w w' := by
  have HK := Lib.hid hk
  clear hk
  by_cases hlong : (10000 : Int) < (a0.size : Int) ∨ (10000 : Int) < (a1.size : Int)
  · by_cases h1 : (10000 : Int) < (a0.size : Int)
    · go_enter Tryd.func8, Tryd.ntmps8
      go_wp2_with fail
      refine (Sha.awake _ HK.out).mono ?_
      rintro e w1 ⟨rfl, hb⟩
      go_wp2
      go_ret
      exact ⟨rfl, hb⟩
    · have h2 : (10000 : Int) < (a1.size : Int) := by omega
      go_enter Tryd.func8, Tryd.ntmps8
      go_wp2_with fail
      refine (Sha.awake _ HK.out).mono ?_
      rintro e w1 ⟨rfl, hb⟩
      go_wp2
      go_ret
      exact ⟨rfl, hb⟩
  · have hs1 : a0.size ≤ 10000 := by omega
    have hs2 : a1.size ≤ 10000 := by omega
    have d1 : decide ((a0.size : Int) > 10000) = false := decide_eq_false (by omega)
    have d2 : decide ((a1.size : Int) > 10000) = false := decide_eq_false (by omega)
    obtain ⟨A, hA⟩ : ∃ A, Hex.hex a0.data.toList = A := ⟨_, rfl⟩
    obtain ⟨B, hB⟩ : ∃ B, Hex.hex a1.data.toList = B := ⟨_, rfl⟩
    have hAB : Hex.hex (a0 ++ a1).data.toList = A ++ B := by rw [ByteArray.data_append, Array.toList_append, Hex.hex_append, hA, hB]
    have hall : ∀ x ∈ A ++ B, (48 ≤ x.toNat ∧ x.toNat ≤ 57) ∨ (97 ≤ x.toNat ∧ x.toNat ≤ 102) := by rw [← hAB]; exact hex_range _
    have hl : (A ++ B).length ≤ 40000 := by
      rw [← hAB, Hex.hex_length]; simp; omega
    obtain ⟨S, hS⟩ : ∃ S, A ++ B = S := ⟨_, rfl⟩
    rw [hS] at hAB hall hl
    have HA := Lib.hid hA
    have HB := Lib.hid hB
    have HAB := Lib.hid hAB
    have HALL := Lib.hid hall
    have HS := Lib.hid hS
    clear hA hB hAB hall hS hlong
    go_enter Tryd.func8, Tryd.ntmps8
    go_wp2_with fail
    refine (Sha.hex_at (a0 ++ a1) _ (by rw [ByteArray.size_append]; omega) S HAB.out).mono ?_
    rintro e w1 ⟨rfl, hb1⟩
    go_wp2_with fail
    have hbb := hb1
    clear hb1
    go_loopw [6] (fun iv wr => ∃ k : Nat, k ≤ S.length ∧ iv = .int .i64 (k : Int) ∧ wr = w1) (fun iv _ => S.length - (intOf iv).toNat)
    case atStart => exact ⟨0, Nat.zero_le _, rfl, rfl⟩
    case round =>
      obtain ⟨k, hk, rfl, rfl⟩ := hrel
      by_cases hlt : k < S.length
      · have HR := Lib.hid (HALL.out _ (List.getElem_mem hlt))
        go_wp2_with fail
        all_goals
          have hr : (48 ≤ ((⟨S.toArray⟩ : ByteArray)[k]'hlt).toNat ∧ ((⟨S.toArray⟩ : ByteArray)[k]'hlt).toNat ≤ 57) ∨ (97 ≤ ((⟨S.toArray⟩ : ByteArray)[k]'hlt).toNat ∧ ((⟨S.toArray⟩ : ByteArray)[k]'hlt).toNat ≤ 102) := HR.out
          first
            | exact ⟨⟨k + 1, hlt, rfl, trivial⟩, by simp only [intOf]; omega⟩
            | (exfalso; simp only [Bool.not_eq_true', decide_eq_false_iff_not] at *; omega)
      · have e2 : k = S.length := by omega
        subst e2
        go_wp2_with fail
        refine (Sha.awake _ (HK.out.below hbb HK.out.lt)).mono ?_
        rintro e w4 ⟨rfl, hb4⟩
        go_wp2_with fail
        refine (Sha.hex_at a0 _ (by omega) A HA.out).mono ?_
        rintro e w5 ⟨rfl, hb5⟩
        go_wp2_with fail
        refine (Sha.hex_at a1 _ (by omega) B HB.out).mono ?_
        rintro e w6 ⟨rfl, hb6⟩
        have e3 : (⟨S.toArray⟩ : ByteArray) = ⟨A.toArray⟩ ++ ⟨B.toArray⟩ := by
          rw [← HS.out]; apply ByteArray.ext; rw [ByteArray.data_append]; simp
        have h9 : decide (9223372036854775807 < A.length + B.length) = false := decide_eq_false (by have := congrArg List.length HS.out; rw [List.length_append] at this; omega)
        have h8 : ¬ 9223372036854775807 < A.length + B.length := of_decide_eq_false h9
        have hb5' := (hbb.trans (hb4.mono hbb.size))
        have hb6' := hb5'.trans (hb5.mono hb5'.size)
        go_wp2
        go_ret
        exact ⟨rfl, hb6'.trans (hb6.mono hb6'.size)⟩

/-! ### THE ROW's STEP: WRITTEN OUT: LEAVE IT -/
set_option maxRecDepth 100000 in
theorem lifted (os : Os) (started : os.Started) (H : Type) (enc : TypeId × Value → H) :
    ReturnsInHanded {} Tryd.checked os 8 .any (fun w args => (Rows.digestSignsSpec.pre enc Tryd.prog Tryd.f8 [] false w args ∧ laidMetH Tryd.prog Sha.one w) ∧ sizedMet enc Tryd.prog Tryd.f8 (OpenSpec.ofChange Rows.digestSignsSpec) false w args) (Rows.digestSignsSpec.post enc Tryd.prog Tryd.f8 false true false false) := by
  refine returnsInHanded_of_change_and (C := Tryd.checked) (X := fun w _ => laidMetH Tryd.prog Sha.one w) (fun _ _ _ hh h => h.of_heap hh) own started (by kernel_rfl) Tryd.func8
    (ChangeSpec.witness_shaped (enc := enc) (C := Tryd.checked) (os := os) (X := fun w _ => laidMetH Tryd.prog Sha.one w) false (World.doorLaid Tryd.prog 400 os) #[.string ByteArray.empty, .string ByteArray.empty] 8 rfl (World.shaped_of_RefB (by kernel_rfl) (by kernel_rfl)) (by kernel_rfl) (by kernel_rfl) (by kernel_rfl) (Sha.met_one os _)) ?_
  intro W base args ds gs before hval0 hW _ _ hL _
  have hval : ∀ (j : Nat) t v, Tryd.f8.params[j]? = some t → args[j]? = some v → Value.okWide Tryd.prog W .any base t v := hval0
  have hW' := hW
  obtain ⟨p, q, hA0, hV, rfl, hfz, hnd⟩ := hW
  have hA : DataW.TrodAll enc Tryd.prog W 0 (fun _ => true) true Tryd.f8.params.toList args.toList ds p := hA0
  rw [Tryd.params8] at hA hval
  obtain ⟨v0, vs0, d0, ds0, p0, q0, hargs, rfl, rfl, h0, r0⟩ := trodAll_cons hA
  obtain ⟨v1, vs1, d1, ds1, p1, q1, rfl, rfl, rfl, h1, r1⟩ := trodAll_cons r0
  obtain ⟨rfl, rfl, rfl⟩ := trodAll_nil r1
  obtain rfl : args = #[v0, v1] := by cases args; simp_all
  obtain ⟨rfl, rfl⟩ := trodVars_none hV
  obtain ⟨a0, rfl, rfl, rfl, w0⟩ := open_string Tryd.underlying9 (hval 0 9 v0 rfl rfl) h0
  obtain ⟨a1, rfl, rfl, rfl, w1⟩ := open_string Tryd.underlying9 (hval 1 9 v1 rfl rfl) h1
  clear hA0 hval0
  simp only [List.append_nil] at hW'
  refine (walk a0 a1 w0 w1 W (Sha.of_one hL)).mono fun e W' ⟨he, hg⟩ => ?_
  subst he
  exact ⟨_, rfl, _, _, _, [], [], [], hW', (trodAll_cons_mk (shut_bool Tryd.underlying4 _) trodAll_mk0), (trodAll_cons_mk (shut_string Tryd.underlying9 w0) (trodAll_cons_mk (shut_string Tryd.underlying9 w1) trodAll_mk0)), rfl, hg.frame _, fun h => by cases h⟩

theorem over : Rows.digestSignsRow.holds Tryd.pinned (OpenSpec.ofChange Rows.digestSignsSpec) :=
  OpenClaim.holds_of_wide 8 Tryd.f8 rfl rfl rfl rfl rfl rfl rfl ⟨rfl, rfl, rfl, rfl, rfl⟩ rfl rfl rfl rfl rfl (by kernel_rfl) Tryd.func8 (by kernel_rfl)
    (of_decide_eq_true (by kernel_rfl)) (by unfold Func.isWrapper; first | (rw [if_pos (by decide +kernel)]; kernel_rfl) | (rw [if_neg (by decide +kernel)]; exact ⟨rfl, rfl⟩))
    (fun os started H enc _ => lifted os started H enc)

/-- The statement: the tied card. -/
theorem proved : Rows.DigestSignsCardSaid :=
  Claim7.holds_tied_plain_at .later [] [.data] true (true, "8e9f7b9b135d83a4f605c022fffade9a2ae323bc6facca77096a7213e8b1ae55") false
    over (fun _ h => by cases h) (by kernel_rfl) (fun _ h => by cases h) digestSigns_row_tie rfl ⟨rfl, rfl⟩ (by kernel_rfl) rfl
    (fun f fn hf hfn => by
      obtain rfl : f = 8 := Option.some.inj ((show Tryd.prog.funcNamed "holdall/holdalllaw01.DigestSigns" = some 8 by kernel_rfl).symm.trans hf) |>.symm
      obtain rfl : fn = Tryd.f8 := (Option.some.inj (Tryd.func8.symm.trans hfn)).symm
      exact ⟨by kernel_rfl, fun j t ht => by
        rw [Tryd.params8] at ht
        have hm : t ∈ [9, 9] := by simpa using Array.mem_of_getElem? ht
        have hall : ([9, 9].all fun u => !Tryd.prog.wantsStandIn u) = true := by kernel_rfl
        exact (show Tryd.prog.wantsStandIn t = false by simpa using List.all_eq_true.1 hall t hm)⟩)
    (by kernel_rfl)
#print axioms proved
end Go.Proofs.YtbgfndabfmjmkaaDoor.digestSigns
