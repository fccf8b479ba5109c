/- A number that was put into a field is got from it, and a field of twelve bytes has room for each number from 0 on: OctalBack returns true, for every int and bool. No condition. -/
import Derived.Test.YtcadahlmihfmlaaRows
import Derived.Test.YtcadahlmihfmlaaOctBack
import Derived.WalkKit
import Derived.ProofKit
import Derived.OpenShut
import Derived.ShutString
namespace Go.Proofs.Ytcadahlmihfmlaa.octalBack
open Go.ChangeShapes Go.WideShapes Go.ChangeAt Go.RowKit
open Go.ChangeMaps (open_string shut_string)
set_option linter.unusedVariables false      -- a walk need not use every 'w<i>' (that an integer argument fits its kind)

theorem own : ownKnob Try.prog.godebug = none := by kernel_rfl

theorem walk (a0 : Int) (a1 : Bool) (w0 : (Lit.int .i64 a0).wf = true) (w : World) :
    Calls Try.prog 5 #[.int .i64 a0, .bool a1] w fun e w' => e = .returned (.bool true) ∧ Below w.heap.size w w' := by
  have hn : a0 < 9223372036854775808 := by have := bounds_i64 w0; omega
  cases a1
  · by_cases hE : Oct.pE a0 8 = 0
    · obtain ⟨hG, hL⟩ := Oct.put_back hn (W := 8) hE
      obtain ⟨S, hS⟩ : ∃ S, Oct.pS a0 8 = S := ⟨_, rfl⟩
      rw [hS] at hG hL
      have hL' : S.length = 8 := hL
      have HG := Lib.hid (show Oct.getR (⟨S.toArray⟩ : ByteArray).data.toList = (a0, 0) from hG)
      have HS := Lib.hid hS
      have HE := Lib.hid hE
      have HN := Lib.hid hn
      have hz : (⟨S.toArray⟩ : ByteArray).size ≤ 1000 := by show S.toArray.size ≤ 1000; rw [List.size_toArray, hL']; omega
      have HZ := Lib.hid hz
      clear hG hL hS hE hn w0 hz
      go_enter Try.func5, Try.ntmps5
      go_wp2_with fail
      refine (Oct.put_at a0 8 _ HN.out S 0 HS.out HE.out).mono ?_
      rintro e w1 ⟨rfl, hb1⟩
      go_wp2_with fail
      refine (Oct.get_at _ _ HZ.out a0 0 HG.out).mono ?_
      rintro e w2 ⟨rfl, rfl⟩
      go_wp2_with fail
      refine (Oct.awake _).mono ?_
      rintro e w3 ⟨rfl, hb3⟩
      go_wp2
      go_ret
      exact ⟨rfl, hb1.trans (hb3.mono hb1.size)⟩
    · obtain ⟨hS, hor⟩ := Oct.put_none hn (W := 8) (by omega) hE
      obtain ⟨E, hEE⟩ : ∃ E, Oct.pE a0 8 = E := ⟨_, rfl⟩
      rw [hEE] at hE
      have hE' : (E != 0) = true := by rw [bne_iff_ne]; exact hE
      have HS := Lib.hid hS
      have HE := Lib.hid hEE
      have HN := Lib.hid hn
      clear hS hE hEE w0
      by_cases hneg : a0 < 0
      · clear hor hn
        go_enter Try.func5, Try.ntmps5
        go_wp2_with fail
        refine (Oct.put_at a0 8 _ HN.out [] E HS.out HE.out).mono ?_
        rintro e w1 ⟨rfl, hb1⟩
        go_wp2_with fail
        refine (Oct.awake _).mono ?_
        rintro e w3 ⟨rfl, hb3⟩
        go_wp2
        go_ret
        exact ⟨rfl, hb1.trans (hb3.mono hb1.size)⟩
      · have hbig : decide ((72057594037927936 : Int) ≤ a0) = true := by simp; omega
        clear hor hn
        go_enter Try.func5, Try.ntmps5
        go_wp2_with fail
        refine (Oct.put_at a0 8 _ HN.out [] E HS.out HE.out).mono ?_
        rintro e w1 ⟨rfl, hb1⟩
        go_wp2_with fail
        refine (Oct.awake _).mono ?_
        rintro e w3 ⟨rfl, hb3⟩
        go_wp2
        go_ret
        exact ⟨rfl, hb1.trans (hb3.mono hb1.size)⟩
  · by_cases hE : Oct.pE a0 12 = 0
    · obtain ⟨hG, hL⟩ := Oct.put_back hn (W := 12) hE
      obtain ⟨S, hS⟩ : ∃ S, Oct.pS a0 12 = S := ⟨_, rfl⟩
      rw [hS] at hG hL
      have hL' : S.length = 12 := hL
      have HG := Lib.hid (show Oct.getR (⟨S.toArray⟩ : ByteArray).data.toList = (a0, 0) from hG)
      have HS := Lib.hid hS
      have HE := Lib.hid hE
      have HN := Lib.hid hn
      have hz : (⟨S.toArray⟩ : ByteArray).size ≤ 1000 := by show S.toArray.size ≤ 1000; rw [List.size_toArray, hL']; omega
      have HZ := Lib.hid hz
      clear hG hL hS hE hn w0 hz
      go_enter Try.func5, Try.ntmps5
      go_wp2_with fail
      refine (Oct.put_at a0 12 _ HN.out S 0 HS.out HE.out).mono ?_
      rintro e w1 ⟨rfl, hb1⟩
      go_wp2_with fail
      refine (Oct.get_at _ _ HZ.out a0 0 HG.out).mono ?_
      rintro e w2 ⟨rfl, rfl⟩
      go_wp2_with fail
      refine (Oct.awake _).mono ?_
      rintro e w3 ⟨rfl, hb3⟩
      go_wp2
      go_ret
      exact ⟨rfl, hb1.trans (hb3.mono hb1.size)⟩
    · obtain ⟨hS, hor⟩ := Oct.put_none hn (W := 12) (by omega) hE
      obtain ⟨E, hEE⟩ : ∃ E, Oct.pE a0 12 = E := ⟨_, rfl⟩
      rw [hEE] at hE
      have hE' : (E != 0) = true := by rw [bne_iff_ne]; exact hE
      have HS := Lib.hid hS
      have HE := Lib.hid hEE
      have HN := Lib.hid hn
      clear hS hE hEE w0
      by_cases hneg : a0 < 0
      · clear hor hn
        go_enter Try.func5, Try.ntmps5
        go_wp2_with fail
        refine (Oct.put_at a0 12 _ HN.out [] E HS.out HE.out).mono ?_
        rintro e w1 ⟨rfl, hb1⟩
        go_wp2_with fail
        refine (Oct.awake _).mono ?_
        rintro e w3 ⟨rfl, hb3⟩
        go_wp2
        go_ret
        exact ⟨rfl, hb1.trans (hb3.mono hb1.size)⟩
      · omega

/-! ### THE ROW's STEP: WRITTEN OUT: LEAVE IT -/
set_option maxRecDepth 100000 in
theorem lifted (os : Os) (started : os.Started) (H : Type) (enc : TypeId × Value → H) :
    ReturnsInHanded {} Try.checked os 5 .any (Rows.octalBackSpec.pre6 enc Try.prog Try.f5 Rows.octalBackRow.domain false) (Rows.octalBackSpec.post enc Try.prog Try.f5 false true false false) := by
  refine returnsInHanded_of_change (C := Try.checked) own started (by kernel_rfl) Try.func5
    (ChangeSpec.witness6 (enc := enc) (C := Try.checked) false ⟨#[], #[.int .i64 0, .bool false], []⟩ 8 (by kernel_rfl) (by kernel_rfl) (by kernel_rfl) (by kernel_rfl)) ?_
  intro W base args ds gs before hval0 hW hcnd _
  have hval : ∀ (j : Nat) t v, Try.f5.params[j]? = some t → args[j]? = some v → Value.okWide Try.prog W .any base t v := hval0
  have hW' := hW
  obtain ⟨p, q, hA0, hV, rfl, hfz, hnd⟩ := hW
  have hA : DataW.TrodAll enc Try.prog W 0 (fun _ => true) true Try.f5.params.toList args.toList ds p := hA0
  rw [Try.params5] at hA hval
  obtain ⟨v0, vs0, d0, ds0, p0, q0, hargs, rfl, rfl, h0, r0⟩ := trodAll_cons hA
  obtain ⟨v1, vs1, d1, ds1, p1, q1, rfl, rfl, rfl, h1, r1⟩ := trodAll_cons r0
  obtain ⟨rfl, rfl, rfl⟩ := trodAll_nil r1
  obtain rfl : args = #[v0, v1] := by cases args; simp_all
  obtain ⟨rfl, rfl⟩ := trodVars_none hV
  obtain ⟨a0, rfl, rfl, rfl, w0⟩ := open_int Try.underlying3 (hval 0 3 v0 rfl rfl) h0
  obtain ⟨a1, rfl, rfl, rfl⟩ := open_bool Try.underlying4 (hval 1 4 v1 rfl rfl) h1
  clear hA0 hval0
  simp only [List.append_nil] at hW'
  refine (walk a0 a1 w0 W).mono fun e W' ⟨he, hg⟩ => ?_
  subst he
  exact ⟨_, rfl, _, _, _, [], [], [], hW', (trodAll_cons_mk (shut_bool Try.underlying4 _) trodAll_mk0), (trodAll_cons_mk (shut_int Try.underlying3 w0) (trodAll_cons_mk (shut_bool Try.underlying4 _) trodAll_mk0)), rfl, hg.frame _, fun h => by cases h⟩

theorem over : Rows.octalBackRow.holds Try.pinned (OpenSpec.ofChange Rows.octalBackSpec) :=
  OpenClaim.holds_of_wide 5 Try.f5 rfl rfl rfl rfl rfl rfl rfl ⟨rfl, rfl, rfl, rfl, rfl⟩ rfl rfl rfl rfl rfl (by kernel_rfl) Try.func5 (by kernel_rfl)
    (of_decide_eq_true (by kernel_rfl)) (by unfold Func.isWrapper; first | (rw [if_pos (by decide +kernel)]; kernel_rfl) | (rw [if_neg (by decide +kernel)]; exact ⟨rfl, rfl⟩))
    (fun os started H enc _ => lifted os started H enc)

/-- ████ THE STATEMENT ████ -/
theorem proved : Rows.OctalBackSaid :=
  over
#print axioms proved
end Go.Proofs.Ytcadahlmihfmlaa.octalBack
