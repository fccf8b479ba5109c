/- A number has room in so many octal digits just if it is below 8 to that power, and is read from them: OctalFits returns true, for every int and uint8. No condition. -/
import Derived.Test.YtcadahlmihfmlaaRows
import Derived.Test.YtcadahlmihfmlaaOctBack
import Derived.Lib.Hide
import Derived.WalkKit
import Derived.ProofKit
import Derived.OpenShut
import Derived.ShutString
namespace Go.Proofs.Ytcadahlmihfmlaa.octalFits
open Go.ChangeShapes Go.WideShapes Go.ChangeAt Go.RowKit
open Go.ChangeMaps (open_string shut_string)
set_option linter.unusedVariables false      -- a walk need not use every 'w<i>' (that an integer argument fits its kind)

theorem own : ownKnob Try.prog.godebug = none := by kernel_rfl

theorem walk (a0 : Int) (a1 : Int) (w0 : (Lit.int .i64 a0).wf = true) (w1 : (Lit.int .u8 a1).wf = true) (w : World) :
    Calls Try.prog 6 #[.int .i64 a0, .int .u8 a1] w fun e w' => e = .returned (.bool true) ∧ Below w.heap.size w w' := by
  have hn : a0 < 9223372036854775808 := by have := bounds_i64 w0; omega
  obtain ⟨hd0, hd1⟩ := bounds_u8 w1
  obtain ⟨k, hk⟩ := Int.eq_ofNat_of_zero_le (show 0 ≤ a1 % 21 by omega)
  have hk20 : k ≤ 20 := by omega
  have HN := Lib.hid hn
  by_cases hneg : a0 < 0
  · obtain ⟨e1, e2⟩ := Oct.oct_neg (k := k) hneg
    have HT := Lib.hid e1
    have HB := Lib.hid e2
    clear e1 e2 hn w0 w1
    go_enter Try.func6, Try.ntmps6
    go_wp2_with fail
    refine (Oct.octal_at a0 k _ HN.out [] false HT.out HB.out).mono ?_
    rintro e w1 ⟨rfl, hb1⟩
    go_wp2_with fail
    refine (Oct.awake _).mono ?_
    rintro e w3 ⟨rfl, hb3⟩
    go_wp2
    go_ret
    exact ⟨rfl, hb1.trans (hb3.mono hb1.size)⟩
  · obtain ⟨f1, f2, f3⟩ := Oct.oct_fits hn hneg hk20
    obtain ⟨T, hT⟩ : ∃ T, Oct.oS a0 k = T := ⟨_, rfl⟩
    rw [hT] at f1 f3
    obtain ⟨⟨N, E⟩, hNE⟩ : ∃ p, Oct.getR T = p := ⟨_, rfl⟩
    rw [hNE] at f3
    have HT := Lib.hid hT
    have HB := Lib.hid f2
    have HG := Lib.hid (show Oct.getR (⟨T.toArray⟩ : ByteArray).data.toList = (N, E) from hNE)
    have hz : (⟨T.toArray⟩ : ByteArray).size ≤ 1000 := by show T.toArray.size ≤ 1000; rw [List.size_toArray, f1]; omega
    have HZ := Lib.hid hz
    have HF := Lib.hid f3
    have hp := Oct.p8_le hk20
    have HP := Lib.hid hp
    clear hT hNE f2 f3 hz hn w0 w1 hp
    go_enter Try.func6, Try.ntmps6
    go_wp2_with fail
    refine (Oct.octal_at a0 k _ HN.out T (decide (a0 < (Oct.p8 k : Int))) HT.out HB.out).mono ?_
    rintro e w1 ⟨rfl, hb1⟩
    go_wp2
    go_loop [8, 9] (fun top i => ∃ j : Nat, j ≤ k ∧ i = .int .i64 j ∧ top = .int .i64 (Oct.p8 j)) (fun _ i => k - (intOf i).toNat)
    case atStart => exact ⟨0, Nat.zero_le _, rfl, by rw [Oct.p8_zero]; rfl⟩
    case round =>
      obtain ⟨j, hj, rfl, rfl⟩ := hrel
      by_cases hlt : j < k
      · have hw8 : IntKind.i64.wrap (8 * (Oct.p8 j : Int)) = 8 * (Oct.p8 j : Int) := IntWalk.i64_in _ (by have := Oct.p8_le (show j + 1 ≤ 20 by omega); rw [Oct.p8_succ] at this; omega)
        go_wp2
        go_round
        case rel => exact ⟨j + 1, by omega, by go_num, by rw [Oct.p8_succ]; go_num⟩
        case measure => simp [intOf]; omega
      · obtain rfl : j = k := by omega
        have hb1s := hb1.size
        by_cases hfit : a0 < (Oct.p8 j : Int)
        · have hdf : decide (a0 < (Oct.p8 j : Int)) = true := by simpa using hfit
          by_cases hj0 : j = 0
          · have hjz : ((j : Int) == 0) = true := by simp [hj0]
            clear hj0
            go_wp2_with fail
            refine (Oct.get_at _ _ HZ.out N E HG.out).mono ?_
            rintro e w2 ⟨rfl, rfl⟩
            go_wp2_with fail
            refine (Oct.awake _).mono ?_
            rintro e w3 ⟨rfl, hb3⟩
            go_wp2
            go_ret
            exact ⟨rfl, hb1.trans (hb3.mono hb1.size)⟩
          · have hNE := HF.out hfit hj0
            obtain ⟨rfl, rfl⟩ : N = a0 ∧ E = 0 := by cases hNE; exact ⟨rfl, rfl⟩
            have hjz : ((j : Int) == 0) = false := by simp [hj0]
            clear hNE hj0
            go_wp2_with fail
            refine (Oct.get_at _ _ HZ.out _ _ HG.out).mono ?_
            rintro e w2 ⟨rfl, rfl⟩
            go_wp2_with fail
            refine (Oct.awake _).mono ?_
            rintro e w3 ⟨rfl, hb3⟩
            go_wp2
            go_ret
            exact ⟨rfl, hb1.trans (hb3.mono hb1.size)⟩
        · have hdf : decide (a0 < (Oct.p8 j : Int)) = false := by simpa using hfit
          go_wp2_with fail
          refine (Oct.get_at _ _ HZ.out N E HG.out).mono ?_
          rintro e w2 ⟨rfl, rfl⟩
          go_wp2_with fail
          refine (Oct.awake _).mono ?_
          rintro e w3 ⟨rfl, hb3⟩
          go_wp2
          go_ret
          exact ⟨rfl, hb1.trans (hb3.mono hb1.size)⟩

/-! ### THE ROW's STEP: WRITTEN OUT: LEAVE IT -/
set_option maxRecDepth 100000 in
theorem lifted (os : Os) (started : os.Started) (H : Type) (enc : TypeId × Value → H) :
    ReturnsInHanded {} Try.checked os 6 .any (Rows.octalFitsSpec.pre6 enc Try.prog Try.f6 Rows.octalFitsRow.domain false) (Rows.octalFitsSpec.post enc Try.prog Try.f6 false true false false) := by
  refine returnsInHanded_of_change (C := Try.checked) own started (by kernel_rfl) Try.func6
    (ChangeSpec.witness6 (enc := enc) (C := Try.checked) false ⟨#[], #[.int .i64 0, .int .u8 0], []⟩ 8 (by kernel_rfl) (by kernel_rfl) (by kernel_rfl) (by kernel_rfl)) ?_
  intro W base args ds gs before hval0 hW hcnd _
  have hval : ∀ (j : Nat) t v, Try.f6.params[j]? = some t → args[j]? = some v → Value.okWide Try.prog W .any base t v := hval0
  have hW' := hW
  obtain ⟨p, q, hA0, hV, rfl, hfz, hnd⟩ := hW
  have hA : DataW.TrodAll enc Try.prog W 0 (fun _ => true) true Try.f6.params.toList args.toList ds p := hA0
  rw [Try.params6] at hA hval
  obtain ⟨v0, vs0, d0, ds0, p0, q0, hargs, rfl, rfl, h0, r0⟩ := trodAll_cons hA
  obtain ⟨v1, vs1, d1, ds1, p1, q1, rfl, rfl, rfl, h1, r1⟩ := trodAll_cons r0
  obtain ⟨rfl, rfl, rfl⟩ := trodAll_nil r1
  obtain rfl : args = #[v0, v1] := by cases args; simp_all
  obtain ⟨rfl, rfl⟩ := trodVars_none hV
  obtain ⟨a0, rfl, rfl, rfl, w0⟩ := open_int Try.underlying3 (hval 0 3 v0 rfl rfl) h0
  obtain ⟨a1, rfl, rfl, rfl, w1⟩ := open_int Try.underlying5 (hval 1 5 v1 rfl rfl) h1
  clear hA0 hval0
  simp only [List.append_nil] at hW'
  refine (walk a0 a1 w0 w1 W).mono fun e W' ⟨he, hg⟩ => ?_
  subst he
  exact ⟨_, rfl, _, _, _, [], [], [], hW', (trodAll_cons_mk (shut_bool Try.underlying4 _) trodAll_mk0), (trodAll_cons_mk (shut_int Try.underlying3 w0) (trodAll_cons_mk (shut_int Try.underlying5 w1) trodAll_mk0)), rfl, hg.frame _, fun h => by cases h⟩

theorem over : Rows.octalFitsRow.holds Try.pinned (OpenSpec.ofChange Rows.octalFitsSpec) :=
  OpenClaim.holds_of_wide 6 Try.f6 rfl rfl rfl rfl rfl rfl rfl ⟨rfl, rfl, rfl, rfl, rfl⟩ rfl rfl rfl rfl rfl (by kernel_rfl) Try.func6 (by kernel_rfl)
    (of_decide_eq_true (by kernel_rfl)) (by unfold Func.isWrapper; first | (rw [if_pos (by decide +kernel)]; kernel_rfl) | (rw [if_neg (by decide +kernel)]; exact ⟨rfl, rfl⟩))
    (fun os started H enc _ => lifted os started H enc)

/-- ████ THE STATEMENT ████ -/
theorem proved : Rows.OctalFitsSaid :=
  over
#print axioms proved
end Go.Proofs.Ytcadahlmihfmlaa.octalFits
