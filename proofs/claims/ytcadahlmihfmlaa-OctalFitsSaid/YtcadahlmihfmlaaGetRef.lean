/- Contracts of layer 8's reference's Get: the number of a field, or an error, as Get itself answers. -/
import Derived.Test.YtcadahlmihfmlaaGet
import Derived.Test.YtcadahlmihfmlaaGetMathB
namespace Go.Proofs.Ytcadahlmihfmlaa.Oct
open Go.RowKit

theorem or_byte (m : Nat) (b : Int) (hm : m < 36028797018963968) (h0 : 0 ≤ b) (h1 : b < 256) : bits .or .i64 ((m : Int) * 256) b = (m : Int) * 256 + b := by
  refine bits_join .i64 63 (by decide) (fun n h0 h1 => IntWalk.i64_in n (by omega)) 8 _ _ (by omega) (by omega) (by omega) h0 (by omega) (by omega)

set_option maxRecDepth 100000 in
set_option maxHeartbeats 400000 in
theorem wide_ref (s : ByteArray) (w : World) (hs : s.size ≤ 1000) (N E : Int) (hNE : (nN (acc 256 0 0 s.data.toList), nE (acc 256 0 0 s.data.toList)) = (N, E)) :
    Calls Try.prog 28 #[.string s] w fun e w' => e = .returned (.tuple #[.int .i64 N, .int .i64 E]) ∧ w = w' := by
  have HNE := Lib.hid hNE
  clear hNE
  go_enter Try.func28, Try.ntmps28
  go_wp2
  go_loop [4, 5] (fun n i => ∃ m k : Nat, k ≤ s.size ∧ i = .int .i64 k ∧ n = .int .i64 m ∧ m < 9223372036854775808 ∧ acc 256 0 0 s.data.toList = acc 256 0 m (s.data.toList.drop k)) (fun _ i => s.size - (intOf i).toNat)
  case atStart => exact ⟨0, 0, Nat.zero_le _, rfl, rfl, by omega, rfl⟩
  case round =>
    obtain ⟨m, k, hk, rfl, rfl, hm, hacc⟩ := hrel
    have HA := Lib.hid hacc
    clear hacc
    by_cases hlt : k < s.size
    · by_cases hov : m < 36028797018963968
      · have hb2' : (s[k].toNat : Int) < 256 := by have := s[k].toNat_lt; omega
        have hdec : decide ((36028797018963968 : Int) ≤ (m : Int)) = false := by simp; omega
        have HOV := Lib.hid hov
        have hw1 : IntKind.i64.wrap ((m : Int) * 256) = m * 256 := IntWalk.i64_in _ (by omega)
        have hor : bits .or .i64 ((m : Int) * 256) (s[k].toNat : Int) = (m : Int) * 256 + (s[k].toNat : Int) := or_byte m _ (by omega) (by omega) hb2'
        clear hov hm
        go_wp2
        go_round
        case rel =>
          have hov := HOV.out
          have hst := acc_step_i 256 0 m s k hlt (by omega) (by omega)
          exact ⟨_, k + 1, by omega, by go_num, by go_num, by omega, HA.out.trans hst⟩
        case measure => simp [intOf]; omega
      · have hno : acc 256 0 0 s.data.toList = none := HA.out.trans (acc_over_i 256 0 m s k hlt (by omega) (by have := s[k].toNat_lt; omega))
        have hE : N = 0 ∧ E = 3 := by have := HNE.out; rw [hno] at this; cases this; exact ⟨rfl, rfl⟩
        obtain ⟨rfl, rfl⟩ := hE
        have hov' : (36028797018963968 : Int) ≤ m := by omega
        clear hno hov hm
        go_wp2
        go_ret2
        exact ⟨rfl, rfl⟩
    · obtain rfl : k = s.size := by omega
      have hno : acc 256 0 0 s.data.toList = some m := HA.out.trans (acc_end _ _ _ _)
      have hE : N = m ∧ E = 0 := by have := HNE.out; rw [hno] at this; cases this; exact ⟨rfl, rfl⟩
      obtain ⟨rfl, rfl⟩ := hE
      clear hno
      go_wp2
      go_ret2
      exact ⟨rfl, rfl⟩
/-- The reference, where the field is a row of bytes. -/
theorem get_ref_wide (s : ByteArray) (w : World) (hs : s.size ≤ 1000) (h0 : 0 < s.size) (h1 : s[0].toNat = 128) (N E : Int) (hNE : getR s.data.toList = (N, E)) :
    Calls Try.prog 16 #[.string s] w fun e w' => e = .returned (.tuple #[.int .i64 N, .int .i64 E]) ∧ w = w' := by
  have hR : (nN (acc 256 0 0 (s.extract 1 s.size).data.toList), nE (acc 256 0 0 (s.extract 1 s.size).data.toList)) = getR s.data.toList := by
    have := drop_byte s 0 h0
    rw [List.drop_zero] at this
    unfold getR
    rw [if_pos (by rw [this, List.head?_cons]; congr 1; rw [← UInt8.toNat_inj, h1]; rfl), Lib.extract_data, ← List.drop_one, List.take_of_length_le (by simp)]
  rw [hNE] at hR
  have HR := Lib.hid hR
  have h1' : (s[0].toNat : Int) = 128 := by omega
  have hx : (s.extract 1 s.size).size ≤ 1000 := by rw [ByteArray.size_extract]; omega
  have hem : s.toList.isEmpty = false := by rw [Lib.toList_data, List.isEmpty_eq_false_iff]; intro e; have := congrArg List.length e; rw [← Lib.size_eq, List.length_nil] at this; omega
  clear hR h1 hNE
  go_enter Try.func16, Try.ntmps16
  go_wp2_with (go_at_call 28; refine (wide_ref _ _ hx N E HR.out).mono ?_; rintro e w' ⟨rfl, rfl⟩)
  go_ret2
  exact ⟨rfl, rfl⟩

theorem empty_cases (s : ByteArray) : (0 < s.size ∧ s.toList.isEmpty = false) ∨ (¬ 0 < s.size ∧ s.toList.isEmpty = true) := by
  rw [Lib.toList_data, List.isEmpty_eq_false_iff, List.isEmpty_iff, ← List.length_eq_zero_iff, Ne, ← List.length_eq_zero_iff, ← Lib.size_eq]
  omega

set_option maxRecDepth 100000 in
set_option maxHeartbeats 2000000 in
theorem get_ref_oct (s : ByteArray) (w : World) (hs : s.size ≤ 1000) (h1 : ∀ h : 0 < s.size, ¬ s[0].toNat = 128) (N E : Int) (hNE : getO s.data.toList = (N, E)) :
    Calls Try.prog 16 #[.string s] w fun e w' => e = .returned (.tuple #[.int .i64 N, .int .i64 E]) ∧ w = w' := by
  have H1 := Lib.hid h1
  have HNE := Lib.hid hNE
  clear h1 hNE
  rcases empty_cases s with ⟨h0, hem⟩ | ⟨h0, hem⟩
  all_goals
    try have h1' := not128 H1 h0
    go_enter Try.func16, Try.ntmps16
    go_wp2
    go_loop [4] (fun i => ∃ k : Nat, k ≤ s.size ∧ i = .int .i64 k ∧ skip s.data.toList = skip (s.data.toList.drop k)) (fun i => s.size - (intOf i).toNat)
    case atStart => exact ⟨0, Nat.zero_le _, rfl, rfl⟩
    case round =>
      obtain ⟨k, hk, rfl, hacc⟩ := hrel
      have HA := Lib.hid hacc
      clear hacc
      by_cases hc : k < s.size ∧ ∀ h : k < s.size, s[k].toNat = 32
      · obtain ⟨hlt, hc⟩ := hc
        have hc := hc hlt
        have hc' : (s[k].toNat : Int) = 32 := by omega
        have HS := Lib.hid (HA.out.trans (skip_step s k hlt hc))
        clear hc
        go_wp2
        go_round
        case rel => exact ⟨k + 1, by omega, by go_num, HS.out⟩
        case measure => simp [intOf]; omega
      · have hsk := Lib.hid (HA.out.trans (skip_stop s k (fun h e => hc ⟨h, fun _ => e⟩)))
        by_cases hlt : k < s.size
        all_goals
          try have hc' := not32 hc hlt
          clear hc HA
          go_wp2
          all_goals
            go_loop [4, 5, 6] (fun i n d => ∃ e m c : Nat, Found s k e ∧ i = .int .i64 e ∧ n = .int .i64 m ∧ d = .int .i64 c ∧ Hid (k + c = e ∧ m < 9223372036854775808 ∧ acc 8 48 0 (digs (s.data.toList.drop k)) = acc 8 48 m (digs (s.data.toList.drop e)))) (fun i _ _ => s.size - (intOf i).toNat)
            case atStart => exact ⟨k, 0, 0, Found.start s k hk, rfl, rfl, rfl, rfl, by omega, rfl⟩
            case round =>
              obtain ⟨e, m, c, F, rfl, rfl, rfl, HM⟩ := hrel
              have hke := F.le
              have hes := F.lt
              have hcb : c ≤ 1000 := by have := HM.out.1; omega
              by_cases hc2 : e < s.size ∧ ∀ h : e < s.size, 48 ≤ s[e].toNat ∧ s[e].toNat ≤ 55
              · obtain ⟨hlt2, hc2⟩ := hc2
                have h48 := (hc2 hlt2).1
                have h55 := (hc2 hlt2).2
                have hd1 : (48 : Int) ≤ (s[e].toNat : Int) := by omega
                have hd2 : (s[e].toNat : Int) ≤ 55 := by omega
                by_cases hov : m < 1152921504606846976
                · have HS := Lib.hid (HM.out.2.2.trans (acc_dig_step hlt2 h48 h55 hov))
                  have FN := F.next hlt2 h48 h55
                  have hdec : decide ((1152921504606846976 : Int) ≤ (m : Int)) = false := by simp; omega
                  have hw1 : IntKind.i64.wrap (8 * (m : Int)) = 8 * m := IntWalk.i64_in _ (by omega)
                  have hw2 : IntKind.i64.wrap (8 * (m : Int) + ((s[e].toNat : Int) - 48)) = 8 * m + ((s[e].toNat : Int) - 48) := IntWalk.i64_in _ (by omega)
                  have HOV := Lib.hid hov
                  clear hc2 hov h48 h55
                  go_wp2
                  go_round
                  case rel => exact ⟨e + 1, _, c + 1, FN, by go_num, by go_num, by go_num, by have := HM.out.1; omega, by have := HOV.out; omega, HS.out⟩
                  case measure => simp [intOf]; omega
                · have hR := getO_none hsk.out (HM.out.2.2.trans (acc_dig_over hlt2 h48 h55 hov))
                  have hE : N = 0 ∧ E = 3 := by have := HNE.out; rw [hR] at this; cases this; exact ⟨rfl, rfl⟩
                  obtain ⟨rfl, rfl⟩ := hE
                  have hov' : (1152921504606846976 : Int) ≤ (m : Int) := by omega
                  clear hc2 hov h48 h55 hR
                  go_wp2
                  go_ret2
                  exact ⟨rfl, rfl⟩
              · have hstop : ∀ h : e < s.size, ¬ (48 ≤ s[e].toNat ∧ s[e].toNat ≤ 55) := fun h e => hc2 ⟨h, fun _ => e⟩
                have hsc := stop_cases hstop
                have HAM := Lib.hid (HM.out.2.2.trans (acc_dig_end hstop))
                have HRS := Lib.hid (F.rs.trans (digs_stop s e hstop).2)
                have HNI := Lib.hid (F.none_iff hstop)
                clear hc2 hstop
                rcases hsc with hlt2 | ⟨hlt2, hd1⟩ | ⟨hlt2, hd1, hd2⟩
                all_goals
                  go_wp2
                  all_goals
                    go_loop [7] (fun i => ∃ j : Nat, e ≤ j ∧ j ≤ s.size ∧ i = .int .i64 j ∧ Hid (blank (s.data.toList.drop e) = blank (s.data.toList.drop j))) (fun i => s.size - (intOf i).toNat)
                    case atStart => exact ⟨e, Nat.le_refl _, hes, rfl, rfl⟩
                    case round =>
                      obtain ⟨j, hej, hjs, rfl, HB⟩ := hrel
                      by_cases hj : j < s.size
                      · by_cases g1 : s[j].toNat = 32
                        · have g1' : (s[j].toNat : Int) = 32 := by omega
                          have HS := Lib.hid (HB.out.trans (blank_step s j hj (.inl g1)))
                          clear g1
                          go_wp2
                          go_round
                          case rel => exact ⟨j + 1, by omega, by omega, by go_num, HS⟩
                          case measure => simp [intOf]; omega
                        · by_cases g2 : s[j].toNat = 0
                          · have g1' : ((s[j].toNat : Int) != 32) = true := by rw [bne_iff_ne]; omega
                            have g2' : ((s[j].toNat : Int) != 0) = false := by rw [bne_eq_false_iff_eq]; omega
                            have g3' : ¬ (s[j].toNat : Int) = 32 := by omega
                            have HS := Lib.hid (HB.out.trans (blank_step s j hj (.inr g2)))
                            clear g1 g2
                            go_wp2
                            go_round
                            case rel => exact ⟨j + 1, by omega, by omega, by go_num, HS⟩
                            case measure => simp [intOf]; omega
                          · have g1' : ((s[j].toNat : Int) != 32) = true := by rw [bne_iff_ne]; omega
                            have g2' : ((s[j].toNat : Int) != 0) = true := by rw [bne_iff_ne]; omega
                            have g3' : ¬ (s[j].toNat : Int) = 32 := by omega
                            have hR := getO_junk hsk.out HAM.out (by rw [HRS.out, HB.out, blank_stop s j hj g1 g2])
                            have hE : N = 0 ∧ E = 2 := by have := HNE.out; rw [hR] at this; cases this; exact ⟨rfl, rfl⟩
                            obtain ⟨rfl, rfl⟩ := hE
                            clear hR g1 g2
                            go_wp2
                            go_ret2
                            exact ⟨rfl, rfl⟩
                      · obtain rfl : j = s.size := by omega
                        have hbl := Lib.hid (show blank (rest (s.data.toList.drop k)) = true by rw [HRS.out, HB.out, List.drop_of_length_le (by simp)]; rfl)
                        by_cases hz : c = 0
                        · have hR := getO_bare hsk.out HAM.out (HNI.out.2 (by have := HM.out.1; omega))
                          have hE : N = 0 ∧ E = 2 := by have := HNE.out; rw [hR] at this; cases this; exact ⟨rfl, rfl⟩
                          obtain ⟨rfl, rfl⟩ := hE
                          have hz' : ((c : Int) == 0) = true := by simp [hz]
                          clear hR hz
                          go_wp2
                          go_ret2
                          exact ⟨rfl, rfl⟩
                        · have hR := getO_fine hsk.out HAM.out (fun x => hz (by have := HM.out.1; have := HNI.out.1 x; omega)) hbl.out
                          have hE : N = m ∧ E = 0 := by have := HNE.out; rw [hR] at this; cases this; exact ⟨rfl, rfl⟩
                          obtain ⟨rfl, rfl⟩ := hE
                          have hz' : ((c : Int) == 0) = false := by simp [hz]
                          clear hR hz
                          go_wp2
                          go_ret2
                          exact ⟨rfl, rfl⟩
end Go.Proofs.Ytcadahlmihfmlaa.Oct
