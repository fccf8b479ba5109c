/- Contracts of layer 8's Get and of its reference's: the number of a field, or an error. -/
import Derived.Test.YtcadahlmihfmlaaBuf
import Derived.Test.YtcadahlmihfmlaaGetMath
import Derived.IntWalk
namespace Go.Proofs.Ytcadahlmihfmlaa.Oct
open Go.RowKit

theorem ret_none {o : Option Nat} (h : o = none) : Ending.returned (.tuple #[.int .i64 0, .int .i64 3]) = .returned (.tuple #[.int .i64 (nN o), .int .i64 (nE o)]) := by rw [h]; rfl
theorem ret_some {o : Option Nat} {m : Nat} (h : o = some m) : Ending.returned (.tuple #[.int .i64 m, .int .i64 0]) = .returned (.tuple #[.int .i64 (nN o), .int .i64 (nE o)]) := by rw [h]; rfl

set_option maxHeartbeats 400000 in
theorem number_oct (s : ByteArray) (w : World) (hs : s.size ≤ 1000) (hd : ∀ k, (h : k < s.size) → 48 ≤ s[k].toNat ∧ s[k].toNat ≤ 55) :
    Calls Try.prog 26 #[.string s, .int .i64 8, .int .u8 48] w fun e w' => e = .returned (.tuple #[.int .i64 (nN (acc 8 48 0 s.data.toList)), .int .i64 (nE (acc 8 48 0 s.data.toList))]) ∧ w = w' := by
  have HD := Lib.hid hd
  clear hd
  go_enter Try.func26, Try.ntmps26
  go_wp2
  go_loop [8, 9] (fun n i => ∃ m k : Nat, k ≤ s.size ∧ i = .int .i64 k ∧ n = .int .i64 m ∧ m < 9223372036854775808 ∧ acc 8 48 0 s.data.toList = acc 8 48 m (s.data.toList.drop k)) (fun _ i => s.size - (intOf i).toNat)
  case atStart => exact ⟨0, 0, Nat.zero_le _, rfl, rfl, by omega, rfl⟩
  case round =>
    obtain ⟨m, k, hk, rfl, rfl, hm, hacc⟩ := hrel
    have HA := Lib.hid hacc
    clear hacc
    by_cases hlt : k < s.size
    · obtain ⟨hb1, hb2⟩ := HD.out k hlt
      have hb1' : (48 : Int) ≤ (s[k].toNat : Int) := by omega
      have hb2' : (s[k].toNat : Int) ≤ 55 := by omega
      go_wp2
      · go_ret2
        exact ⟨ret_none (HA.out.trans (acc_over_i 8 48 m s k hlt (by omega) (by assumption))), rfl⟩
      · go_round
        case rel =>
          have hst := acc_step_i 8 48 m s k hlt (by omega) (by assumption)
          have hle : (m : Int) ≤ (9223372036854775807 - ((s[k].toNat : Int) - 48)) / 8 := by assumption
          exact ⟨_, k + 1, by omega, by go_num, by go_num, by omega, HA.out.trans hst⟩
        case measure => simp [intOf]; omega
    · obtain rfl : k = s.size := by omega
      go_wp2
      go_ret2
      exact ⟨ret_some (HA.out.trans (acc_end _ _ _ _)), rfl⟩

set_option maxRecDepth 100000 in
set_option maxHeartbeats 400000 in
theorem number_wide (s : ByteArray) (w : World) (hs : s.size ≤ 1000) :
    Calls Try.prog 26 #[.string s, .int .i64 256, .int .u8 0] w fun e w' => e = .returned (.tuple #[.int .i64 (nN (acc 256 0 0 s.data.toList)), .int .i64 (nE (acc 256 0 0 s.data.toList))]) ∧ w = w' := by
  go_enter Try.func26, Try.ntmps26
  go_wp2
  go_loop [8, 9] (fun n i => ∃ m k : Nat, k ≤ s.size ∧ i = .int .i64 k ∧ n = .int .i64 m ∧ m < 9223372036854775808 ∧ acc 256 0 0 s.data.toList = acc 256 0 m (s.data.toList.drop k)) (fun _ i => s.size - (intOf i).toNat)
  case atStart => exact ⟨0, 0, Nat.zero_le _, rfl, rfl, by omega, rfl⟩
  case round =>
    obtain ⟨m, k, hk, rfl, rfl, hm, hacc⟩ := hrel
    have HA := Lib.hid hacc
    clear hacc
    by_cases hlt : k < s.size
    · have hb2' : (s[k].toNat : Int) < 256 := by have := s[k].toNat_lt; omega
      go_wp2
      · go_ret2
        exact ⟨ret_none (HA.out.trans (acc_over_i 256 0 m s k hlt (by omega) (by assumption))), rfl⟩
      · go_round
        case rel =>
          have hst := acc_step_i 256 0 m s k hlt (by omega) (by assumption)
          have hle : (m : Int) ≤ (9223372036854775807 - ((s[k].toNat : Int) - 0)) / 256 := by assumption
          exact ⟨_, k + 1, by omega, by go_num, by go_num, by omega, HA.out.trans hst⟩
        case measure => simp [intOf]; omega
    · obtain rfl : k = s.size := by omega
      go_wp2
      go_ret2
      exact ⟨ret_some (HA.out.trans (acc_end _ _ _ _)), rfl⟩

set_option maxHeartbeats 400000 in
theorem nothing_any (s : ByteArray) (w : World) (hs : s.size ≤ 1000) :
    Calls Try.prog 27 #[.string s] w fun e w' => e = .returned (.bool (blank s.data.toList)) ∧ w = w' := by
  go_enter Try.func27, Try.ntmps27
  go_wp2
  go_loop [3] (fun i => ∃ k : Nat, k ≤ s.size ∧ i = .int .i64 k ∧ blank s.data.toList = blank (s.data.toList.drop k)) (fun i => s.size - (intOf i).toNat)
  case atStart => exact ⟨0, Nat.zero_le _, rfl, rfl⟩
  case round =>
    obtain ⟨k, hk, rfl, hacc⟩ := hrel
    have HA := Lib.hid hacc
    clear hacc
    by_cases hlt : k < s.size
    · by_cases h1 : s[k].toNat = 32
      · have h1' : (s[k].toNat : Int) = 32 := by omega
        have HS := Lib.hid (HA.out.trans (blank_step s k hlt (.inl h1)))
        clear h1
        go_wp2
        go_round
        case rel => exact ⟨k + 1, by omega, by go_num, HS.out⟩
        case measure => simp [intOf]; omega
      · by_cases h2 : s[k].toNat = 0
        · have h1' : ((s[k].toNat : Int) != 32) = true := by rw [bne_iff_ne]; omega
          have h2' : ((s[k].toNat : Int) != 0) = false := by rw [bne_eq_false_iff_eq]; omega
          have h3' : ¬ (s[k].toNat : Int) = 32 := by omega
          have HS := Lib.hid (HA.out.trans (blank_step s k hlt (.inr h2)))
          clear h1 h2
          go_wp2
          go_round
          case rel => exact ⟨k + 1, by omega, by go_num, HS.out⟩
          case measure => simp [intOf]; omega
        · have h1' : ((s[k].toNat : Int) != 32) = true := by rw [bne_iff_ne]; omega
          have h2' : ((s[k].toNat : Int) != 0) = true := by rw [bne_iff_ne]; omega
          have h3' : ¬ (s[k].toNat : Int) = 32 := by omega
          have HS := Lib.hid (HA.out.trans (blank_stop s k hlt h1 h2))
          clear h1 h2
          go_wp2
          go_ret
          exact ⟨by rw [HS.out]; rfl, rfl⟩
    · obtain rfl : k = s.size := by omega
      go_wp2
      go_ret
      exact ⟨by rw [HA.out, List.drop_of_length_le (by simp)]; rfl, rfl⟩
theorem number_wide_at (s : ByteArray) (w : World) (hs : s.size ≤ 1000) (N E : Int) (h : (nN (acc 256 0 0 s.data.toList), nE (acc 256 0 0 s.data.toList)) = (N, E)) :
    Calls Try.prog 26 #[.string s, .int .i64 256, .int .u8 0] w fun e w' => e = .returned (.tuple #[.int .i64 N, .int .i64 E]) ∧ w = w' := by
  cases h
  exact number_wide s w hs
theorem number_none (s : ByteArray) (w : World) (hs : s.size ≤ 1000) (hd : ∀ k, (h : k < s.size) → 48 ≤ s[k].toNat ∧ s[k].toNat ≤ 55) (h : acc 8 48 0 s.data.toList = none) :
    Calls Try.prog 26 #[.string s, .int .i64 8, .int .u8 48] w fun e w' => e = .returned (.tuple #[.int .i64 0, .int .i64 3]) ∧ w = w' := by
  have := number_oct s w hs hd
  rw [h] at this
  exact this
theorem number_some (s : ByteArray) (w : World) (hs : s.size ≤ 1000) (hd : ∀ k, (h : k < s.size) → 48 ≤ s[k].toNat ∧ s[k].toNat ≤ 55) (m : Nat) (h : acc 8 48 0 s.data.toList = some m) :
    Calls Try.prog 26 #[.string s, .int .i64 8, .int .u8 48] w fun e w' => e = .returned (.tuple #[.int .i64 m, .int .i64 0]) ∧ w = w' := by
  have := number_oct s w hs hd
  rw [h] at this
  exact this
theorem nothing_at (s : ByteArray) (w : World) (hs : s.size ≤ 1000) (b : Bool) (h : blank s.data.toList = b) :
    Calls Try.prog 27 #[.string s] w fun e w' => e = .returned (.bool b) ∧ w = w' := by
  have := nothing_any s w hs
  rw [h] at this
  exact this

/-- Get, where the field is a row of bytes. -/
theorem get_wide (s : ByteArray) (w : World) (hs : s.size ≤ 1000) (h0 : 0 < s.size) (h1 : s[0].toNat = 128) :
    Calls Try.prog 15 #[.string s] w fun e w' => e = .returned (.tuple #[.int .i64 (getR s.data.toList).1, .int .i64 (getR s.data.toList).2]) ∧ w = w' := by
  have hR : (nN (acc 256 0 0 (s.extract 1 s.size).data.toList), nE (acc 256 0 0 (s.extract 1 s.size).data.toList)) = getR s.data.toList := by
    have := drop_byte s 0 h0
    rw [List.drop_zero] at this
    unfold getR
    rw [if_pos (by rw [this, List.head?_cons]; congr 1; rw [← UInt8.toNat_inj, h1]; rfl), Lib.extract_data, ← List.drop_one, List.take_of_length_le (by simp)]
  obtain ⟨⟨N, E⟩, hNE⟩ : ∃ p, getR s.data.toList = p := ⟨_, rfl⟩
  rw [hNE] at hR ⊢
  have HR := Lib.hid hR
  have h1' : (s[0].toNat : Int) = 128 := by omega
  have hx : (s.extract 1 s.size).size ≤ 1000 := by rw [ByteArray.size_extract]; omega
  clear hR h1 hNE
  go_enter Try.func15, Try.ntmps15
  go_wp2_with (go_at_call 26; refine (number_wide_at _ _ hx N E HR.out).mono ?_; rintro e w' ⟨rfl, rfl⟩)
  go_ret2
  exact ⟨rfl, rfl⟩

theorem not128 {s : ByteArray} (h : Hid (∀ h : 0 < s.size, ¬ s[0].toNat = 128)) (h0 : 0 < s.size) : ¬ (s[0].toNat : Int) = 128 := by
  have := h.out h0; omega
theorem not32 {s : ByteArray} {k : Nat} (h : ¬ (k < s.size ∧ ∀ h : k < s.size, s[k].toNat = 32)) (hk : k < s.size) : ¬ (s[k].toNat : Int) = 32 := by
  intro e; exact h ⟨hk, fun _ => by omega⟩

set_option maxHeartbeats 1000000 in
theorem get_oct (s : ByteArray) (w : World) (hs : s.size ≤ 1000) (h1 : ∀ h : 0 < s.size, ¬ s[0].toNat = 128) (N E : Int) (hNE : getO s.data.toList = (N, E)) :
    Calls Try.prog 15 #[.string s] w fun e w' => e = .returned (.tuple #[.int .i64 N, .int .i64 E]) ∧ w = w' := by
  have H1 := Lib.hid h1
  have HNE := Lib.hid hNE
  clear h1 hNE
  by_cases h0 : 0 < s.size
  all_goals
    try have h1' := not128 H1 h0
    go_enter Try.func15, Try.ntmps15
    go_wp2
    go_loop [4] (fun i => ∃ k : Nat, k ≤ s.size ∧ i = .int .i64 k ∧ skip s.data.toList = skip (s.data.toList.drop k)) (fun i => s.size - (intOf i).toNat)
    case atStart => exact ⟨0, Nat.zero_le _, rfl, rfl⟩
    case round =>
      obtain ⟨k, hk, rfl, hacc⟩ := hrel
      have HA := Lib.hid hacc
      clear hacc
      by_cases hc : k < s.size ∧ ∀ h : k < s.size, s[k].toNat = 32
      · obtain ⟨hlt, hc⟩ := hc
        have hc := hc hlt
        have hc' : (s[k].toNat : Int) = 32 := by omega
        have HS := Lib.hid (HA.out.trans (skip_step s k hlt hc))
        clear hc
        go_wp2
        go_round
        case rel => exact ⟨k + 1, by omega, by go_num, HS.out⟩
        case measure => simp [intOf]; omega
      · have hsk := Lib.hid (HA.out.trans (skip_stop s k (fun h e => hc ⟨h, fun _ => e⟩)))
        by_cases hlt : k < s.size
        all_goals
          try have hc' := not32 hc hlt
          clear hc HA
          go_wp2
          all_goals
            go_loop [5] (fun i => ∃ e : Nat, Found s k e ∧ i = .int .i64 e) (fun i => s.size - (intOf i).toNat)
            case atStart => exact ⟨k, Found.start s k hk, rfl⟩
            case round =>
              obtain ⟨e, F, rfl⟩ := hrel
              have hke := F.le
              have hes := F.lt
              by_cases hc2 : e < s.size ∧ ∀ h : e < s.size, 48 ≤ s[e].toNat ∧ s[e].toNat ≤ 55
              · obtain ⟨hlt2, hc2⟩ := hc2
                have FN := F.next hlt2 (hc2 hlt2).1 (hc2 hlt2).2
                have hd1 : (48 : Int) ≤ (s[e].toNat : Int) := by have := (hc2 hlt2).1; omega
                have hd2 : (s[e].toNat : Int) ≤ 55 := by have := (hc2 hlt2).2; omega
                clear hc2
                go_wp2
                go_round
                case rel => exact ⟨e + 1, FN, by go_num⟩
                case measure => simp [intOf]; omega
              · have hstop : ∀ h : e < s.size, ¬ (48 ≤ s[e].toNat ∧ s[e].toNat ≤ 55) := fun h e => hc2 ⟨h, fun _ => e⟩
                have HC := Lib.hid (get_cases F hsk.out hstop HNE.out)
                have hsc := stop_cases hstop
                have HD := Lib.hid F.digits
                have hx1 : (s.extract k e).size ≤ 1000 := by rw [ByteArray.size_extract]; omega
                have hx2 : (s.extract e s.size).size ≤ 1000 := by rw [ByteArray.size_extract]; omega
                clear hc2 hstop
                rcases hsc with hlt2 | ⟨hlt2, hd1⟩ | ⟨hlt2, hd1, hd2⟩
                all_goals
                  rcases HC.out with ⟨ha, rfl, rfl⟩ | ⟨m, ha, hek, rfl, rfl⟩ | ⟨m, ha, hek, hb, rfl, rfl⟩ | ⟨m, ha, hek, hb, rfl, rfl⟩
                  · have HA := Lib.hid ha
                    clear ha
                    go_wp2_with (go_at_call 26; refine (number_none _ _ hx1 HD.out HA.out).mono ?_; rintro e w' ⟨rfl, rfl⟩)
                    go_ret2
                    exact ⟨rfl, rfl⟩
                  · have HA := Lib.hid ha
                    have hek' : ((e : Int) == (k : Int)) = true := by simp [hek]
                    clear ha hek
                    go_wp2_with (go_at_call 26; refine (number_some _ _ hx1 HD.out _ HA.out).mono ?_; rintro e w' ⟨rfl, rfl⟩)
                    go_ret2
                    exact ⟨rfl, rfl⟩
                  · have HA := Lib.hid ha
                    have HB := Lib.hid hb
                    have hek' : ((e : Int) == (k : Int)) = false := by simp; omega
                    clear ha hek hb
                    go_wp2_with (first | (go_at_call 26; refine (number_some _ _ hx1 HD.out _ HA.out).mono ?_; rintro e w' ⟨rfl, rfl⟩) | (go_at_call 27; refine (nothing_at _ _ hx2 _ HB.out).mono ?_; rintro e w' ⟨rfl, rfl⟩))
                    go_ret2
                    exact ⟨rfl, rfl⟩
                  · have HA := Lib.hid ha
                    have HB := Lib.hid hb
                    have hek' : ((e : Int) == (k : Int)) = false := by simp; omega
                    clear ha hek hb
                    go_wp2_with (first | (go_at_call 26; refine (number_some _ _ hx1 HD.out _ HA.out).mono ?_; rintro e w' ⟨rfl, rfl⟩) | (go_at_call 27; refine (nothing_at _ _ hx2 _ HB.out).mono ?_; rintro e w' ⟨rfl, rfl⟩))
                    go_ret2
                    exact ⟨rfl, rfl⟩
end Go.Proofs.Ytcadahlmihfmlaa.Oct
