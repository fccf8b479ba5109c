/- Layer 9: a header is read as the document says: the mathematics. -/
import Derived.Test.YtglnifckngcpkaaDoorHdDL
import Derived.Test.YtglnifckngcpkaaDoorHdV
import Derived.Test.YtglnifckngcpkaaDoorHdS
import Derived.Test.YtglnifckngcpkaaDoorHdR
set_option linter.unusedVariables false
set_option maxRecDepth 100000
namespace Go.Proofs.YtglnifckngcpkaaDoor.Hd
open Go.Proofs.YtglnifckngcpkaaDoor.Mem
def nz (b : UInt8) : Bool := b != 0
theorem cut_is : ∀ s : List UInt8, hcut_m s = s.takeWhile nz
  | [] => by
    unfold hcut_m cut_m Lib.cut
    rw [Lib.index_one]
    rfl
  | x :: r => by
    have ih := cut_is r
    unfold hcut_m cut_m Lib.cut at ih ⊢
    rw [Lib.index_one] at ih ⊢
    have E : Lib.indexByte (x :: r) 0 = if x == (0 : UInt8) then 0 else if Lib.indexByte r 0 == -1 then -1 else Lib.indexByte r 0 + 1 := rfl
    by_cases h : x = 0
    · subst h
      rfl
    · rw [List.takeWhile_cons_of_pos (by unfold nz; simpa using h)]
      have E2 : Lib.indexByte (x :: r) 0 = if Lib.indexByte r 0 == -1 then -1 else Lib.indexByte r 0 + 1 := by rw [E, if_neg (by simpa using h)]
      have hge := Lib.indexByte_ge r 0
      by_cases h2 : Lib.indexByte r 0 = -1
      · have E3 : Lib.indexByte (x :: r) 0 = -1 := by rw [E2, h2]; rfl
        rw [E3, if_neg (by decide)]
        rw [h2, if_neg (by decide)] at ih
        simp only at ih ⊢
        rw [← ih]
      · have E3 : Lib.indexByte (x :: r) 0 = Lib.indexByte r 0 + 1 := by rw [E2, if_neg (by simpa using h2)]
        rw [E3, if_pos (by omega)]
        rw [if_pos (by omega)] at ih
        simp only at ih ⊢
        rw [← ih, show (Lib.indexByte r 0 + 1).toNat = (Lib.indexByte r 0).toNat + 1 by omega]
        rfl
theorem by_z (s : List UInt8) (i : Nat) (h : i < s.length) : by' s i = 0 ↔ s[i] = 0 := by
  rw [← by_at s i h]
  exact ⟨fun e => UInt8.toNat_inj.1 e, fun e => by rw [e]; rfl⟩
theorem text_l (s : List UInt8) : ∀ k i, s.length ≤ i + k → i ≤ s.length → fin (rtext_m_l0 s (k + 1) i) (fun r => r) (fun zz => rtext_m_k0 s zz) = s.take i ++ (s.drop i).takeWhile nz
  | k, i, h, hi => by
    have E : rtext_m_l0 s (k + 1) i = rtext_m_b0 s (rtext_m_l0 s k) i := rfl
    rw [E]
    unfold rtext_m_b0
    by_cases h1 : i < s.length
    · rw [if_pos h1, List.drop_eq_getElem_cons h1]
      by_cases h2 : by' s i = 0
      · rw [if_pos h2, List.takeWhile_cons_of_neg (by rw [(by_z s i h1).1 h2]; decide), List.append_nil]
        rfl
      · rw [if_neg h2, List.takeWhile_cons_of_pos (by unfold nz; simpa using fun e => h2 ((by_z s i h1).2 e))]
        match k, h with
        | 0, h => omega
        | k + 1, h =>
          rw [text_l s k (i + 1) (by omega) (by omega), List.take_succ_eq_append_getElem h1, List.append_assoc]
          rfl
    · rw [if_neg h1, show i = s.length by omega, List.drop_length, List.take_length]
      exact (List.append_nil s).symm
theorem text_is (s : List UInt8) : rtext_m s = s.takeWhile nz := by
  unfold rtext_m
  exact text_l s (s.length - 0) 0 (by omega) (Nat.zero_le _)
theorem blank_l (s : List UInt8) : ∀ k i, s.length ≤ i + k → i ≤ s.length → fin (rblank_m_l0 s (k + 1) i) (fun r => r) (fun zz => rblank_m_k0 s zz) = ((s.drop i).all (· == 0) && decide (s.length = 512))
  | k, i, h, hi => by
    have E : rblank_m_l0 s (k + 1) i = rblank_m_b0 s (rblank_m_l0 s k) i := rfl
    rw [E]
    unfold rblank_m_b0
    by_cases h1 : i < s.length
    · rw [if_pos h1, List.drop_eq_getElem_cons h1, List.all_cons]
      by_cases h2 : by' s i = 0
      · rw [if_neg (show ¬ ¬ by' s i = 0 from fun c => c h2), (by_z s i h1).1 h2]
        match k, h with
        | 0, h => omega
        | k + 1, h =>
          rw [blank_l s k (i + 1) (by omega) (by omega)]
          rfl
      · rw [if_pos h2]
        have : (s[i] == 0) = false := by simpa using fun e => h2 ((by_z s i h1).2 e)
        rw [this]
        rfl
    · rw [if_neg h1, show i = s.length by omega, List.drop_length]
      rfl
theorem blank_is (s : List UInt8) : rblank_m s = blank_m s := by
  unfold rblank_m blank_m
  rw [blank_l s (s.length - 0) 0 (by omega) (Nat.zero_le _), List.drop_zero]
  have e : fill_m [] 512 = List.replicate 512 0 := rfl
  rw [e, Bool.eq_iff_iff, decide_eq_true_iff, List.eq_replicate_iff, Bool.and_eq_true, decide_eq_true_iff, List.all_eq_true]
  constructor
  · intro h; exact ⟨h.2, fun b hb => by simpa using h.1 b hb⟩
  · intro h; exact ⟨fun b hb => by simpa using h.2 b hb, h.1⟩
set_option maxHeartbeats 2000000 in
theorem dec_is (s : List UInt8) : hdecode_m s = rdecode_m s := by
  by_cases hl : s.length = 512
  case neg => unfold hdecode_m rdecode_m; rw [if_pos hl, if_pos hl]
  by_cases hm : ((s.take 265).drop 257) = [117, 115, 116, 97, 114, 0, 48, 48]
  case neg => unfold hdecode_m rdecode_m; simp only [hl, hm, not_true_eq_false, not_false_eq_true, if_true, if_false]
  unfold hdecode_m rdecode_m
  simp only [hl, hm, not_true_eq_false, if_false]
  rw [get_is, ← rsum_is]
  by_cases c0 : (rget_m ((s.take 156).drop 148)).2 = 0
  case neg =>
    rw [if_pos c0]
    have b : rdecode_m_l0 s (6 - 0 + 1) (0, [], 0, 0, 0, 0, 0, UInt8.ofNat 0, [], [], 0, 0, 0, 0, 0, 0) = .inr ((Hdr.mk ([]) 0 0 0 0 0 (UInt8.ofNat 0) ([]) ([])), (rget_m ((s.take 156).drop 148)).2) := by
      show rdecode_m_b0 s (rdecode_m_l0 s 6) 0 [] 0 0 0 0 0 (UInt8.ofNat 0) [] [] 0 0 0 0 0 0 = _
      unfold rdecode_m_b0
      rw [if_pos (by decide), if_pos rfl, if_pos (show ¬ (rget_m ((s.take (148 + 8)).drop 148)).2 = 0 from c0)] <;> rfl
    rw [b]
    rfl
  rw [if_neg (fun c => c c0)]
  by_cases cs : (rget_m ((s.take 156).drop 148)).1 = rsum_m s
  case neg =>
    rw [if_pos cs]
    have b : rdecode_m_l0 s (6 - 0 + 1) (0, [], 0, 0, 0, 0, 0, UInt8.ofNat 0, [], [], 0, 0, 0, 0, 0, 0) = .inr ((Hdr.mk ([]) 0 0 0 0 0 (UInt8.ofNat 0) ([]) ([])), 2) := by
      show rdecode_m_b0 s (rdecode_m_l0 s 6) 0 [] 0 0 0 0 0 (UInt8.ofNat 0) [] [] 0 0 0 0 0 0 = _
      unfold rdecode_m_b0
      rw [if_pos (by decide), if_pos rfl, if_neg (show ¬ ¬ (rget_m ((s.take (148 + 8)).drop 148)).2 = 0 from fun c => c c0), if_pos rfl, if_pos (show ¬ (rget_m ((s.take (148 + 8)).drop 148)).1 = rsum_m s from cs)] <;> rfl
    rw [b]
    rfl
  rw [if_neg (fun c => c cs)]
  have b0 : rdecode_m_l0 s (6 - 0 + 1) (0, [], 0, 0, 0, 0, 0, UInt8.ofNat 0, [], [], 0, 0, 0, 0, 0, 0) = rdecode_m_l0 s 6 (1, [], 0, 0, 0, 0, 0, UInt8.ofNat 0, [], [], (rget_m ((s.take 156).drop 148)).1, 0, 0, 0, 0, 0) := by
    show rdecode_m_b0 s (rdecode_m_l0 s 6) 0 [] 0 0 0 0 0 (UInt8.ofNat 0) [] [] 0 0 0 0 0 0 = _
    unfold rdecode_m_b0
    rw [if_pos (by decide), if_pos rfl, if_neg (show ¬ ¬ (rget_m ((s.take (148 + 8)).drop 148)).2 = 0 from fun c => c c0), if_pos rfl, if_neg (show ¬ ¬ (rget_m ((s.take (148 + 8)).drop 148)).1 = rsum_m s from fun c => c cs)] <;> rfl
  rw [b0]
  by_cases c1 : (rget_m ((s.take 108).drop 100)).2 = 0
  case neg =>
    have a : hdecode_m_l0 s (5 - 0 + 1) (100, 0, [], 0, 0, 0, 0, 0, UInt8.ofNat 0, [], [], 0, 0, 0, 0, 0) = .inr ((Hdr.mk ([]) 0 0 0 0 0 (UInt8.ofNat 0) ([]) ([])), (rget_m ((s.take 108).drop 100)).2) := by
      show hdecode_m_b0 s (hdecode_m_l0 s 5) 100 0 [] 0 0 0 0 0 (UInt8.ofNat 0) [] [] 0 0 0 0 0 = _
      unfold hdecode_m_b0
      rw [if_pos (by decide), if_pos rfl, get_is, if_pos (show ¬ (rget_m ((s.take (100 + 8)).drop 100)).2 = 0 from c1)] <;> rfl
    have b : rdecode_m_l0 s 6 (1, [], 0, 0, 0, 0, 0, UInt8.ofNat 0, [], [], (rget_m ((s.take 156).drop 148)).1, 0, 0, 0, 0, 0) = .inr ((Hdr.mk ([]) 0 0 0 0 0 (UInt8.ofNat 0) ([]) ([])), (rget_m ((s.take 108).drop 100)).2) := by
      show rdecode_m_b0 s (rdecode_m_l0 s 5) 1 [] 0 0 0 0 0 (UInt8.ofNat 0) [] [] (rget_m ((s.take 156).drop 148)).1 0 0 0 0 0 = _
      unfold rdecode_m_b0
      rw [if_pos (by decide), if_neg (by decide), if_pos rfl, if_pos (show ¬ (rget_m ((s.take (100 + 8)).drop 100)).2 = 0 from c1)] <;> rfl
    rw [a, b]
    rfl
  have a1 : hdecode_m_l0 s (5 - 0 + 1) (100, 0, [], 0, 0, 0, 0, 0, UInt8.ofNat 0, [], [], 0, 0, 0, 0, 0) = hdecode_m_l0 s 5 (108, 1, [], 0, 0, 0, 0, 0, UInt8.ofNat 0, [], [], (rget_m ((s.take 108).drop 100)).1, 0, 0, 0, 0) := by
    show hdecode_m_b0 s (hdecode_m_l0 s 5) 100 0 [] 0 0 0 0 0 (UInt8.ofNat 0) [] [] 0 0 0 0 0 = _
    unfold hdecode_m_b0
    rw [if_pos (by decide), if_pos rfl, get_is, if_neg (show ¬ ¬ (rget_m ((s.take (100 + 8)).drop 100)).2 = 0 from fun c => c c1)] <;> rfl
  have b1 : rdecode_m_l0 s 6 (1, [], 0, 0, 0, 0, 0, UInt8.ofNat 0, [], [], (rget_m ((s.take 156).drop 148)).1, 0, 0, 0, 0, 0) = rdecode_m_l0 s 5 (2, [], 0, 0, 0, 0, 0, UInt8.ofNat 0, [], [], (rget_m ((s.take 156).drop 148)).1, (rget_m ((s.take 108).drop 100)).1, 0, 0, 0, 0) := by
    show rdecode_m_b0 s (rdecode_m_l0 s 5) 1 [] 0 0 0 0 0 (UInt8.ofNat 0) [] [] (rget_m ((s.take 156).drop 148)).1 0 0 0 0 0 = _
    unfold rdecode_m_b0
    rw [if_pos (by decide), if_neg (by decide), if_pos rfl, if_neg (show ¬ ¬ (rget_m ((s.take (100 + 8)).drop 100)).2 = 0 from fun c => c c1), if_neg (by decide)] <;> rfl
  rw [a1, b1]
  by_cases c2 : (rget_m ((s.take 116).drop 108)).2 = 0
  case neg =>
    have a : hdecode_m_l0 s 5 (108, 1, [], 0, 0, 0, 0, 0, UInt8.ofNat 0, [], [], (rget_m ((s.take 108).drop 100)).1, 0, 0, 0, 0) = .inr ((Hdr.mk ([]) 0 0 0 0 0 (UInt8.ofNat 0) ([]) ([])), (rget_m ((s.take 116).drop 108)).2) := by
      show hdecode_m_b0 s (hdecode_m_l0 s 4) 108 1 [] 0 0 0 0 0 (UInt8.ofNat 0) [] [] (rget_m ((s.take 108).drop 100)).1 0 0 0 0 = _
      unfold hdecode_m_b0
      rw [if_pos (by decide), if_neg (by decide), if_pos rfl, get_is, if_pos (show ¬ (rget_m ((s.take (108 + 8)).drop 108)).2 = 0 from c2)] <;> rfl
    have b : rdecode_m_l0 s 5 (2, [], 0, 0, 0, 0, 0, UInt8.ofNat 0, [], [], (rget_m ((s.take 156).drop 148)).1, (rget_m ((s.take 108).drop 100)).1, 0, 0, 0, 0) = .inr ((Hdr.mk ([]) 0 0 0 0 0 (UInt8.ofNat 0) ([]) ([])), (rget_m ((s.take 116).drop 108)).2) := by
      show rdecode_m_b0 s (rdecode_m_l0 s 4) 2 [] 0 0 0 0 0 (UInt8.ofNat 0) [] [] (rget_m ((s.take 156).drop 148)).1 (rget_m ((s.take 108).drop 100)).1 0 0 0 0 = _
      unfold rdecode_m_b0
      rw [if_pos (by decide), if_neg (by decide), if_neg (by decide), if_pos rfl, if_pos (show ¬ (rget_m ((s.take (108 + 8)).drop 108)).2 = 0 from c2)] <;> rfl
    rw [a, b]
    rfl
  have a2 : hdecode_m_l0 s 5 (108, 1, [], 0, 0, 0, 0, 0, UInt8.ofNat 0, [], [], (rget_m ((s.take 108).drop 100)).1, 0, 0, 0, 0) = hdecode_m_l0 s 4 (116, 2, [], 0, 0, 0, 0, 0, UInt8.ofNat 0, [], [], (rget_m ((s.take 108).drop 100)).1, (rget_m ((s.take 116).drop 108)).1, 0, 0, 0) := by
    show hdecode_m_b0 s (hdecode_m_l0 s 4) 108 1 [] 0 0 0 0 0 (UInt8.ofNat 0) [] [] (rget_m ((s.take 108).drop 100)).1 0 0 0 0 = _
    unfold hdecode_m_b0
    rw [if_pos (by decide), if_neg (by decide), if_pos rfl, get_is, if_neg (show ¬ ¬ (rget_m ((s.take (108 + 8)).drop 108)).2 = 0 from fun c => c c2)] <;> rfl
  have b2 : rdecode_m_l0 s 5 (2, [], 0, 0, 0, 0, 0, UInt8.ofNat 0, [], [], (rget_m ((s.take 156).drop 148)).1, (rget_m ((s.take 108).drop 100)).1, 0, 0, 0, 0) = rdecode_m_l0 s 4 (3, [], 0, 0, 0, 0, 0, UInt8.ofNat 0, [], [], (rget_m ((s.take 156).drop 148)).1, (rget_m ((s.take 108).drop 100)).1, (rget_m ((s.take 116).drop 108)).1, 0, 0, 0) := by
    show rdecode_m_b0 s (rdecode_m_l0 s 4) 2 [] 0 0 0 0 0 (UInt8.ofNat 0) [] [] (rget_m ((s.take 156).drop 148)).1 (rget_m ((s.take 108).drop 100)).1 0 0 0 0 = _
    unfold rdecode_m_b0
    rw [if_pos (by decide), if_neg (by decide), if_neg (by decide), if_pos rfl, if_neg (show ¬ ¬ (rget_m ((s.take (108 + 8)).drop 108)).2 = 0 from fun c => c c2), if_neg (by decide)] <;> rfl
  rw [a2, b2]
  by_cases c3 : (rget_m ((s.take 124).drop 116)).2 = 0
  case neg =>
    have a : hdecode_m_l0 s 4 (116, 2, [], 0, 0, 0, 0, 0, UInt8.ofNat 0, [], [], (rget_m ((s.take 108).drop 100)).1, (rget_m ((s.take 116).drop 108)).1, 0, 0, 0) = .inr ((Hdr.mk ([]) 0 0 0 0 0 (UInt8.ofNat 0) ([]) ([])), (rget_m ((s.take 124).drop 116)).2) := by
      show hdecode_m_b0 s (hdecode_m_l0 s 3) 116 2 [] 0 0 0 0 0 (UInt8.ofNat 0) [] [] (rget_m ((s.take 108).drop 100)).1 (rget_m ((s.take 116).drop 108)).1 0 0 0 = _
      unfold hdecode_m_b0
      rw [if_pos (by decide), if_neg (by decide), if_neg (by decide), if_pos rfl, get_is, if_pos (show ¬ (rget_m ((s.take (116 + 8)).drop 116)).2 = 0 from c3)] <;> rfl
    have b : rdecode_m_l0 s 4 (3, [], 0, 0, 0, 0, 0, UInt8.ofNat 0, [], [], (rget_m ((s.take 156).drop 148)).1, (rget_m ((s.take 108).drop 100)).1, (rget_m ((s.take 116).drop 108)).1, 0, 0, 0) = .inr ((Hdr.mk ([]) 0 0 0 0 0 (UInt8.ofNat 0) ([]) ([])), (rget_m ((s.take 124).drop 116)).2) := by
      show rdecode_m_b0 s (rdecode_m_l0 s 3) 3 [] 0 0 0 0 0 (UInt8.ofNat 0) [] [] (rget_m ((s.take 156).drop 148)).1 (rget_m ((s.take 108).drop 100)).1 (rget_m ((s.take 116).drop 108)).1 0 0 0 = _
      unfold rdecode_m_b0
      rw [if_pos (by decide), if_neg (by decide), if_neg (by decide), if_neg (by decide), if_pos rfl, if_pos (show ¬ (rget_m ((s.take (116 + 8)).drop 116)).2 = 0 from c3)] <;> rfl
    rw [a, b]
    rfl
  have a3 : hdecode_m_l0 s 4 (116, 2, [], 0, 0, 0, 0, 0, UInt8.ofNat 0, [], [], (rget_m ((s.take 108).drop 100)).1, (rget_m ((s.take 116).drop 108)).1, 0, 0, 0) = hdecode_m_l0 s 3 (124, 3, [], 0, 0, 0, 0, 0, UInt8.ofNat 0, [], [], (rget_m ((s.take 108).drop 100)).1, (rget_m ((s.take 116).drop 108)).1, (rget_m ((s.take 124).drop 116)).1, 0, 0) := by
    show hdecode_m_b0 s (hdecode_m_l0 s 3) 116 2 [] 0 0 0 0 0 (UInt8.ofNat 0) [] [] (rget_m ((s.take 108).drop 100)).1 (rget_m ((s.take 116).drop 108)).1 0 0 0 = _
    unfold hdecode_m_b0
    rw [if_pos (by decide), if_neg (by decide), if_neg (by decide), if_pos rfl, get_is, if_neg (show ¬ ¬ (rget_m ((s.take (116 + 8)).drop 116)).2 = 0 from fun c => c c3)] <;> rfl
  have b3 : rdecode_m_l0 s 4 (3, [], 0, 0, 0, 0, 0, UInt8.ofNat 0, [], [], (rget_m ((s.take 156).drop 148)).1, (rget_m ((s.take 108).drop 100)).1, (rget_m ((s.take 116).drop 108)).1, 0, 0, 0) = rdecode_m_l0 s 3 (4, [], 0, 0, 0, 0, 0, UInt8.ofNat 0, [], [], (rget_m ((s.take 156).drop 148)).1, (rget_m ((s.take 108).drop 100)).1, (rget_m ((s.take 116).drop 108)).1, (rget_m ((s.take 124).drop 116)).1, 0, 0) := by
    show rdecode_m_b0 s (rdecode_m_l0 s 3) 3 [] 0 0 0 0 0 (UInt8.ofNat 0) [] [] (rget_m ((s.take 156).drop 148)).1 (rget_m ((s.take 108).drop 100)).1 (rget_m ((s.take 116).drop 108)).1 0 0 0 = _
    unfold rdecode_m_b0
    rw [if_pos (by decide), if_neg (by decide), if_neg (by decide), if_neg (by decide), if_pos rfl, if_neg (show ¬ ¬ (rget_m ((s.take (116 + 8)).drop 116)).2 = 0 from fun c => c c3), if_neg (by decide)] <;> rfl
  rw [a3, b3]
  by_cases c4 : (rget_m ((s.take 136).drop 124)).2 = 0
  case neg =>
    have a : hdecode_m_l0 s 3 (124, 3, [], 0, 0, 0, 0, 0, UInt8.ofNat 0, [], [], (rget_m ((s.take 108).drop 100)).1, (rget_m ((s.take 116).drop 108)).1, (rget_m ((s.take 124).drop 116)).1, 0, 0) = .inr ((Hdr.mk ([]) 0 0 0 0 0 (UInt8.ofNat 0) ([]) ([])), (rget_m ((s.take 136).drop 124)).2) := by
      show hdecode_m_b0 s (hdecode_m_l0 s 2) 124 3 [] 0 0 0 0 0 (UInt8.ofNat 0) [] [] (rget_m ((s.take 108).drop 100)).1 (rget_m ((s.take 116).drop 108)).1 (rget_m ((s.take 124).drop 116)).1 0 0 = _
      unfold hdecode_m_b0
      rw [if_pos (by decide), if_neg (by decide), if_neg (by decide), if_neg (by decide), if_pos rfl, get_is, if_pos (show ¬ (rget_m ((s.take (124 + 12)).drop 124)).2 = 0 from c4)] <;> rfl
    have b : rdecode_m_l0 s 3 (4, [], 0, 0, 0, 0, 0, UInt8.ofNat 0, [], [], (rget_m ((s.take 156).drop 148)).1, (rget_m ((s.take 108).drop 100)).1, (rget_m ((s.take 116).drop 108)).1, (rget_m ((s.take 124).drop 116)).1, 0, 0) = .inr ((Hdr.mk ([]) 0 0 0 0 0 (UInt8.ofNat 0) ([]) ([])), (rget_m ((s.take 136).drop 124)).2) := by
      show rdecode_m_b0 s (rdecode_m_l0 s 2) 4 [] 0 0 0 0 0 (UInt8.ofNat 0) [] [] (rget_m ((s.take 156).drop 148)).1 (rget_m ((s.take 108).drop 100)).1 (rget_m ((s.take 116).drop 108)).1 (rget_m ((s.take 124).drop 116)).1 0 0 = _
      unfold rdecode_m_b0
      rw [if_pos (by decide), if_neg (by decide), if_neg (by decide), if_neg (by decide), if_neg (by decide), if_pos rfl, if_pos (show ¬ (rget_m ((s.take (124 + 12)).drop 124)).2 = 0 from c4)] <;> rfl
    rw [a, b]
    rfl
  have a4 : hdecode_m_l0 s 3 (124, 3, [], 0, 0, 0, 0, 0, UInt8.ofNat 0, [], [], (rget_m ((s.take 108).drop 100)).1, (rget_m ((s.take 116).drop 108)).1, (rget_m ((s.take 124).drop 116)).1, 0, 0) = hdecode_m_l0 s 2 (136, 4, [], 0, 0, 0, 0, 0, UInt8.ofNat 0, [], [], (rget_m ((s.take 108).drop 100)).1, (rget_m ((s.take 116).drop 108)).1, (rget_m ((s.take 124).drop 116)).1, (rget_m ((s.take 136).drop 124)).1, 0) := by
    show hdecode_m_b0 s (hdecode_m_l0 s 2) 124 3 [] 0 0 0 0 0 (UInt8.ofNat 0) [] [] (rget_m ((s.take 108).drop 100)).1 (rget_m ((s.take 116).drop 108)).1 (rget_m ((s.take 124).drop 116)).1 0 0 = _
    unfold hdecode_m_b0
    rw [if_pos (by decide), if_neg (by decide), if_neg (by decide), if_neg (by decide), if_pos rfl, get_is, if_neg (show ¬ ¬ (rget_m ((s.take (124 + 12)).drop 124)).2 = 0 from fun c => c c4)] <;> rfl
  have b4 : rdecode_m_l0 s 3 (4, [], 0, 0, 0, 0, 0, UInt8.ofNat 0, [], [], (rget_m ((s.take 156).drop 148)).1, (rget_m ((s.take 108).drop 100)).1, (rget_m ((s.take 116).drop 108)).1, (rget_m ((s.take 124).drop 116)).1, 0, 0) = rdecode_m_l0 s 2 (5, [], 0, 0, 0, 0, 0, UInt8.ofNat 0, [], [], (rget_m ((s.take 156).drop 148)).1, (rget_m ((s.take 108).drop 100)).1, (rget_m ((s.take 116).drop 108)).1, (rget_m ((s.take 124).drop 116)).1, (rget_m ((s.take 136).drop 124)).1, 0) := by
    show rdecode_m_b0 s (rdecode_m_l0 s 2) 4 [] 0 0 0 0 0 (UInt8.ofNat 0) [] [] (rget_m ((s.take 156).drop 148)).1 (rget_m ((s.take 108).drop 100)).1 (rget_m ((s.take 116).drop 108)).1 (rget_m ((s.take 124).drop 116)).1 0 0 = _
    unfold rdecode_m_b0
    rw [if_pos (by decide), if_neg (by decide), if_neg (by decide), if_neg (by decide), if_neg (by decide), if_pos rfl, if_neg (show ¬ ¬ (rget_m ((s.take (124 + 12)).drop 124)).2 = 0 from fun c => c c4), if_neg (by decide)] <;> rfl
  rw [a4, b4]
  by_cases c5 : (rget_m ((s.take 148).drop 136)).2 = 0
  case neg =>
    have a : hdecode_m_l0 s 2 (136, 4, [], 0, 0, 0, 0, 0, UInt8.ofNat 0, [], [], (rget_m ((s.take 108).drop 100)).1, (rget_m ((s.take 116).drop 108)).1, (rget_m ((s.take 124).drop 116)).1, (rget_m ((s.take 136).drop 124)).1, 0) = .inr ((Hdr.mk ([]) 0 0 0 0 0 (UInt8.ofNat 0) ([]) ([])), (rget_m ((s.take 148).drop 136)).2) := by
      show hdecode_m_b0 s (hdecode_m_l0 s 1) 136 4 [] 0 0 0 0 0 (UInt8.ofNat 0) [] [] (rget_m ((s.take 108).drop 100)).1 (rget_m ((s.take 116).drop 108)).1 (rget_m ((s.take 124).drop 116)).1 (rget_m ((s.take 136).drop 124)).1 0 = _
      unfold hdecode_m_b0
      rw [if_pos (by decide), if_neg (by decide), if_neg (by decide), if_neg (by decide), if_neg (by decide), get_is, if_pos (show ¬ (rget_m ((s.take (136 + 12)).drop 136)).2 = 0 from c5)] <;> rfl
    have b : rdecode_m_l0 s 2 (5, [], 0, 0, 0, 0, 0, UInt8.ofNat 0, [], [], (rget_m ((s.take 156).drop 148)).1, (rget_m ((s.take 108).drop 100)).1, (rget_m ((s.take 116).drop 108)).1, (rget_m ((s.take 124).drop 116)).1, (rget_m ((s.take 136).drop 124)).1, 0) = .inr ((Hdr.mk ([]) 0 0 0 0 0 (UInt8.ofNat 0) ([]) ([])), (rget_m ((s.take 148).drop 136)).2) := by
      show rdecode_m_b0 s (rdecode_m_l0 s 1) 5 [] 0 0 0 0 0 (UInt8.ofNat 0) [] [] (rget_m ((s.take 156).drop 148)).1 (rget_m ((s.take 108).drop 100)).1 (rget_m ((s.take 116).drop 108)).1 (rget_m ((s.take 124).drop 116)).1 (rget_m ((s.take 136).drop 124)).1 0 = _
      unfold rdecode_m_b0
      rw [if_pos (by decide), if_neg (by decide), if_neg (by decide), if_neg (by decide), if_neg (by decide), if_neg (by decide), if_pos (show ¬ (rget_m ((s.take (136 + 12)).drop 136)).2 = 0 from c5)] <;> rfl
    rw [a, b]
    rfl
  have a5 : hdecode_m_l0 s 2 (136, 4, [], 0, 0, 0, 0, 0, UInt8.ofNat 0, [], [], (rget_m ((s.take 108).drop 100)).1, (rget_m ((s.take 116).drop 108)).1, (rget_m ((s.take 124).drop 116)).1, (rget_m ((s.take 136).drop 124)).1, 0) = hdecode_m_l0 s 1 (148, 5, [], 0, 0, 0, 0, 0, UInt8.ofNat 0, [], [], (rget_m ((s.take 108).drop 100)).1, (rget_m ((s.take 116).drop 108)).1, (rget_m ((s.take 124).drop 116)).1, (rget_m ((s.take 136).drop 124)).1, (rget_m ((s.take 148).drop 136)).1) := by
    show hdecode_m_b0 s (hdecode_m_l0 s 1) 136 4 [] 0 0 0 0 0 (UInt8.ofNat 0) [] [] (rget_m ((s.take 108).drop 100)).1 (rget_m ((s.take 116).drop 108)).1 (rget_m ((s.take 124).drop 116)).1 (rget_m ((s.take 136).drop 124)).1 0 = _
    unfold hdecode_m_b0
    rw [if_pos (by decide), if_neg (by decide), if_neg (by decide), if_neg (by decide), if_neg (by decide), get_is, if_neg (show ¬ ¬ (rget_m ((s.take (136 + 12)).drop 136)).2 = 0 from fun c => c c5)] <;> rfl
  have b5 : rdecode_m_l0 s 2 (5, [], 0, 0, 0, 0, 0, UInt8.ofNat 0, [], [], (rget_m ((s.take 156).drop 148)).1, (rget_m ((s.take 108).drop 100)).1, (rget_m ((s.take 116).drop 108)).1, (rget_m ((s.take 124).drop 116)).1, (rget_m ((s.take 136).drop 124)).1, 0) = rdecode_m_l0 s 1 (6, [], 0, 0, 0, 0, 0, UInt8.ofNat 0, [], [], (rget_m ((s.take 156).drop 148)).1, (rget_m ((s.take 108).drop 100)).1, (rget_m ((s.take 116).drop 108)).1, (rget_m ((s.take 124).drop 116)).1, (rget_m ((s.take 136).drop 124)).1, (rget_m ((s.take 148).drop 136)).1) := by
    show rdecode_m_b0 s (rdecode_m_l0 s 1) 5 [] 0 0 0 0 0 (UInt8.ofNat 0) [] [] (rget_m ((s.take 156).drop 148)).1 (rget_m ((s.take 108).drop 100)).1 (rget_m ((s.take 116).drop 108)).1 (rget_m ((s.take 124).drop 116)).1 (rget_m ((s.take 136).drop 124)).1 0 = _
    unfold rdecode_m_b0
    rw [if_pos (by decide), if_neg (by decide), if_neg (by decide), if_neg (by decide), if_neg (by decide), if_neg (by decide), if_neg (show ¬ ¬ (rget_m ((s.take (136 + 12)).drop 136)).2 = 0 from fun c => c c5), if_neg (by decide)] <;> rfl
  rw [a5, b5]
  have a6 : hdecode_m_l0 s 1 (148, 5, [], 0, 0, 0, 0, 0, UInt8.ofNat 0, [], [], (rget_m ((s.take 108).drop 100)).1, (rget_m ((s.take 116).drop 108)).1, (rget_m ((s.take 124).drop 116)).1, (rget_m ((s.take 136).drop 124)).1, (rget_m ((s.take 148).drop 136)).1) = .inl (148, 5, [], 0, 0, 0, 0, 0, UInt8.ofNat 0, [], [], (rget_m ((s.take 108).drop 100)).1, (rget_m ((s.take 116).drop 108)).1, (rget_m ((s.take 124).drop 116)).1, (rget_m ((s.take 136).drop 124)).1, (rget_m ((s.take 148).drop 136)).1) := by
    show hdecode_m_b0 s (hdecode_m_l0 s 0) 148 5 [] 0 0 0 0 0 (UInt8.ofNat 0) [] [] (rget_m ((s.take 108).drop 100)).1 (rget_m ((s.take 116).drop 108)).1 (rget_m ((s.take 124).drop 116)).1 (rget_m ((s.take 136).drop 124)).1 (rget_m ((s.take 148).drop 136)).1 = _
    unfold hdecode_m_b0
    rw [if_neg (by decide)]
  have b6 : rdecode_m_l0 s 1 (6, [], 0, 0, 0, 0, 0, UInt8.ofNat 0, [], [], (rget_m ((s.take 156).drop 148)).1, (rget_m ((s.take 108).drop 100)).1, (rget_m ((s.take 116).drop 108)).1, (rget_m ((s.take 124).drop 116)).1, (rget_m ((s.take 136).drop 124)).1, (rget_m ((s.take 148).drop 136)).1) = .inl (6, [], 0, 0, 0, 0, 0, UInt8.ofNat 0, [], [], (rget_m ((s.take 156).drop 148)).1, (rget_m ((s.take 108).drop 100)).1, (rget_m ((s.take 116).drop 108)).1, (rget_m ((s.take 124).drop 116)).1, (rget_m ((s.take 136).drop 124)).1, (rget_m ((s.take 148).drop 136)).1) := by
    show rdecode_m_b0 s (rdecode_m_l0 s 0) 6 [] 0 0 0 0 0 (UInt8.ofNat 0) [] [] (rget_m ((s.take 156).drop 148)).1 (rget_m ((s.take 108).drop 100)).1 (rget_m ((s.take 116).drop 108)).1 (rget_m ((s.take 124).drop 116)).1 (rget_m ((s.take 136).drop 124)).1 (rget_m ((s.take 148).drop 136)).1 = _
    unfold rdecode_m_b0
    rw [if_neg (by decide)]
  rw [a6, b6]
  simp only [fin, hdecode_m_k0, rdecode_m_k0, cut_is, text_is]
theorem ldecodes_true (s : List UInt8) : ldecodes_m s = true := by
  unfold ldecodes_m
  by_cases h : 5000 < s.length
  · rw [if_pos h, hawake_true]
  · rw [if_neg h, if_pos hawake_true, dec_is, if_pos rfl, if_pos rfl, rsum_is, if_pos rfl, blank_is]
    exact beq_self_eq_true _
end Go.Proofs.YtglnifckngcpkaaDoor.Hd
