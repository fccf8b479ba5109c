/- Layer 9: sums, fields, texts, blanks are the document's: the mathematics. -/
import Derived.Test.YtglnifckngcpkaaDoorHdJ1
import Derived.Test.YtglnifckngcpkaaDoorHdJ2
import Derived.Test.YtglnifckngcpkaaDoorHdJ3
import Derived.Test.YtglnifckngcpkaaDoorHdO
set_option linter.unusedVariables false
namespace Go.Proofs.YtglnifckngcpkaaDoor.Hd
open Go.Proofs.YtglnifckngcpkaaDoor.Mem
theorem rsum_l (s : List UInt8) (h : s.length = 512) : ∀ n x i, rsum_m_l0 s n (x, i) = hsum_m_l0 s n (x, i)
  | 0, x, i => rfl
  | n + 1, x, i => by
    show rsum_m_b0 s (rsum_m_l0 s n) x i = hsum_m_b0 s (hsum_m_l0 s n) x i
    unfold rsum_m_b0 hsum_m_b0
    rw [if_pos h]
    repeat' split
    all_goals first
      | exact rsum_l s h n _ _
      | rfl
      | omega
theorem rsum_is (s : List UInt8) : rsum_m s = hsum_m s := by
  unfold rsum_m hsum_m
  by_cases h : s.length = 512
  · rw [if_neg (show ¬ ¬ s.length = 512 from fun c => c h)]
    obtain ⟨y, j, e, _, _⟩ := hsum_l s ((s.length - 0) + 1) 0 0 (by omega) (Nat.zero_le _)
    rw [rsum_l s h, e]
    rfl
  · rw [if_pos h]
    show fin (rsum_m_b0 s (rsum_m_l0 s (s.length - 0)) 0 0) (fun r => r) (fun zz => rsum_m_k0 s zz.1 zz.2) = 0
    unfold rsum_m_b0
    repeat' split
    all_goals first
      | rfl
      | exact absurd (by assumption) h
theorem rsum_rng (s : List UInt8) : 0 ≤ rsum_m s ∧ rsum_m s ≤ 131072 := by rw [rsum_is]; exact hsum_rng s
theorem rfield_l1 (s : List UInt8) (w : Int) (y : Nat) : ∀ (j k : Nat) (x : List UInt8), (x.length : Int) + j = w → j < k → rfield_m_l1 s w y k x = .inl (x ++ List.replicate j 0)
  | j, 0, x, h, hk => by omega
  | 0, k + 1, x, h, hk => by
    show rfield_m_b1 s w y (rfield_m_l1 s w y k) x = _
    unfold rfield_m_b1
    rw [if_neg (by omega)]
    rw [List.replicate_zero, List.append_nil]
  | j + 1, k + 1, x, h, hk => by
    show rfield_m_b1 s w y (rfield_m_l1 s w y k) x = _
    unfold rfield_m_b1
    rw [if_pos (by omega), rfield_l1 s w y j k _ (by rw [List.length_append, List.length_singleton]; omega) (by omega), List.append_assoc]
    rfl
theorem rfield_l0 (s : List UInt8) (w : Int) : ∀ (k : Nat) (i : Nat), s.length ≤ i + k → i ≤ s.length → ((∃ j, rfield_m_l0 s w (k + 1) i = .inl j ∧ ∀ m, i ≤ m → m < s.length → ¬ by' s m = 0) ∨ (rfield_m_l0 s w (k + 1) i = .inr ([], false) ∧ ∃ m, m < s.length ∧ by' s m = 0))
  | k, i, h, hi => by
    have E : rfield_m_l0 s w (k + 1) i = rfield_m_b0 s w (rfield_m_l0 s w k) i := rfl
    rw [E]
    unfold rfield_m_b0
    by_cases h1 : i < s.length
    · rw [if_pos h1]
      by_cases h2 : by' s i = 0
      · rw [if_pos h2]; exact .inr ⟨rfl, i, h1, h2⟩
      · rw [if_neg h2]
        match k, h with
        | 0, h => omega
        | k + 1, h =>
          rcases rfield_l0 s w k (i + 1) (by omega) (by omega) with ⟨j, e, a⟩ | ⟨e, a⟩
          · refine .inl ⟨j, e, fun m hm hl => ?_⟩
            by_cases hmi : m = i
            · rw [hmi]; exact h2
            · exact a m (by omega) hl
          · exact .inr ⟨e, a⟩
    · rw [if_neg h1]; exact .inl ⟨i, rfl, fun m a b => by omega⟩
theorem ib_lt : ∀ s : List UInt8, ib_m s 0 < 0 ↔ ∀ m, m < s.length → ¬ by' s m = 0
  | [] => ⟨fun _ m hm => by exact absurd hm (Nat.not_lt_zero _), fun _ => by decide⟩
  | b :: l => by
    have E : ib_m (b :: l) 0 = if b == (0 : UInt8) then 0 else if ib_m l 0 == -1 then -1 else ib_m l 0 + 1 := rfl
    have g : -1 ≤ ib_m l 0 := Lib.indexByte_ge l _
    rw [E]
    by_cases hb : b = 0
    · subst hb
      refine ⟨fun h => absurd (show (0 : Int) < 0 from h) (by decide), fun h => absurd rfl (h 0 (Nat.succ_pos _))⟩
    · rw [if_neg (by simpa using hb)]
      have hb' : ¬ by' (b :: l) 0 = 0 := fun e => hb (UInt8.toNat_inj.1 e)
      have i := ib_lt l
      constructor
      · intro h m hm
        have hl : ib_m l 0 < 0 := by
          by_cases e : ib_m l 0 = -1
          · omega
          · rw [if_neg (by simpa using e)] at h; omega
        match m, hm with
        | 0, _ => exact hb'
        | m + 1, hm => exact i.1 hl m (Nat.lt_of_succ_lt_succ hm)
      · intro h
        have hl := i.2 (fun m hm => h (m + 1) (Nat.succ_lt_succ hm))
        have e : ib_m l 0 = -1 := by omega
        rw [e]
        decide
theorem rfield_is (s : List UInt8) (w : Int) : rfield_m s w = if ((s.length : Nat) : Int) ≤ w ∧ ib_m s 0 < 0 then (fill_m s w, true) else ([], false) := by
  unfold rfield_m
  by_cases h : w < ((s.length : Nat) : Int)
  · rw [if_pos h, if_neg (fun c => by omega)]
  · rw [if_neg h]
    rcases rfield_l0 s w s.length 0 (by omega) (Nat.zero_le _) with ⟨j, e, a⟩ | ⟨e, m, a, b⟩
    · rw [if_pos ⟨by omega, (ib_lt s).2 (fun m hm => a m (Nat.zero_le _) hm)⟩, Nat.sub_zero, e]
      show fin (rfield_m_l1 s w j ((w - ((s.length : Nat) : Int)).toNat + 1) s) (fun r => r) (fun zz => rfield_m_k1 s w j zz) = _
      rw [rfield_l1 s w j (w - ((s.length : Nat) : Int)).toNat _ s (by omega) (by omega)]
      rfl
    · rw [if_neg (fun c => (ib_lt s).1 c.2 m a b), Nat.sub_zero, e]
      rfl
theorem rfield_len (s : List UInt8) (w : Int) (h : 0 ≤ w) : ((rfield_m s w).1.length : Int) ≤ w := by
  rw [rfield_is]
  split
  · exact Int.le_of_eq (fill_len s w (by omega))
  · exact h
end Go.Proofs.YtglnifckngcpkaaDoor.Hd
