/- Layer 17: names and numbers there and back. -/
import Derived.Test.YtmammofbgllceaaNodM
namespace Go.Proofs.Ytmammofbgllceaa.Nod
open Go.Proofs.Ytmammofbgllceaa.Mem

theorem be_cons (b : UInt8) (l : List UInt8) : be (b :: l) = b.toNat * 256 ^ l.length + be l := by
  have key : ∀ (l : List UInt8) (n : Nat), l.foldl (fun n b => n * 256 + b.toNat) n = n * 256 ^ l.length + be l := by
    intro l
    induction l with
    | nil => intro n; simp [be]
    | cons c l ih =>
      intro n
      unfold be
      rw [List.foldl_cons, List.foldl_cons, ih, ih (0 * 256 + c.toNat), List.length_cons, Nat.pow_succ, Nat.zero_mul, Nat.zero_add, Nat.add_mul, Nat.mul_assoc, Nat.mul_comm 256, Nat.add_assoc]
  unfold be
  rw [List.foldl_cons, key]
  simp [be]
theorem put_nat (n k : Nat) : putL ((n : Nat) : Int) (k + 1) = UInt8.ofNat (n / 256 ^ k % 256) :: putL (n : Int) k := by
  rw [putL]
  congr 2
theorem put_low (b m : Nat) : ∀ (k j : Nat), j ≤ k → putL ((b * 256 ^ k + m : Nat) : Int) j = putL ((m : Nat) : Int) j
  | k, 0, _ => rfl
  | k, j + 1, h => by
    rw [put_nat, put_nat, put_low b m k j (by omega)]
    congr 2
    obtain ⟨d, hd⟩ : ∃ d, k = j + (d + 1) := ⟨k - j - 1, by omega⟩
    rw [hd, Nat.pow_add, Nat.pow_succ, ← Nat.mul_assoc, Nat.mul_comm b, Nat.mul_assoc, Nat.mul_add_div (Nat.pow_pos (by decide)), ← Nat.mul_assoc, Nat.mul_add_mod_self_right]
theorem put_be : ∀ l : List UInt8, putL ((be l : Nat) : Int) l.length = l
  | [] => rfl
  | b :: l => by
    rw [List.length_cons, put_nat, be_cons, put_low _ _ _ _ (Nat.le_refl _), put_be l]
    have h1 := be_lt l
    have h2 := b.toNat_lt
    rw [Nat.mul_comm, Nat.mul_add_div (Nat.pow_pos (by decide)), Nat.div_eq_of_lt h1, Nat.add_zero, Nat.mod_eq_of_lt h2, UInt8.ofNat_toNat]
theorem put_get (l : List UInt8) (h : l.length ≤ 7) : putL (getZ l) l.length = l := by rw [getZ_at l h, put_be]
theorem cut_all (s : List UInt8) (h5 : ¬ s.length < 5) (h6 : ¬ s.length < 5 + by' s 4) : onePl ((s.take (5 + by' s 4)).drop 5, getZ (s.take 4)) ++ s.drop (5 + by' s 4) = s := by
  have hl := name_len s h6
  have h4 : (s.take 4).length = 4 := by simp; omega
  have hp : putL (getZ (s.take 4)) 4 = s.take 4 := by
    have := put_get (s.take 4) (by omega)
    rwa [h4] at this
  have hb := by_lt s 4
  unfold onePl
  rw [hp, hl, Nat.mod_eq_of_lt hb]
  have hc : UInt8.ofNat (by' s 4) = s.getD 4 0 := by unfold by'; rw [UInt8.ofNat_toNat]
  rw [hc]
  have e1 : s.take (5 + by' s 4) = s.take 4 ++ [s.getD 4 0] ++ (s.take (5 + by' s 4)).drop 5 := by
    rw [← take_snoc s 4 (by omega) 0]
    have : s.take 5 = (s.take (5 + by' s 4)).take 5 := by rw [List.take_take]; congr 1; omega
    rw [this, List.take_append_drop]
  clear hl
  generalize (s.take (5 + by' s 4)).drop 5 = X at *
  have e3 : s.take 4 ++ s.getD 4 0 :: X = s.take (5 + by' s 4) := by rw [e1]; simp
  show s.take 4 ++ s.getD 4 0 :: X ++ _ = s
  rw [e3, List.take_append_drop]
theorem names_back : ∀ (n : Nat) (s last : List UInt8) (acc : List (List UInt8 × Int)), s.length ≤ n → namesL s last = some acc →
    listN acc = s ∧ (∀ p t, acc = p :: t → (lt' p.1 last || decide (p.1 = last)) = false) ∧ ∀ k, k + 1 < acc.length → lt' (acc.getD k pd).1 (acc.getD (k + 1) pd).1 = true := by
  intro n
  induction n with
  | zero =>
    intro s last acc hn h
    obtain rfl : s = [] := List.eq_nil_of_length_eq_zero (by omega)
    rw [namesL, dif_pos rfl] at h
    obtain rfl := Option.some.inj h
    exact ⟨rfl, fun p t e => (by cases e), fun k hk => by simp at hk⟩
  | succ n ih =>
    intro s last acc hn h
    by_cases h0 : s = []
    · subst h0
      rw [namesL, dif_pos rfl] at h
      obtain rfl := Option.some.inj h
      exact ⟨rfl, fun p t e => (by cases e), fun k hk => by simp at hk⟩
    · by_cases h5 : s.length < 5
      · rw [namesL, dif_neg h0, dif_pos h5] at h; cases h
      · by_cases h6 : s.length < 5 + by' s 4
        · rw [namesL, dif_neg h0, dif_neg h5, dif_pos h6] at h; cases h
        · by_cases h7 : (lt' ((s.take (5 + by' s 4)).drop 5) last || decide ((s.take (5 + by' s 4)).drop 5 = last)) = true
          · rw [namesL, dif_neg h0, dif_neg h5, dif_neg h6, if_pos h7] at h; cases h
          · rw [namesL, dif_neg h0, dif_neg h5, dif_neg h6, if_neg h7] at h
            cases hr : namesL (s.drop (5 + by' s 4)) ((s.take (5 + by' s 4)).drop 5) with
            | none => rw [hr] at h; cases h
            | some acc' =>
              rw [hr] at h
              obtain rfl := Option.some.inj h
              obtain ⟨i1, i2, i3⟩ := ih _ _ acc' (by simp; omega) hr
              refine ⟨?_, fun p t e => ?_, fun k hk => ?_⟩
              · show listN (_ :: acc') = s
                unfold listN at i1 ⊢
                rw [List.flatMap_cons, i1, cut_all s h5 h6]
              · obtain ⟨rfl, rfl⟩ := List.cons.inj e
                simpa using h7
              · cases k with
                | succ k =>
                  simp only [List.getD_cons_succ]
                  exact i3 k (by simpa using hk)
                | zero =>
                  cases acc' with
                  | nil => simp at hk
                  | cons q t =>
                    have h8 := i2 q t rfl
                    have h9 := lt_tri ((s.take (5 + by' s 4)).drop 5) q.1
                    rw [h8] at h9
                    show lt' ((s.take (5 + by' s 4)).drop 5) q.1 = true
                    simpa using h9
end Go.Proofs.Ytmammofbgllceaa.Nod
