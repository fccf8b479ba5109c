/- Layer 10: the document's digits, keys, places: the mathematics. -/
import Derived.Test.YtglnifckngcpkaaDoorPxD
import Derived.Test.YtglnifckngcpkaaDoorPxN
set_option linter.unusedVariables false
namespace Go.Proofs.YtglnifckngcpkaaDoor.Px
open Go.Proofs.YtglnifckngcpkaaDoor.Mem
theorem dd_big {u : Nat} (h : ¬ u < 10) : Lib.decDigits u = Lib.decDigits (u / 10) ++ [UInt8.ofNat (48 + u % 10)] := by rw [Lib.decDigits, dif_neg h]
theorem dd_small {u : Nat} (h : u < 10) : Lib.decDigits u = [UInt8.ofNat (48 + u)] := by rw [Lib.decDigits, dif_pos h]
def dt0 (x : Nat) : List UInt8 := if x = 0 then [] else Lib.decDigits x
theorem dt0_pos {x : Nat} (h : 0 < x) : dt0 x = dt0 (x / 10) ++ [UInt8.ofNat (48 + x % 10)] := by
  unfold dt0
  rw [if_neg (by omega)]
  by_cases h1 : x < 10
  · rw [dd_small h1, if_pos (by omega), Nat.mod_eq_of_lt h1]
    rfl
  · rw [dd_big h1, if_neg (by omega)]
theorem rdig_l (k : Int) : ∀ n (x : Nat) (s : List UInt8), 2 * x + (1 - s.length) < n → rdig_m_l0 k n ((x : Int), s) = .inl (0, (if s = [] then Lib.decDigits x else dt0 x) ++ s)
  | 0, _, _, h => by omega
  | n + 1, x, s, h => by
    have E : rdig_m_l0 k (n + 1) ((x : Int), s) = rdig_m_b0 k (rdig_m_l0 k n) (x : Int) s := rfl
    rw [E]
    unfold rdig_m_b0
    have ed : (((48 : Int) + ((x : Int) % (10 : Int))).toNat) = 48 + x % 10 := by omega
    have eq : ((x : Int) / (10 : Int)) = ((x / 10 : Nat) : Int) := by omega
    rw [ed, eq]
    by_cases hx : 0 < x
    · rw [if_pos (by omega), rdig_l k n (x / 10) _ (by rw [List.length_append, List.length_singleton]; omega), if_neg (by simp)]
      have e1 : (if s = [] then Lib.decDigits x else dt0 x) = dt0 x := by
        split
        · unfold dt0; rw [if_neg (by omega)]
        · rfl
      rw [e1, dt0_pos hx, List.append_assoc]
    · obtain rfl : x = 0 := by omega
      rw [if_neg (by omega)]
      by_cases hs : s = []
      · subst hs
        rw [if_pos rfl, rdig_l k n (0 / 10) _ (by simp at h ⊢; omega), if_neg (by simp), if_pos rfl, dd_small (by omega)]
        rfl
      · rw [if_neg hs, if_neg hs]
        rfl
theorem rdig_is (n : Int) (h : 0 ≤ n) : rdig_m n = itoa_m n := by
  rw [itoa_nat n h]
  obtain ⟨k, rfl⟩ : ∃ k : Nat, n = (k : Int) := ⟨n.toNat, by omega⟩
  unfold rdig_m
  rw [rdig_l _ _ k [] (by rw [Int.toNat_natCast]; simp), if_pos rfl, List.append_nil, Int.toNat_natCast]
  rfl
theorem rdig_len (n : Int) (h0 : 0 ≤ n) (h1 : n ≤ 100000000) : 1 ≤ (rdig_m n).length ∧ (rdig_m n).length ≤ 9 := by
  rw [rdig_is n h0, itoa_nat n h0]
  exact dd_len 8 n.toNat (by omega)
theorem rdig_mono (n m : Int) (h0 : 0 ≤ n) (h1 : n ≤ m) (h2 : m ≤ 100000000) : (rdig_m n).length ≤ (rdig_m m).length := by
  rw [rdig_is n h0, rdig_is m (by omega)]
  exact itoa_mono n m h0 h1
/-! Keys. -/
def keyok (s : List UInt8) : Prop := s ≠ [] ∧ ∀ c ∈ s, c ≠ 61 ∧ c ≠ 0 ∧ c ≠ 10 ∧ c ≠ 32
theorem ib_cons (c b : UInt8) (l : List UInt8) : Lib.indexByte (b :: l) c = if b = c then 0 else if Lib.indexByte l c = -1 then -1 else Lib.indexByte l c + 1 := by
  conv => lhs; unfold Lib.indexByte
  by_cases h : b = c
  · rw [if_pos h, if_pos (by simpa using h)]
  · rw [if_neg h, if_neg (by simpa using h)]
    have := Lib.indexByte_ge l c
    split <;> split <;> simp_all <;> omega
theorem ib_neg (c : UInt8) : ∀ s : List UInt8, (Lib.indexByte s c < 0 ↔ c ∉ s) ∧ -1 ≤ Lib.indexByte s c
  | [] => ⟨⟨(fun _ h => by cases h), fun _ => by show (-1 : Int) < 0; decide⟩, by show (-1 : Int) ≤ -1; decide⟩
  | b :: l => by
    obtain ⟨h1, h2⟩ := ib_neg c l
    rw [ib_cons]
    by_cases h : b = c
    · rw [if_pos h]
      exact ⟨⟨fun e => by omega, fun e => absurd (by rw [h]; simp) e⟩, by omega⟩
    · rw [if_neg h]
      have hm : c ∈ b :: l ↔ c ∈ l := by rw [List.mem_cons]; exact ⟨fun e => e.elim (fun e => absurd e.symm h) id, .inr⟩
      rw [hm, ← h1]
      split <;> omega
theorem ibm_neg (n : Nat) (s : List UInt8) : ib_m s n < 0 ↔ n.toUInt8 ∉ s := (ib_neg _ s).1
theorem key_iff (s : List UInt8) : key_m s = true ↔ keyok s := by
  unfold key_m keyok
  by_cases h : s = []
  · rw [if_neg (fun e => e h)]; exact ⟨(fun e => by cases e), fun e => absurd h e.1⟩
  rw [if_pos h]
  have q : ∀ n : Nat, ib_m s n < 0 ↔ ∀ c ∈ s, c ≠ n.toUInt8 := fun n => by
    rw [ibm_neg]
    exact ⟨fun hk c hc e => hk (e ▸ hc), fun hk hc => hk _ hc rfl⟩
  by_cases h1 : ib_m s 61 < 0
  · rw [if_pos h1]
    by_cases h2 : ib_m s 0 < 0
    · rw [if_pos h2]
      by_cases h3 : ib_m s 10 < 0
      · rw [if_pos h3, decide_eq_true_iff]
        exact ⟨fun h4 => ⟨h, fun c hc => ⟨(q 61).1 h1 c hc, (q 0).1 h2 c hc, (q 10).1 h3 c hc, (q 32).1 h4 c hc⟩⟩, fun h4 => (q 32).2 (fun c hc => (h4.2 c hc).2.2.2)⟩
      · rw [if_neg h3]; exact ⟨(fun e => by cases e), fun e => absurd ((q 10).2 (fun c hc => (e.2 c hc).2.2.1)) h3⟩
    · rw [if_neg h2]; exact ⟨(fun e => by cases e), fun e => absurd ((q 0).2 (fun c hc => (e.2 c hc).2.1)) h2⟩
  · rw [if_neg h1]; exact ⟨(fun e => by cases e), fun e => absurd ((q 61).2 (fun c hc => (e.2 c hc).1)) h1⟩
theorem by_get (s : List UInt8) (i : Nat) (c : UInt8) : by' s i = c.toNat ↔ s.getD i 0 = c := by
  unfold by'
  exact ⟨fun h => UInt8.toNat_inj.1 h, fun h => by rw [h]⟩
def ck (c : UInt8) : Bool := decide (c ≠ 61 ∧ c ≠ 0 ∧ c ≠ 10 ∧ c ≠ 32)
theorem rkey_l (s : List UInt8) : ∀ n x, s.length - x < n → fin (rkey_m_l0 s n x) (fun r => r) (fun zz => rkey_m_k0 s zz) = ((s.drop x).all ck && decide (¬ s = []))
  | 0, _, h => by omega
  | n + 1, x, h => by
    have E : rkey_m_l0 s (n + 1) x = rkey_m_b0 s (rkey_m_l0 s n) x := rfl
    rw [E]
    unfold rkey_m_b0
    by_cases hx : x < s.length
    · rw [if_pos hx, drop_at hx, List.all_cons]
      have no : ¬ (s.getD x 0 ≠ 61 ∧ s.getD x 0 ≠ 0 ∧ s.getD x 0 ≠ 10 ∧ s.getD x 0 ≠ 32) → (ck (s.getD x 0) && (s.drop (x + 1)).all ck && decide (¬ s = [])) = false := by
        intro e
        rw [show ck (s.getD x 0) = false from decide_eq_false e, Bool.false_and, Bool.false_and]
      by_cases h1 : by' s x = 61
      · rw [if_pos h1, no (fun e => e.1 ((by_get s x 61).1 h1))]; rfl
      rw [if_neg h1]
      by_cases h2 : by' s x = 0
      · rw [if_pos h2, no (fun e => e.2.1 ((by_get s x 0).1 h2))]; rfl
      rw [if_neg h2]
      by_cases h3 : by' s x = 10
      · rw [if_pos h3, no (fun e => e.2.2.1 ((by_get s x 10).1 h3))]; rfl
      rw [if_neg h3]
      by_cases h4 : by' s x = 32
      · rw [if_pos h4, no (fun e => e.2.2.2 ((by_get s x 32).1 h4))]; rfl
      rw [if_neg h4, rkey_l s n (x + 1) (by omega), show ck (s.getD x 0) = true from decide_eq_true ⟨fun e => h1 ((by_get s x 61).2 e), fun e => h2 ((by_get s x 0).2 e), fun e => h3 ((by_get s x 10).2 e), fun e => h4 ((by_get s x 32).2 e)⟩, Bool.true_and]
    · rw [if_neg hx, List.drop_eq_nil_of_le (by omega)]
      rfl
theorem rkey_is (s : List UInt8) : rkey_m s = key_m s := by
  unfold rkey_m
  rw [rkey_l s _ 0 (by omega), List.drop_zero, Bool.eq_iff_iff, key_iff, Bool.and_eq_true, decide_eq_true_iff, List.all_eq_true]
  exact ⟨fun e => ⟨e.2, fun c hc => of_decide_eq_true (e.1 c hc)⟩, fun e => ⟨fun c hc => decide_eq_true (e.2 c hc), e.1⟩⟩
/-! Places. -/
theorem rplace_l (s : List UInt8) (c : UInt8) : ∀ n x, s.length - x < n → x ≤ s.length → (∃ k : Nat, fin (rplace_m_l0 s c n x) (fun r => r) (fun zz => rplace_m_k0 s c zz) = (k : Int) ∧ x ≤ k ∧ k ≤ s.length ∧ (k < s.length → s.getD k 0 = c) ∧ ∀ i, x ≤ i → i < k → s.getD i 0 ≠ c)
  | 0, _, h, _ => by omega
  | n + 1, x, h, hx => by
    have E : rplace_m_l0 s c (n + 1) x = rplace_m_b0 s c (rplace_m_l0 s c n) x := rfl
    rw [E]
    unfold rplace_m_b0
    by_cases h1 : x < s.length
    · rw [if_pos h1]
      by_cases h2 : by' s x = c.toNat
      · rw [if_pos h2]
        exact ⟨x, rfl, Nat.le_refl _, hx, fun _ => (by_get s x c).1 h2, fun i h3 h4 => by omega⟩
      · rw [if_neg h2]
        obtain ⟨k, a1, a2, a3, a4, a5⟩ := rplace_l s c n (x + 1) (by omega) (by omega)
        refine ⟨k, a1, by omega, a3, a4, fun i h3 h4 => ?_⟩
        by_cases hi : i = x
        · subst hi; exact fun e => h2 ((by_get s i c).2 e)
        · exact a5 i (by omega) h4
    · rw [if_neg h1]
      exact ⟨s.length, rfl, hx, Nat.le_refl _, fun e => by omega, fun i h3 h4 => by omega⟩
theorem rplace_is (s : List UInt8) (c : UInt8) : ∃ k : Nat, rplace_m s c = (k : Int) ∧ k ≤ s.length ∧ (k < s.length → s.getD k 0 = c) ∧ ∀ i, i < k → s.getD i 0 ≠ c := by
  obtain ⟨k, a1, _, a3, a4, a5⟩ := rplace_l s c ((s.length - 0) + 1) 0 (by omega) (Nat.zero_le _)
  exact ⟨k, a1, a3, a4, fun i hi => a5 i (Nat.zero_le _) hi⟩
theorem rplace_rng (s : List UInt8) (c : UInt8) : 0 ≤ rplace_m s c ∧ rplace_m s c ≤ (s.length : Int) := by
  obtain ⟨k, a1, a3, _⟩ := rplace_is s c
  rw [a1]
  omega
theorem rlen_l (s : List UInt8) : ∀ n x i, x + 1 ≤ 10 ^ i → i ≤ 8 → i ≤ s.length → ∃ y j, rlen_m_l0 s n (x, i) = .inl (y, j) ∧ y + 1 ≤ 10 ^ j ∧ j ≤ 8 ∧ j ≤ s.length
  | 0, x, i, h1, h2, h3 => ⟨x, i, rfl, h1, h2, h3⟩
  | n + 1, x, i, h1, h2, h3 => by
    have E : rlen_m_l0 s (n + 1) (x, i) = rlen_m_b0 s (rlen_m_l0 s n) x i := rfl
    rw [E]
    unfold rlen_m_b0
    by_cases a : i < s.length
    · rw [if_pos a]
      by_cases b : 48 ≤ by' s i
      · rw [if_pos b]
        by_cases c : by' s i ≤ 57
        · rw [if_pos c]
          by_cases d : i < 8
          · rw [if_pos d]
            exact rlen_l s n _ _ (by rw [Nat.pow_succ]; omega) (by omega) (by omega)
          · rw [if_neg d]; exact ⟨x, i, rfl, h1, h2, h3⟩
        · rw [if_neg c]; exact ⟨x, i, rfl, h1, h2, h3⟩
      · rw [if_neg b]; exact ⟨x, i, rfl, h1, h2, h3⟩
    · rw [if_neg a]; exact ⟨x, i, rfl, h1, h2, h3⟩
theorem rlen_rng (s : List UInt8) : 0 ≤ (rlen_m s).1 ∧ (rlen_m s).1 ≤ 99999999 ∧ 0 ≤ (rlen_m s).2 ∧ (rlen_m s).2 ≤ (s.length : Int) := by
  unfold rlen_m
  obtain ⟨y, j, e, h1, h2, h3⟩ := rlen_l s ((s.length - 0) + 1) 0 0 (by decide) (by decide) (Nat.zero_le _)
  rw [e]
  dsimp only [fin]
  have hp := Nat.pow_le_pow_right (n := 10) (by decide) h2
  unfold rlen_m_k0
  split
  · exact ⟨Int.le_refl _, by decide, Int.le_refl _, by show (0 : Int) ≤ _; omega⟩
  · split
    · exact ⟨Int.le_refl _, by decide, Int.le_refl _, by show (0 : Int) ≤ _; omega⟩
    · refine ⟨?_, ?_, ?_, ?_⟩
      · show (0 : Int) ≤ (y : Int); omega
      · show (y : Int) ≤ 99999999; omega
      · show (0 : Int) ≤ (j : Int); omega
      · show (j : Int) ≤ (s.length : Int); omega
end Go.Proofs.YtglnifckngcpkaaDoor.Px
