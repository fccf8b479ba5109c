/- Layer 10: texts of records, last values, the example: the mathematics. -/
import Derived.Test.YtglnifckngcpkaaDoorPxO
set_option linter.unusedVariables false
namespace Go.Proofs.YtglnifckngcpkaaDoor.Px
open Go.Proofs.YtglnifckngcpkaaDoor.Mem
theorem enc_same_l (l : List Par) : ∀ n b i, fin (rencode_m_l0 l n (b, i)) (fun r => r) (fun zz => rencode_m_k0 l zz.1 zz.2) = fin (encode_m_l0 l n (b, i)) (fun r => r) (fun zz => encode_m_k0 l zz.1 zz.2)
  | 0, _, _ => rfl
  | n + 1, b, i => by
    have E1 : rencode_m_l0 l (n + 1) (b, i) = rencode_m_b0 l (rencode_m_l0 l n) b i := rfl
    have E2 : encode_m_l0 l (n + 1) (b, i) = encode_m_b0 l (encode_m_l0 l n) b i := rfl
    rw [E1, E2]
    unfold rencode_m_b0 encode_m_b0
    rw [rkey_is]
    by_cases h1 : i < l.length
    · rw [if_pos h1, if_pos h1]
      by_cases h2 : (!(key_m ((l.getD i dPar).key))) = true
      · rw [if_pos h2, if_pos h2]
        rfl
      rw [if_neg h2, if_neg h2]
      by_cases h3 : 1048576 < ((l.getD i dPar).key).length
      · rw [if_pos h3]
        by_cases h5 : 1048576 < b.length
        · rw [if_pos h5, if_pos h3]; rfl
        · rw [if_neg h5, if_pos h3]; rfl
      rw [if_neg h3, if_neg h3]
      by_cases h4 : 1048576 < ((l.getD i dPar).value).length
      · rw [if_pos h4]
        by_cases h5 : 1048576 < b.length
        · rw [if_pos h5, if_pos h4]; rfl
        · rw [if_neg h5, if_pos h4]; rfl
      rw [if_neg h4, if_neg h4]
      by_cases h5 : 1048576 < b.length
      · rw [if_pos h5, if_pos h5]; rfl
      · rw [if_neg h5, if_neg h5, rone_is _ (by omega) (by omega)]
        exact enc_same_l l n _ _
    · rw [if_neg h1, if_neg h1]
      rfl
theorem encode_same (l : List Par) : rencode_m l = encode_m l := enc_same_l l _ _ _
theorem encode_len_l (l : List Par) : ∀ n z, (fin (encode_m_l0 l n z) (fun r => r) (fun zz => encode_m_k0 l zz.1 zz.2)).1.length ≤ 1048576
  | 0, z => by
    show (encode_m_k0 l z.1 z.2).1.length ≤ _
    unfold encode_m_k0
    split
    · simp
    · show z.1.length ≤ _; omega
  | n + 1, (b, i) => by
    have E2 : encode_m_l0 l (n + 1) (b, i) = encode_m_b0 l (encode_m_l0 l n) b i := rfl
    rw [E2]
    unfold encode_m_b0
    have hk : (encode_m_k0 l b i).1.length ≤ 1048576 := by
      unfold encode_m_k0
      split
      · simp
      · show b.length ≤ _; omega
    repeat' split
    all_goals first
      | exact encode_len_l l n _
      | (show (([] : List UInt8)).length ≤ 1048576; simp)
      | exact hk
theorem encode_len (l : List Par) : (encode_m l).1.length ≤ 1048576 := encode_len_l l _ _
theorem take_next (l : List Par) (i : Nat) (h : i < l.length) : l.take (i + 1) = l.take i ++ [l.getD i dPar] := by
  rw [List.take_add_one, List.getD_eq_getElem?_getD, List.getElem?_eq_getElem h]
  rfl
theorem cat_app (a b : List Par) : cat (a ++ b) = cat a ++ cat b := List.flatMap_append
theorem cat_one (p : Par) : cat [p] = record_m p := by unfold cat; simp
/-- If all keys may be, and all is short enough, the text is written. -/
theorem enc_ok_l (l : List Par) (hk : ∀ p ∈ l, keyok p.key) (hl : (cat l).length ≤ 1048576) : ∀ n i, i ≤ l.length → l.length - i < n → fin (encode_m_l0 l n (cat (l.take i), i)) (fun r => r) (fun zz => encode_m_k0 l zz.1 zz.2) = (cat l, 0)
  | 0, _, _, h => by omega
  | n + 1, i, hi, h => by
    have E2 : encode_m_l0 l (n + 1) (cat (l.take i), i) = encode_m_b0 l (encode_m_l0 l n) (cat (l.take i)) i := rfl
    rw [E2]
    unfold encode_m_b0
    have hpre : (cat (l.take i)).length ≤ (cat l).length := by
      conv => rhs; rw [← List.take_append_drop i l, cat_app, List.length_append]
      omega
    by_cases h1 : i < l.length
    · have hm : l.getD i dPar ∈ l := by rw [List.getD_eq_getElem?_getD, List.getElem?_eq_getElem h1]; exact List.getElem_mem h1
      have hr := rec_len (l.getD i dPar)
      have hrl : (record_m (l.getD i dPar)).length ≤ (cat l).length := by
        have e : l.take (i + 1) ++ l.drop (i + 1) = l := List.take_append_drop _ _
        conv => rhs; rw [← e, cat_app, take_next l i h1, cat_app, cat_one, List.length_append, List.length_append]
        omega
      rw [if_pos h1, if_neg (by rw [(key_iff _).2 (hk _ hm)]; decide), if_neg (by omega), if_neg (by omega), if_neg (by omega)]
      have := enc_ok_l l hk hl n (i + 1) (by omega) (by omega)
      rw [take_next l i h1, cat_app, cat_one] at this
      exact this
    · rw [if_neg h1]
      have hi' : i = l.length := by omega
      subst hi'
      rw [List.take_length]
      show encode_m_k0 l (cat l) l.length = _
      unfold encode_m_k0
      rw [if_neg (by omega)]
theorem enc_ok (l : List Par) (hk : ∀ p ∈ l, keyok p.key) (hl : (cat l).length ≤ 1048576) : encode_m l = (cat l, 0) := by
  have := enc_ok_l l hk hl ((l.length - 0) + 1) 0 (Nat.zero_le _) (by omega)
  rw [List.take_zero] at this
  exact this
/-- What was written. -/
theorem enc_is_l (l : List Par) : ∀ n i, i ≤ l.length → l.length - i < n → (∀ p ∈ l.take i, keyok p.key) → (fin (encode_m_l0 l n (cat (l.take i), i)) (fun r => r) (fun zz => encode_m_k0 l zz.1 zz.2)).2 = 0 →
    (∀ p ∈ l, keyok p.key) ∧ (cat l).length ≤ 1048576
  | 0, _, _, h, _, _ => by omega
  | n + 1, i, hi, h, hp, he => by
    have E2 : encode_m_l0 l (n + 1) (cat (l.take i), i) = encode_m_b0 l (encode_m_l0 l n) (cat (l.take i)) i := rfl
    rw [E2] at he
    unfold encode_m_b0 at he
    by_cases h1 : i < l.length
    · rw [if_pos h1] at he
      by_cases h2 : (!(key_m ((l.getD i dPar).key))) = true
      · rw [if_pos h2] at he; exact absurd he (by show ¬ (1 : Int) = 0; decide)
      rw [if_neg h2] at he
      by_cases h3 : 1048576 < ((l.getD i dPar).key).length
      · rw [if_pos h3] at he; exact absurd he (by show ¬ (3 : Int) = 0; decide)
      rw [if_neg h3] at he
      by_cases h4 : 1048576 < ((l.getD i dPar).value).length
      · rw [if_pos h4] at he; exact absurd he (by show ¬ (3 : Int) = 0; decide)
      rw [if_neg h4] at he
      by_cases h5 : 1048576 < (cat (l.take i)).length
      · rw [if_pos h5] at he; exact absurd he (by show ¬ (3 : Int) = 0; decide)
      rw [if_neg h5] at he
      refine enc_is_l l n (i + 1) (by omega) (by omega) ?_ ?_
      · intro p hq
        rw [take_next l i h1] at hq
        rcases List.mem_append.1 hq with hq | hq
        · exact hp p hq
        · rw [List.mem_singleton] at hq
          rw [hq]
          exact (key_iff _).1 (nn h2)
      · rw [take_next l i h1, cat_app, cat_one]
        exact he
    · rw [if_neg h1] at he
      have hi' : i = l.length := by omega
      subst hi'
      rw [List.take_length] at he hp
      refine ⟨hp, ?_⟩
      have he' : (encode_m_k0 l (cat l) l.length).2 = 0 := he
      unfold encode_m_k0 at he'
      by_cases h6 : 1048576 < (cat l).length
      · rw [if_pos h6] at he'; exact absurd he' (by decide)
      · omega
theorem enc_is (l : List Par) (he : (encode_m l).2 = 0) : (∀ p ∈ l, keyok p.key) ∧ (cat l).length ≤ 1048576 ∧ encode_m l = (cat l, 0) := by
  obtain ⟨a, b⟩ := enc_is_l l ((l.length - 0) + 1) 0 (Nat.zero_le _) (by omega) (by intro p hp; rw [List.take_zero] at hp; cases hp) (by rw [List.take_zero]; exact he)
  exact ⟨a, b, enc_ok l a b⟩
/-! Last values. -/
def lsf (l : List Par) (key : List UInt8) : List UInt8 × Bool := l.foldl (fun acc p => if p.key = key then (p.value, true) else acc) ([], false)
theorem lsf_snoc (l : List Par) (p : Par) (key : List UInt8) : lsf (l ++ [p]) key = if p.key = key then (p.value, true) else lsf l key := by
  unfold lsf
  rw [List.foldl_append]
  rfl
theorem last_l (l : List Par) (key : List UInt8) : ∀ n (k : Nat), k ≤ l.length → k < n → fin (last_m_l0 l key n ((k : Int) - 1)) (fun r => r) (fun zz => last_m_k0 l key zz) = lsf (l.take k) key
  | 0, _, _, h => by omega
  | n + 1, k, hk, h => by
    have E : last_m_l0 l key (n + 1) ((k : Int) - 1) = last_m_b0 l key (last_m_l0 l key n) ((k : Int) - 1) := rfl
    rw [E]
    unfold last_m_b0
    by_cases h1 : k = 0
    · subst h1
      rw [if_neg (by omega), List.take_zero]
      rfl
    · obtain ⟨j, rfl⟩ : ∃ j, k = j + 1 := ⟨k - 1, by omega⟩
      have e1 : (((j + 1 : Nat) : Int) - 1) = (j : Int) := by omega
      rw [e1, if_pos (by omega), Int.toNat_natCast, take_next l j (by omega), lsf_snoc]
      by_cases h2 : (l.getD j dPar).key = key
      · rw [if_pos h2, if_pos h2]; rfl
      · rw [if_neg h2, if_neg h2]
        exact last_l l key n j (by omega) (by omega)
theorem last_is (l : List Par) (key : List UInt8) : last_m l key = lsf l key := by
  unfold last_m
  rw [last_l l key _ l.length (Nat.le_refl _) (by omega), List.take_length]
theorem rlast_l (l : List Par) (key : List UInt8) : ∀ n i, i ≤ l.length → l.length - i < n → fin (rlast_m_l0 l key n ((lsf (l.take i) key).1, (lsf (l.take i) key).2, i)) (fun r => r) (fun zz => rlast_m_k0 l key zz.1 zz.2.1 zz.2.2) = lsf l key
  | 0, _, _, h => by omega
  | n + 1, i, hi, h => by
    have E : rlast_m_l0 l key (n + 1) ((lsf (l.take i) key).1, (lsf (l.take i) key).2, i) = rlast_m_b0 l key (rlast_m_l0 l key n) (lsf (l.take i) key).1 (lsf (l.take i) key).2 i := rfl
    rw [E]
    unfold rlast_m_b0
    by_cases h1 : i < l.length
    · rw [if_pos h1]
      have ih := rlast_l l key n (i + 1) (by omega) (by omega)
      rw [take_next l i h1, lsf_snoc] at ih
      by_cases h2 : (l.getD i dPar).key = key
      · rw [if_pos h2]; rw [if_pos h2] at ih; exact ih
      · rw [if_neg h2]; rw [if_neg h2] at ih; exact ih
    · rw [if_neg h1]
      have : i = l.length := by omega
      subst this
      rw [List.take_length]
      rfl
theorem rlast_is (l : List Par) (key : List UInt8) : rlast_m l key = last_m l key := by
  rw [last_is]
  have := rlast_l l key ((l.length - 0) + 1) 0 (Nat.zero_le _) (by omega)
  rw [List.take_zero] at this
  exact this
theorem lsf_mem (p : Par) : ∀ (l : List Par) (a : List UInt8 × Bool), (a.2 = true ∨ p ∈ l) → (l.foldl (fun acc q => if q.key = p.key then (q.value, true) else acc) a).2 = true
  | [], a, h => by
    rcases h with h | h
    · exact h
    · cases h
  | q :: l, a, h => by
    rw [List.foldl_cons]
    refine lsf_mem p l _ ?_
    by_cases e : q.key = p.key
    · rw [if_pos e]; exact .inl rfl
    · rw [if_neg e]
      rcases h with h | h
      · exact .inl h
      · rcases List.mem_cons.1 h with rfl | h
        · exact absurd rfl e
        · exact .inr h
/-! What is great; what is the same. -/
theorem great_l (l : List Par) : ∀ n x i, i ≤ l.length → l.length - i < n → ¬ fin (great_m_l0 l n (x, i)) (fun r => r) (fun zz => great_m_k0 l zz.1 zz.2) = true → (l.length ≤ 501 ∨ i = l.length) ∧ ∀ j, i ≤ j → j < l.length → (l.getD j dPar).key.length ≤ 20000 ∧ (l.getD j dPar).value.length ≤ 20000
  | 0, _, _, _, h, _ => by omega
  | n + 1, x, i, hi, h, hg => by
    have E : great_m_l0 l (n + 1) (x, i) = great_m_b0 l (great_m_l0 l n) x i := rfl
    rw [E] at hg
    unfold great_m_b0 at hg
    by_cases h1 : i < l.length
    · rw [if_pos h1] at hg
      by_cases h2 : ((20000 : Int) - ((x : Nat) : Int)) < ((((l.getD i dPar).key).length : Nat) : Int)
      · rw [if_pos h2] at hg; exact absurd rfl hg
      rw [if_neg h2] at hg
      by_cases h3 : ((20000 : Int) - ((x : Nat) : Int)) < ((((l.getD i dPar).value).length : Nat) : Int)
      · rw [if_pos h3] at hg; exact absurd rfl hg
      rw [if_neg h3] at hg
      by_cases h4 : 500 < i
      · rw [if_pos h4] at hg; exact absurd rfl hg
      rw [if_neg h4] at hg
      by_cases h5 : ((20000 : Int) - (((x + (((l.getD i dPar).key).length)) : Nat) : Int)) < ((((l.getD i dPar).value).length : Nat) : Int)
      · rw [if_pos h5] at hg; exact absurd rfl hg
      rw [if_neg h5] at hg
      obtain ⟨a, b⟩ := great_l l n _ (i + 1) (by omega) (by omega) hg
      refine ⟨by omega, fun j h6 h7 => ?_⟩
      by_cases e : j = i
      · subst e
        exact ⟨by omega, by omega⟩
      · exact b j (by omega) h7
    · exact ⟨by omega, fun j h6 h7 => by omega⟩
theorem great_all {l : List Par} (h : ¬ great_m l = true) : l.length ≤ 501 ∧ ∀ j, (l.getD j dPar).key.length ≤ 20000 ∧ (l.getD j dPar).value.length ≤ 20000 := by
  obtain ⟨a, b⟩ := great_l l ((l.length - 0) + 1) 0 0 (Nat.zero_le _) (by omega) h
  refine ⟨by omega, fun j => ?_⟩
  by_cases hj : j < l.length
  · exact b j (Nat.zero_le _) hj
  · rw [List.getD_eq_getElem?_getD, List.getElem?_eq_none (by omega)]
    exact ⟨by decide, by decide⟩
theorem great_keys {l : List Par} (h : ¬ great_m l = true) (i : Nat) : (l.getD i dPar).key.length ≤ 1048576 := by have := ((great_all h).2 i).1; omega
theorem great_len {l : List Par} (h : ¬ great_m l = true) : l.length ≤ 501 := (great_all h).1
theorem same_self_l (a : List Par) : ∀ n i, fin (same_m_l0 a a n i) (fun r => r) (fun zz => same_m_k0 a a zz) = true
  | 0, _ => rfl
  | n + 1, i => by
    have E : same_m_l0 a a (n + 1) i = same_m_b0 a a (same_m_l0 a a n) i := rfl
    rw [E]
    unfold same_m_b0
    by_cases h : i < a.length
    · rw [if_pos h, if_neg (fun e => e rfl)]
      exact same_self_l a n (i + 1)
    · rw [if_neg h]; rfl
theorem same_self (a : List Par) : same_m a a = true := by
  unfold same_m
  rw [if_neg (fun e => e rfl)]
  exact same_self_l a _ _
/-! The example. -/
theorem rec1 : record_m (Par.mk [112, 97, 116, 104] [97]) = [57, 32, 112, 97, 116, 104, 61, 97, 10] := by
  have e : plen_m (((rst (Par.mk [112, 97, 116, 104] [97])).length : Nat) : Int) = 9 := by
    refine plen_uniq 8 (by decide) (by decide) 9 (by decide) ?_ (fun k h1 h2 => by omega)
    rw [itoa_nat 9 (by decide), show (9 : Int).toNat = 9 from rfl, dd_small (by decide)]
    rfl
  rw [record_is, e, itoa_nat 9 (by decide), show (9 : Int).toNat = 9 from rfl, dd_small (by decide)]
  rfl
theorem rec2 : record_m (Par.mk [107] [49, 50, 51, 52, 53]) = [49, 49, 32, 107, 61, 49, 50, 51, 52, 53, 10] := by
  have d11 : itoa_m 11 = [49, 49] := by rw [itoa_nat 11 (by decide), show (11 : Int).toNat = 11 from rfl, dd_big (by decide), dd_small (by decide)]; rfl
  have d10 : itoa_m 10 = [49, 48] := by rw [itoa_nat 10 (by decide), show (10 : Int).toNat = 10 from rfl, dd_big (by decide), dd_small (by decide)]; rfl
  have e : plen_m (((rst (Par.mk [107] [49, 50, 51, 52, 53])).length : Nat) : Int) = 11 := by
    refine plen_uniq 9 (by decide) (by decide) 11 (by decide) (by rw [d11]; rfl) (fun k h1 h2 => ?_)
    obtain rfl : k = 10 := by omega
    rw [d10]
    decide
  rw [record_is, e, d11]
  rfl
theorem pawake_true : pawake_m = true := by
  have hk : ∀ p ∈ ([(Par.mk ([112, 97, 116, 104]) ([97])), (Par.mk ([107]) ([49, 50, 51, 52, 53]))] : List Par), keyok p.key := by
    intro p hp
    simp only [List.mem_cons, List.not_mem_nil, or_false] at hp
    rcases hp with rfl | rfl
    · refine ⟨by simp, ?_⟩
      show ∀ c ∈ ([112, 97, 116, 104] : List UInt8), c ≠ 61 ∧ c ≠ 0 ∧ c ≠ 10 ∧ c ≠ 32
      decide
    · refine ⟨by simp, ?_⟩
      show ∀ c ∈ ([107] : List UInt8), c ≠ 61 ∧ c ≠ 0 ∧ c ≠ 10 ∧ c ≠ 32
      decide
  have hc : cat ([(Par.mk ([112, 97, 116, 104]) ([97])), (Par.mk ([107]) ([49, 50, 51, 52, 53]))] : List Par) = [57, 32, 112, 97, 116, 104, 61, 97, 10, 49, 49, 32, 107, 61, 49, 50, 51, 52, 53, 10] := by
    rw [cat_cons, cat_one, rec1, rec2]
    rfl
  have he := enc_ok _ hk (by rw [hc]; decide)
  rw [hc] at he
  have hd : decode_m [57, 32, 112, 97, 116, 104, 61, 97, 10, 49, 49, 32, 107, 61, 49, 50, 51, 52, 53, 10] = ([(Par.mk ([112, 97, 116, 104]) ([97])), (Par.mk ([107]) ([49, 50, 51, 52, 53]))], 0) := by
    rcases decode_dec [57, 32, 112, 97, 116, 104, 61, 97, 10, 49, 49, 32, 107, 61, 49, 50, 51, 52, 53, 10] with ⟨h, _⟩ | ⟨hl, ⟨k, hd, e⟩ | ⟨hn, _⟩⟩
    · exact absurd h (by decide)
    · rw [e, dec_uniq hd ⟨hc.symm, hk⟩ hl]
    · exact absurd ⟨_, hc.symm, hk⟩ hn
  unfold pawake_m
  rw [he]
  dsimp only
  rw [if_pos rfl, if_pos rfl, hd]
  rfl
end Go.Proofs.YtglnifckngcpkaaDoor.Px
