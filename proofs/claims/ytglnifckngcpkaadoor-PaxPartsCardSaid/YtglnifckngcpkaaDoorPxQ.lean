/- Layer 10: the laws are true: the mathematics. -/
import Derived.Test.YtglnifckngcpkaaDoorPxLEncodes
import Derived.Test.YtglnifckngcpkaaDoorPxLDecodes
import Derived.Test.YtglnifckngcpkaaDoorPxLBack
import Derived.Test.YtglnifckngcpkaaDoorPxLParts
import Derived.Test.YtglnifckngcpkaaDoorPxLLast
import Derived.Test.YtglnifckngcpkaaDoorPxLSizes
set_option linter.unusedVariables false
namespace Go.Proofs.YtglnifckngcpkaaDoor.Px
open Go.Proofs.YtglnifckngcpkaaDoor.Mem
theorem lencodes_true (l : List Par) (key : List UInt8) : lencodes_m l key = true := by
  unfold lencodes_m
  by_cases h1 : great_m l = true
  · rw [if_pos h1]; exact pawake_true
  rw [if_neg h1]
  by_cases h2 : 20000 < key.length
  · rw [if_pos h2]; exact pawake_true
  rw [if_neg h2, if_pos pawake_true, encode_same, if_pos rfl, if_pos rfl, rlast_is, if_pos rfl, if_pos (beq_self_eq_true _), rkey_is]
  exact beq_self_eq_true _
theorem ldecodes_true (s : List UInt8) : ldecodes_m s = true := by
  unfold ldecodes_m
  by_cases h2 : 20000 < s.length
  · rw [if_pos h2]; exact pawake_true
  rw [if_neg h2, if_pos pawake_true, decode_same, if_pos (same_self _)]
  exact decide_eq_true rfl
theorem enc_dec {s : List UInt8} (hl : s.length ≤ 1048576) (h : (decode_m s).2 = 0) : Dec s (decode_m s).1 ∧ encode_m (decode_m s).1 = (s, 0) := by
  rcases decode_dec s with ⟨h1, _⟩ | ⟨_, ⟨k, hd, e⟩ | ⟨_, e⟩⟩
  · omega
  · rw [e]
    refine ⟨hd, ?_⟩
    have := enc_ok k hd.2 (by rw [← hd.1]; exact hl)
    rw [← hd.1] at this
    exact this
  · rw [e] at h
    exact absurd h (by decide)
theorem dec_enc {s : List UInt8} {k : List Par} (hl : s.length ≤ 1048576) (hd : Dec s k) : decode_m s = (k, 0) := by
  rcases decode_dec s with ⟨h1, _⟩ | ⟨_, ⟨k', hd', e⟩ | ⟨hn, _⟩⟩
  · omega
  · rw [e, dec_uniq hd' hd hl]
  · exact absurd ⟨k, hd⟩ hn
theorem lback_true (l : List Par) (s : List UInt8) : lback_m l s = true := by
  unfold lback_m
  by_cases h1 : great_m l = true
  · rw [if_pos h1]; exact pawake_true
  rw [if_neg h1]
  by_cases h2 : 20000 < s.length
  · rw [if_pos h2]; exact pawake_true
  rw [if_neg h2]
  have hs : (if ¬ (decode_m s).2 = 0 then true else if (encode_m ((decode_m s).1)).2 = 0 then (decide ((encode_m ((decode_m s).1)).1 = s)) else false) = true := by
    by_cases h3 : (decode_m s).2 = 0
    · obtain ⟨_, e⟩ := enc_dec (by omega) h3
      rw [if_neg (fun q => q h3), e, if_pos rfl]
      exact decide_eq_true rfl
    · rw [if_pos h3]
  by_cases h4 : (encode_m l).2 = 0
  · obtain ⟨a, b, e⟩ := enc_is l h4
    have hd := dec_enc b ⟨rfl, a⟩
    rw [if_pos h4, e, hd]
    dsimp only
    rw [if_neg (fun q => q rfl), same_self, if_neg (by decide), if_pos pawake_true]
    exact hs
  · rw [if_neg h4, if_pos pawake_true]
    exact hs
theorem lparts_true (s t : List UInt8) : lparts_m s t = true := by
  unfold lparts_m
  by_cases h1 : 20000 < s.length
  · rw [if_pos h1]; exact pawake_true
  rw [if_neg h1]
  by_cases h2 : 20000 < t.length
  · rw [if_pos h2]; exact pawake_true
  rw [if_neg h2]
  have hst : (s ++ t).length ≤ 1048576 := by rw [List.length_append]; omega
  by_cases h3 : (decode_m s).2 = 0
  · rw [if_neg (fun q => q h3), if_pos pawake_true]
    obtain ⟨hd, _⟩ := enc_dec (by omega) h3
    generalize (decode_m s).1 = a at hd ⊢
    rcases decode_dec t with ⟨h, _⟩ | ⟨_, ⟨b, hb, e⟩ | ⟨hn, e⟩⟩
    · omega
    · have hst' : Dec (s ++ t) (a ++ b) := ⟨by rw [cat_app, ← hd.1, ← hb.1], fun p hp => (List.mem_append.1 hp).elim (hd.2 p) (hb.2 p)⟩
      rw [dec_enc hst hst', e]
      dsimp only
      rw [if_pos rfl, if_neg (fun q => q rfl), List.nil_append]
      exact same_self _
    · have hno : ¬ ∃ k, Dec (s ++ t) k := by
        rintro ⟨k, hk1, hk2⟩
        rw [hd.1] at hk1 hst
        obtain ⟨b, hb, hb2⟩ := dec_strip a k t hd.2 hk2 hk1 hst
        exact hn ⟨b, hb2, fun p hp => hk2 p (by rw [hb]; simp [hp])⟩
      rcases decode_dec (s ++ t) with ⟨h, _⟩ | ⟨_, ⟨b, hb, _⟩ | ⟨_, e2⟩⟩
      · omega
      · exact absurd ⟨b, hb⟩ hno
      · rw [e, e2]
        dsimp only
        rw [if_pos rfl, if_pos (by decide)]
  · rw [if_pos h3, if_pos pawake_true]
    refine decide_eq_true ?_
    rcases decode_dec s with ⟨_, e⟩ | ⟨_, ⟨k, _, e⟩ | ⟨_, e⟩⟩
    · rw [e]; rfl
    · rw [e] at h3; exact absurd rfl h3
    · rw [e]; rfl
theorem llast_l (l : List Par) (p : Par) : ∀ n i, fin (llast_m_l0 l p n i) (fun r => r) (fun zz => llast_m_k0 l p zz) = true
  | 0, i => by
    show llast_m_k0 l p i = true
    unfold llast_m_k0
    rw [if_pos pawake_true, last_is, List.nil_append, lsf_snoc, if_pos rfl, if_pos rfl]
    exact decide_eq_true rfl
  | n + 1, i => by
    have E : llast_m_l0 l p (n + 1) i = llast_m_b0 l p (llast_m_l0 l p n) i := rfl
    rw [E]
    unfold llast_m_b0
    rw [List.nil_append]
    by_cases h : i < l.length
    · have hm : l.getD i dPar ∈ l := by rw [List.getD_eq_getElem?_getD, List.getElem?_eq_getElem h]; exact List.getElem_mem h
      have h1 : (last_m l ((l.getD i dPar).key)).2 = true := by rw [last_is]; exact lsf_mem _ l _ (.inr hm)
      have h2 : (last_m (l ++ [p]) ((l.getD i dPar).key)).2 = true := by rw [last_is]; exact lsf_mem _ (l ++ [p]) _ (.inr (List.mem_append_left _ hm))
      rw [if_pos h, h1, if_neg (by decide), h2, if_neg (by decide)]
      by_cases h3 : (l.getD i dPar).key = p.key
      · rw [if_neg (fun q => q h3)]
        exact llast_l l p n (i + 1)
      · have e3 : lsf (l ++ [p]) ((l.getD i dPar).key) = lsf l ((l.getD i dPar).key) := by rw [lsf_snoc, if_neg (fun e => h3 e.symm)]
        rw [if_pos h3, last_is, last_is, e3, if_neg (fun q => q rfl)]
        exact llast_l l p n (i + 1)
    · rw [if_neg h]
      exact llast_l l p 0 i
theorem llast_true (l : List Par) (p : Par) : llast_m l p = true := by
  unfold llast_m
  by_cases h1 : great_m l = true
  · rw [if_pos h1]; exact pawake_true
  rw [if_neg h1]
  by_cases h2 : 20000 < p.key.length
  · rw [if_pos h2]; exact pawake_true
  rw [if_neg h2]
  by_cases h3 : 20000 < p.value.length
  · rw [if_pos h3]; exact pawake_true
  rw [if_neg h3]
  exact llast_l l p _ _
theorem lsizes_run (p : Par) (s r : List UInt8) (he : (encode_m ([p] : List Par)).1 = s) : ∀ (E P : List UInt8) (x n : Nat), s = P ++ (E ++ 32 :: r) → (∀ c ∈ E, dg c = true) → P.length + E.length ≤ 7 → E.length < n → lsizes_m_l0 p n (x, P.length) = .inl (val x E, P.length + E.length)
  | [], P, x, 0, _, _, _, h => by simp at h
  | [], P, x, n + 1, hs, _, _, _ => by
    have E' : lsizes_m_l0 p (n + 1) (x, P.length) = lsizes_m_b0 p (lsizes_m_l0 p n) x P.length := rfl
    rw [E']
    unfold lsizes_m_b0
    rw [he]
    have hl : P.length < s.length := by rw [hs]; simp
    have hb : by' s P.length = 32 := by rw [hs, List.nil_append]; exact by_app P r 32
    rw [if_pos hl, if_neg (by omega)]
    rfl
  | c :: E, P, x, 0, _, _, _, h => by simp at h
  | c :: E, P, x, n + 1, hs, hd, h8, hn => by
    have E' : lsizes_m_l0 p (n + 1) (x, P.length) = lsizes_m_b0 p (lsizes_m_l0 p n) x P.length := rfl
    rw [E']
    unfold lsizes_m_b0
    rw [he]
    have hl : P.length < s.length := by rw [hs]; simp
    have hb : by' s P.length = c.toNat := by rw [hs, List.cons_append]; exact by_app P _ c
    have hc : 48 ≤ c.toNat ∧ c.toNat ≤ 57 := of_decide_eq_true (hd c (by simp))
    rw [List.length_cons] at h8 hn
    have ih := lsizes_run p s r he E (P ++ [c]) (10 * x + (c.toNat - 48)) n (by rw [hs]; simp) (fun d hd' => hd d (by simp [hd'])) (by simp; omega) (by omega)
    rw [List.length_append, List.length_singleton] at ih
    rw [if_pos hl, hb, if_pos hc.1, if_pos hc.2, if_pos (by omega), ih, List.length_cons]
    show Sum.inl (val (10 * x + (c.toNat - 48)) E, P.length + 1 + E.length) = Sum.inl (val x (c :: E), P.length + (E.length + 1))
    rw [show P.length + 1 + E.length = P.length + (E.length + 1) from by omega]
    rfl
theorem lsizes_true (p : Par) : lsizes_m p = true := by
  unfold lsizes_m
  by_cases h2 : 20000 < p.key.length
  · rw [if_pos h2]; exact pawake_true
  rw [if_neg h2]
  by_cases h3 : 20000 < p.value.length
  · rw [if_pos h3]; exact pawake_true
  rw [if_neg h3]
  have hrl : (record_m p).length ≤ 1048576 := by
    have h := rst_len p
    have e := record_size p (by omega) (by omega)
    have r := plen_rng ((rst p).length : Int) (by omega) (by omega)
    omega
  by_cases hk : key_m p.key = true
  · have he := enc_ok [p] (by intro q hq; rw [List.mem_singleton] at hq; rw [hq]; exact (key_iff _).1 hk) (by rw [cat_one]; exact hrl)
    rw [cat_one] at he
    obtain ⟨D, h⟩ := head_of p [] (by rw [List.append_nil]; exact hrl)
    rw [List.append_nil] at h
    obtain ⟨s1, s2, s3, s4⟩ := h.sizes
    have hr := lsizes_run p (record_m p) (bod p ++ [10]) (by rw [he]) D [] 0 (((record_m p).length - 0) + 1) (by rw [List.nil_append]; exact h.rc) (by rw [h.dd]; exact dd_dg _) (by simp; omega) (by have := h.len; omega)
    have hr' : lsizes_m_l0 p (((record_m p).length - 0) + 1) (0, 0) = .inl (val 0 D, 0 + D.length) := hr
    have hv : val 0 D = (record_m p).length := by rw [h.dd]; exact val_dd _
    have hdr : (record_m p).drop (0 + D.length) = ((([32] ++ p.key) ++ [61]) ++ p.value) ++ [10] := by
      rw [Nat.zero_add]
      conv => lhs; rw [h.rc, List.drop_left]
      unfold bod
      simp
    have e1 : (encode_m ([p] : List Par)).1 = record_m p := by rw [he]
    have e2 : (encode_m ([p] : List Par)).2 = 0 := by rw [he]
    rw [if_neg (fun q => q e2), e1, hr']
    show lsizes_m_k0 p (val 0 D) (0 + D.length) = true
    unfold lsizes_m_k0
    rw [e1, if_pos pawake_true, if_pos hv]
    exact decide_eq_true hdr
  · have he : encode_m [p] = ([], 1) := by
      have E : encode_m_l0 [p] 2 ([], 0) = encode_m_b0 [p] (encode_m_l0 [p] 1) [] 0 := rfl
      have hb : encode_m_b0 [p] (encode_m_l0 [p] 1) [] 0 = .inr ([], 1) := by
        unfold encode_m_b0
        have hkf : key_m p.key = false := by simpa using hk
        show (if 0 < 1 then (if (!(key_m p.key)) = true then _ else _) else _) = _
        rw [if_pos (by decide), hkf]
        rfl
      show fin (encode_m_l0 [p] 2 ([], 0)) (fun r => r) (fun zz => encode_m_k0 [p] zz.1 zz.2) = _
      rw [E, hb]
      rfl
    have hkf : key_m p.key = false := by simpa using hk
    rw [he]
    dsimp only
    rw [if_pos (by decide), if_pos pawake_true, if_pos rfl, hkf]
    rfl
end Go.Proofs.YtglnifckngcpkaaDoor.Px
