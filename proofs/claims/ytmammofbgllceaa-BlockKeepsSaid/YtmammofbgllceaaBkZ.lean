/- Layer 15: what outlives a crash: the mathematics. -/
import Derived.Test.YtmammofbgllceaaBkR
namespace Go.Proofs.Ytmammofbgllceaa.Bk
open Go.Proofs.Ytmammofbgllceaa.Mem
/-! ### What outlives a crash -/
def KInv (l : List Wr) (S s : List (List UInt8)) (lo : List Wr) (f : Int) (dn : Bool) : Prop := s = S ∧ RightP ⟨s, lo, f, dn⟩ ∧ f = -1 ∧ dn = false ∧ ∀ x ∈ lo, ∃ k, k < l.length ∧ k < 60 ∧ (l.getD k dWr).at_ = x.at_ ∧ (l.getD k dWr).data = x.data
theorem keeps_loop (d : Dk) (l : List Wr) (fates : List UInt8) (S : List (List UInt8)) : ∀ n i s lo f dn, l.length - i < n → KInv l S s lo f dn → ∃ i' s' lo' f' dn', keeps_m_l0 d l fates n (i, s, lo, f, dn) = .inl (i', s', lo', f', dn') ∧ KInv l S s' lo' f' dn'
  | 0, i, s, lo, f, dn, h, _ => by omega
  | n + 1, i, s, lo, f, dn, h, hI => by
    have E : keeps_m_l0 d l fates (n + 1) (i, s, lo, f, dn) = keeps_m_b0 d l fates (keeps_m_l0 d l fates n) i s lo f dn := rfl
    rw [E]
    unfold keeps_m_b0
    by_cases hi : i < l.length
    · rw [if_pos hi]
      by_cases hi2 : i < 60
      · rw [if_pos hi2]
        obtain ⟨hS, hR, hf, hd, hm⟩ := hI
        subst hf hd
        have hn : l.length - (i + 1) < n := by omega
        rcases put_cases ⟨s, lo, -1, false⟩ hR (l.getD i dWr).at_ (l.getD i dWr).data with ⟨h1, hp⟩ | ⟨h1, hp⟩ | ⟨h1, h2, hp⟩ | ⟨h1, h2, h3, h4, h5, hp⟩
        · cases h1
        · rw [hp]
          dsimp only
          rw [if_neg (by decide)]
          exact keeps_loop d l fates S n (i + 1) s lo (-1) false hn ⟨hS, hR, rfl, rfl, hm⟩
        · exact absurd (show (-1 : Int) = 0 from h2) (by decide)
        · rw [hp, if_pos rfl]
          refine keeps_loop d l fates S n (i + 1) s (lo ++ [⟨(l.getD i dWr).at_, (l.getD i dWr).data⟩]) (-1) false hn ⟨hS, right_more hR h3 h4 h5 _ _, rfl, rfl, fun x hx => ?_⟩
          rcases List.mem_append.1 hx with hx | hx
          · exact hm x hx
          · rw [List.mem_singleton.1 hx]
            exact ⟨i, hi, hi2, rfl, rfl⟩
      · rw [if_neg hi2]
        exact ⟨i, s, lo, f, dn, rfl, hI⟩
    · rw [if_neg hi]
      exact ⟨i, s, lo, f, dn, rfl, hI⟩
theorem keeps_loop2 (d : Dk) (l : List Wr) (fates : List UInt8) (y71 : Nat) (y72 : List (List UInt8)) (y75 : List Wr) (y78 : Int) (y79 : Bool) (x : Nat) : ∀ n b i, l.length - i < n → (b = true ∨ ∃ k, i ≤ k ∧ k < l.length ∧ k < 60 ∧ (l.getD k dWr).at_ = (x : Int) ∧ (l.getD k dWr).data = ((crash_m (Dk.mk y72 y75 y78 y79) fates (-1)).1.safe).getD x []) → ∃ j, keeps_m_l2 d l fates y71 y72 y75 y78 y79 x n (b, i) = .inl (true, j)
  | 0, b, i, h, _ => by omega
  | n + 1, b, i, h, hb => by
    have E : keeps_m_l2 d l fates y71 y72 y75 y78 y79 x (n + 1) (b, i) = keeps_m_b2 d l fates y71 y72 y75 y78 y79 x (keeps_m_l2 d l fates y71 y72 y75 y78 y79 x n) b i := rfl
    rw [E]
    unfold keeps_m_b2
    by_cases hi : i < l.length
    · rw [if_pos hi]
      by_cases hi2 : i < 60
      · rw [if_pos hi2]
        cases b with
        | true =>
          rw [if_pos rfl]
          exact keeps_loop2 d l fates y71 y72 y75 y78 y79 x n true (i + 1) (by omega) (.inl rfl)
        | false =>
          rw [if_neg (by decide)]
          rcases hb with hb | ⟨k, h1, h2, h3, h4, h5⟩
          · cases hb
          by_cases h6 : i = k
          · subst h6
            rw [if_pos h4, decide_eq_true h5]
            exact keeps_loop2 d l fates y71 y72 y75 y78 y79 x n true (i + 1) (by omega) (.inl rfl)
          · by_cases h7 : (l.getD i dWr).at_ = (x : Int)
            · rw [if_pos h7]
              exact keeps_loop2 d l fates y71 y72 y75 y78 y79 x n _ (i + 1) (by omega) (.inr ⟨k, by omega, h2, h3, h4, h5⟩)
            · rw [if_neg h7]
              exact keeps_loop2 d l fates y71 y72 y75 y78 y79 x n _ (i + 1) (by omega) (.inr ⟨k, by omega, h2, h3, h4, h5⟩)
      · rw [if_neg hi2]
        rcases hb with hb | ⟨k, h1, h2, h3, h4, h5⟩
        · exact ⟨i, by rw [hb]⟩
        · omega
    · rw [if_neg hi]
      rcases hb with hb | ⟨k, h1, h2, h3, h4, h5⟩
      · exact ⟨i, by rw [hb]⟩
      · omega
theorem wr_mem {l : List Wr} {k : Int} {s : List UInt8} (h : s ∈ wr l k) : ∃ x ∈ l, x.at_ = k ∧ x.data = s := by
  unfold wr at h
  obtain ⟨x, hx, rfl⟩ := List.mem_map.1 h
  obtain ⟨h1, h2⟩ := List.mem_filter.1 hx
  exact ⟨x, h1, of_decide_eq_true h2, rfl⟩
theorem keeps_true (d : Dk) (l : List Wr) (fates : List UInt8) : keeps_m d l fates = true := by
  unfold keeps_m
  by_cases h1 : right_m d = true
  · rw [if_neg (by rw [h1]; decide)]
    have hR := (right_iff d).1 h1
    cases hd : d.down with
    | true => rw [if_pos rfl]; exact awake_true
    | false =>
      rw [if_neg (by decide)]
      have hfl := flush_on ⟨d.safe, d.loose, -1, false⟩ hR rfl rfl
      have hR2 : RightP ⟨d.loose.foldl app d.safe, [], -1, false⟩ := right_flushed hR (-1) false
      simp only at hfl
      simp only [hfl]
      generalize hS : d.loose.foldl app d.safe = S at *
      obtain ⟨i', s', lo', f', dn', h3, rfl, h5, rfl, rfl, h6⟩ := keeps_loop d l fates S ((l.length - 0) + 1) 0 S [] (-1) false (by omega) ⟨rfl, hR2, rfl, rfl, fun x hx => by cases hx⟩
      rw [h3]
      dsimp only [fin]
      obtain ⟨z, hc, _, hz1, hz2, _⟩ := crash_is ⟨s', lo', -1, false⟩ fates (-1) h5
      unfold keeps_m_k0
      rw [hd, hfl, hc]
      dsimp only
      rw [if_neg (by decide), if_neg (by decide), if_neg (fun e => e hz1), if_neg (fun e => e rfl), if_neg (by decide)]
      have A2 : ∀ n i, i < z.length → ¬ False → keeps_m_l1 d l fates i' s' lo' (-1) false (n + 1) i = keeps_m_l1 d l fates i' s' lo' (-1) false n (i + 1) := by
        intro n i hi _
        have E : keeps_m_l1 d l fates i' s' lo' (-1) false (n + 1) i = keeps_m_b1 d l fates i' s' lo' (-1) false (keeps_m_l1 d l fates i' s' lo' (-1) false n) i := rfl
        rw [E]
        unfold keeps_m_b1
        rw [hd, hfl, hc, if_pos hi]
        obtain ⟨j, hj⟩ := keeps_loop2 d l fates i' s' lo' (-1) false i ((l.length - 0) + 1) (decide (z.getD i [] = s'.getD i [])) 0 (by omega) (by
          rw [hc]
          rcases hz2 i with h | h
          · exact .inl (decide_eq_true h)
          · obtain ⟨x, hx, h7, h8⟩ := wr_mem h
            obtain ⟨k, k1, k2, k3, k4⟩ := h6 x hx
            exact .inr ⟨k, Nat.zero_le _, k1, k2, k3.trans h7, k4.trans h8⟩)
        rw [hj]
        show keeps_m_k2 d l fates i' s' lo' (-1) false i _ true j = _
        unfold keeps_m_k2
        rw [if_neg (by decide)]
      have A3 : ∀ n i, z.length ≤ i → keeps_m_l1 d l fates i' s' lo' (-1) false (n + 1) i = .inl i := by
        intro n i hi
        have E : keeps_m_l1 d l fates i' s' lo' (-1) false (n + 1) i = keeps_m_b1 d l fates i' s' lo' (-1) false (keeps_m_l1 d l fates i' s' lo' (-1) false n) i := rfl
        rw [E]
        unfold keeps_m_b1
        rw [hc, if_neg (by show ¬ i < z.length; omega)]
      rw [show (z.length - 0) + 1 = (z.length - 0) + 1 from rfl, loop_none (P := fun _ => False) (r := false) (fun _ _ _ h => h.elim) A2 A3 _ 0 (Nat.zero_le _) (Nat.lt_succ_self _) (fun _ _ _ h => h)]
      dsimp only [fin]
      unfold keeps_m_k1
      exact awake_true
  · rw [if_pos (by rw [Bool.eq_false_iff.2 h1]; rfl)]
    exact awake_true
end Go.Proofs.Ytmammofbgllceaa.Bk
