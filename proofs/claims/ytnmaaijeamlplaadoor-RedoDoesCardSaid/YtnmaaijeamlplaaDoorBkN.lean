import Derived.Test.YtnmaaijeamlplaaDoorAl
import Derived.Test.YtnmaaijeamlplaaDoorBkE
set_option linter.unusedVariables false
set_option linter.unusedSimpArgs false
namespace Go.Proofs.YtnmaaijeamlplaaDoor.Bk
open Go.Proofs.YtnmaaijeamlplaaDoor.Mem
theorem bs_fst (d : Dk) : (burn_m d).1 = (spent_m d).1 := by
 rw [burn_eq, spent_eq]
 unfold burnD spentD
 by_cases h : d.fuse = 0
 ·rw [if_pos h, if_pos h]
 rw [if_neg h, if_neg h]
 by_cases h2 : 0 < d.fuse
 ·rw [if_pos h2, if_pos h2]
 rw [if_neg h2, if_neg h2]
theorem bs_snd (d : Dk) : (burn_m d).2 = if (spent_m d).2 = true then 0 else 11 := by
 rw [burn_eq, spent_eq]
 unfold burnD spentD
 by_cases h : d.fuse = 0
 ·rw [if_pos h, if_pos h]; rfl
 rw [if_neg h, if_neg h]
 by_cases h2 : 0 < d.fuse
 ·rw [if_pos h2, if_pos h2]; rfl
 rw [if_neg h2, if_neg h2]; rfl
theorem put_eq (d : Dk) (at_ : Int) (data : List UInt8) : put_m d at_ data = rput_m d at_ data := by
 unfold put_m rput_m
 rw [rready_eq, bs_fst, bs_snd, List.nil_append]
 have hf : ((!full_m data) = true) = (¬ data.length = 256) := propext (not_full data)
 simp only [hf]
 cases (spent_m d).2 <;> rfl
def app (s : List (List UInt8)) (x : Wr) : List (List UInt8) := s.set x.at_.toNat x.data
theorem flush_loop (d : Dk) : ∀ s, flush_m_l0 d (((burn_m d).1.loose.length - 0) + 1) (0, s) = .inl ((burn_m d).1.loose.length, (burn_m d).1.loose.foldl app s) := by
 intro s
 have := loop_fold (burn_m d).1.loose dWr app (fun i s => (i, s)) (flush_m_l0 d) (fun n i s hi => by
  show flush_m_b0 d _ i s = _
  unfold flush_m_b0
  rw [if_pos hi]
  rfl) (fun n i s hi => by
  show flush_m_b0 d _ i s = _
  unfold flush_m_b0
  rw [if_neg (by omega)]) (((burn_m d).1.loose.length - 0) + 1) 0 s (Nat.zero_le _) (by omega)
 rwa [List.drop_zero] at this
theorem rflush_loop (d : Dk) : ∀ s, rflush_m_l0 d (((spent_m d).1.loose.length - 0) + 1) (0, s) = .inl ((spent_m d).1.loose.length, (spent_m d).1.loose.foldl app s) := by
 intro s
 have := loop_fold (spent_m d).1.loose dWr app (fun i s => (i, s)) (rflush_m_l0 d) (fun n i s hi => by
  show rflush_m_b0 d _ i s = _
  unfold rflush_m_b0
  rw [if_pos hi]
  rfl) (fun n i s hi => by
  show rflush_m_b0 d _ i s = _
  unfold rflush_m_b0
  rw [if_neg (by omega)]) (((spent_m d).1.loose.length - 0) + 1) 0 s (Nat.zero_le _) (by omega)
 rwa [List.drop_zero] at this
theorem flush_is (d : Dk) : flush_m d = if ¬ ready_m d = 0 then (d, ready_m d) else if (spent_m d).2 = true then (⟨d.loose.foldl app d.safe, [], (spent_m d).1.fuse, (spent_m d).1.down⟩, 0) else ((spent_m d).1, 11) := by
 unfold flush_m
 rw [flush_loop, bs_snd]
 by_cases h : ¬ ready_m d = 0
 ·rw [if_pos h, if_pos h]
 rw [if_neg h, if_neg h]
 cases hs : (spent_m d).2 with
 | true =>
  rw [if_pos rfl, if_pos rfl, if_neg (by decide)]
  show flush_m_k0 d (burn_m d).1.loose.length _ = _
  unfold flush_m_k0
  rw [bs_fst, spent_loose, spent_safe]
 | false =>
  rw [if_pos (show ¬ (if false = true then (0 : Int) else 11) = 0 by decide), if_neg (show ¬ false = true by decide), bs_fst]
  rfl
theorem rflush_is (d : Dk) : rflush_m d = if ¬ ready_m d = 0 then (d, ready_m d) else if (spent_m d).2 = true then (⟨d.loose.foldl app d.safe, [], (spent_m d).1.fuse, (spent_m d).1.down⟩, 0) else ((spent_m d).1, 11) := by
 unfold rflush_m
 rw [rflush_loop, rready_eq]
 by_cases h : ¬ ready_m d = 0
 ·rw [if_pos h, if_pos h]
 rw [if_neg h, if_neg h]
 cases hs : (spent_m d).2 with
 | true =>
  rw [if_neg (by decide), if_pos rfl]
  show rflush_m_k0 d (spent_m d).1.loose.length _ = _
  unfold rflush_m_k0
  rw [spent_loose, spent_safe, List.nil_append]
 | false =>
  rw [if_pos (by decide), if_neg (by decide)]
theorem flush_eq (d : Dk) : flush_m d = rflush_m d := by rw [flush_is, rflush_is]
def pick (at_ : Int) (s : List UInt8) (x : Wr) : List UInt8 := if x.at_ = at_ then x.data else s
theorem rget_loop (d : Dk) (at_ : Int) (s : List UInt8) : rget_m_l0 d at_ ((d.loose.length - 0) + 1) (s, 0) = .inl (d.loose.foldl (pick at_) s, d.loose.length) := by
 have := loop_fold d.loose dWr (pick at_) (fun i s => (s, i)) (rget_m_l0 d at_) (fun n i s hi => by
  show rget_m_b0 d at_ _ s i = _
  unfold rget_m_b0 pick
  rw [if_pos hi]
  by_cases h : (d.loose.getD i dWr).at_ = at_
  ·rw [if_pos h, if_pos h]
  ·rw [if_neg h, if_neg h]) (fun n i s hi => by
  show rget_m_b0 d at_ _ s i = _
  unfold rget_m_b0
  rw [if_neg (by omega)]) ((d.loose.length - 0) + 1) 0 s (Nat.zero_le _) (by omega)
 rwa [List.drop_zero] at this
theorem get_loop (d : Dk) (at_ : Int) (s : List UInt8) : ∀ n i, i ≤ d.loose.length → i < n →
  get_m_l0 d at_ n ((i : Int) - 1) = .inr ((d.loose.take i).foldl (pick at_) s, 0) ∨ (get_m_l0 d at_ n ((i : Int) - 1) = .inl (-1) ∧ (d.loose.take i).foldl (pick at_) s = s)
 | 0, i, _, h => by omega
 | n + 1, 0, _, _ => by
  right
  refine ⟨?_, by rw [List.take_zero]; rfl⟩
  show get_m_b0 d at_ _ _ = _
  unfold get_m_b0
  rw [if_neg (by omega)]
  rfl
 | n + 1, i + 1, hi, h => by
  have e : (((i + 1 : Nat) : Int) - 1) = (i : Int) := by omega
  rw [e, take_snoc d.loose i hi dWr, List.foldl_append]
  have e2 : get_m_l0 d at_ (n + 1) (i : Int) = if (d.loose.getD i dWr).at_ = at_ then .inr ((d.loose.getD i dWr).data, 0) else get_m_l0 d at_ n ((i : Int) - 1) := by
   show get_m_b0 d at_ _ _ = _
   unfold get_m_b0
   rw [if_pos (by omega), Int.toNat_natCast]
  rw [e2]
  by_cases h1 : (d.loose.getD i dWr).at_ = at_
  ·left
   rw [if_pos h1]
   simp only [List.foldl_cons, List.foldl_nil, pick, if_pos h1]
  rw [if_neg h1]
  simp only [List.foldl_cons, List.foldl_nil]
  have e3 : ∀ y, pick at_ y (d.loose.getD i dWr) = y := fun y => if_neg h1
  rw [e3]
  exact get_loop d at_ s n i (by omega) (by omega)
theorem rget_is (d : Dk) (at_ : Int) : rget_m d at_ = if ¬ ready_m d = 0 then ([], ready_m d) else if at_ < 0 then ([], 1) else if (d.safe.length : Int) ≤ at_ then ([], 1) else (d.loose.foldl (pick at_) (d.safe.getD at_.toNat []), 0) := by
 unfold rget_m
 rw [rready_eq, rget_loop]
 rfl
theorem get_is (d : Dk) (at_ : Int) : get_m d at_ = if ¬ ready_m d = 0 then ([], ready_m d) else if at_ < 0 then ([], 1) else if (d.safe.length : Int) ≤ at_ then ([], 1) else (d.loose.foldl (pick at_) (d.safe.getD at_.toNat []), 0) := by
 unfold get_m
 have e : ((d.loose.length : Int) - 1 + 1).toNat + 1 = d.loose.length + 1 := by omega
 have h := get_loop d at_ (d.safe.getD at_.toNat []) (d.loose.length + 1) d.loose.length (Nat.le_refl _) (by omega)
 rw [List.take_length] at h
 rw [e]
 rcases h with h | ⟨h, h2⟩
 ·rw [h]; rfl
 rw [h, h2]; rfl
theorem get_eq (d : Dk) (at_ : Int) : get_m d at_ = rget_m d at_ := by rw [get_is, rget_is]
theorem same_self (d : Dk) : same_m d d = true := by
 have A2 : ∀ n i, i < d.safe.length → ¬ False → same_m_l0 d d (n + 1) i = same_m_l0 d d n (i + 1) := by
  intro n i hi _
  show same_m_b0 d d _ i = _
  unfold same_m_b0
  rw [if_pos hi, if_neg (fun h => h rfl)]
 have A3 : ∀ n i, d.safe.length ≤ i → same_m_l0 d d (n + 1) i = .inl i := by
  intro n i hi
  show same_m_b0 d d _ i = _
  unfold same_m_b0
  rw [if_neg (by omega)]
 have B2 : ∀ y n i, i < d.loose.length → ¬ False → same_m_l1 d d y (n + 1) i = same_m_l1 d d y n (i + 1) := by
  intro y n i hi _
  show same_m_b1 d d y _ i = _
  unfold same_m_b1
  rw [if_pos hi, if_neg (fun h => h rfl)]
 have B3 : ∀ y n i, d.loose.length ≤ i → same_m_l1 d d y (n + 1) i = .inl i := by
  intro y n i hi
  show same_m_b1 d d y _ i = _
  unfold same_m_b1
  rw [if_neg (by omega)]
 unfold same_m
 rw [if_neg (fun h => h rfl), if_neg (fun h => h rfl), if_neg (fun h => h rfl), if_neg (by cases d.down <;> decide)]
 rw [loop_none (P := fun _ => False) (r := false) (fun _ _ _ h => h.elim) A2 A3 _ 0 (Nat.zero_le _) (Nat.lt_succ_self _) (fun _ _ _ h => h)]
 show same_m_k0 d d _ = true
 unfold same_m_k0
 rw [loop_none (P := fun _ => False) (r := false) (fun _ _ _ h => h.elim) (B2 _) (B3 _) _ 0 (Nat.zero_le _) (Nat.lt_succ_self _) (fun _ _ _ h => h)]
 rfl
theorem rnew_loop (n : Int) (l : List Wr) (f : Int) (dn : Bool) : ∀ k i, i ≤ n.toNat → n.toNat - i < k → rnew_m_l0 n k (i, List.replicate i blank_m, l, f, dn) = .inl (n.toNat, List.replicate n.toNat blank_m, l, f, dn)
 | 0, i, _, h => by omega
 | k + 1, i, hi, h => by
  show rnew_m_b0 n _ i _ _ _ _ = _
  unfold rnew_m_b0
  by_cases hl : i < n.toNat
  ·rw [if_pos (by omega), ← List.replicate_succ']
   exact rnew_loop n l f dn k (i + 1) hl (by omega)
  obtain rfl : i = n.toNat := by omega
  rw [if_neg (by omega)]
theorem rnew_is (n : Int) : rnew_m n = if n < 32 then (⟨[], [], 0, false⟩, 1) else if 2048 < n then (⟨[], [], 0, false⟩, 1) else (⟨List.replicate n.toNat blank_m, [], -1, false⟩, 0) := by
 unfold rnew_m
 have := rnew_loop n [] (-1) false (n.toNat + 1) 0 (Nat.zero_le _) (by omega)
 rw [List.replicate_zero] at this
 rw [show (n - ((0 : Nat) : Int)).toNat = n.toNat by congr 1; omega, this]
 rfl
end Go.Proofs.YtnmaaijeamlplaaDoor.Bk
