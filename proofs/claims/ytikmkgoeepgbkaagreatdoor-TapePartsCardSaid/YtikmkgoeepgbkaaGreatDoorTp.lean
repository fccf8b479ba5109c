/- Numbers in digits, records. -/
import Derived.Test.YtikmkgoeepgbkaaGreatDoorTh
import Derived.Lib.AtoiAll
import Derived.Lib.ItoaNum
set_option linter.all false
namespace Go.Proofs.YtikmkgoeepgbkaaGreatDoor.Ev
open Go.RowKit
open Go.Proofs.YtikmkgoeepgbkaaGreatDoor.Mem
set_option linter.unusedVariables false
set_option linter.unusedSimpArgs false
set_option maxRecDepth 100000
/-! ### Numbers in digits -/
theorem dd_small {n : Nat} (h : n < 10) : Lib.decDigits n = [UInt8.ofNat (48 + n)] := by rw [Lib.decDigits, dif_pos h]
theorem dd_big {n : Nat} (h : ¬ n < 10) : Lib.decDigits n = Lib.decDigits (n / 10) ++ [UInt8.ofNat (48 + n % 10)] := by rw [Lib.decDigits, dif_neg h]
def dg (c : UInt8) : Bool := decide (48 ≤ c.toNat ∧ c.toNat ≤ 57)
theorem dd_dg : ∀ n, ∀ c ∈ Lib.decDigits n, dg c = true := by
  intro n
  induction n using Nat.strongRecOn with
  | _ n ih =>
    have e : ∀ k, k < 10 → dg (UInt8.ofNat (48 + k)) = true := by
      intro k hk
      unfold dg
      rw [UInt8.toNat_ofNat', Nat.mod_eq_of_lt (by omega)]
      exact decide_eq_true (by omega)
    intro c hc
    by_cases h : n < 10
    · rw [dd_small h, List.mem_singleton] at hc
      subst hc
      exact e n h
    · rw [dd_big h] at hc
      rcases List.mem_append.1 hc with hc | hc
      · exact ih (n / 10) (by omega) c hc
      · rw [List.mem_singleton] at hc
        subst hc
        exact e _ (by omega)
theorem dd_ne (n : Nat) : Lib.decDigits n ≠ [] := by
  by_cases h : n < 10
  · rw [dd_small h]; simp
  · rw [dd_big h]; simp
def val (a : Nat) (s : List UInt8) : Nat := s.foldl (fun x c => 10 * x + (c.toNat - 48)) a
theorem val_dd : ∀ n, val 0 (Lib.decDigits n) = n := by
  intro n
  induction n using Nat.strongRecOn with
  | _ n ih =>
    have e : ∀ k, k < 10 → (UInt8.ofNat (48 + k)).toNat = 48 + k := fun k hk => by rw [UInt8.toNat_ofNat', Nat.mod_eq_of_lt (by omega)]
    by_cases h : n < 10
    · rw [dd_small h]
      show 10 * 0 + ((UInt8.ofNat (48 + n)).toNat - 48) = n
      rw [e n h]
      omega
    · rw [dd_big h]
      unfold val
      rw [List.foldl_append]
      have := ih (n / 10) (by omega)
      unfold val at this
      rw [this]
      show 10 * (n / 10) + ((UInt8.ofNat (48 + n % 10)).toNat - 48) = n
      rw [e _ (by omega)]
      omega
theorem val_le : ∀ (s : List UInt8) (a : Nat), a ≤ val a s
  | [], a => Nat.le_refl _
  | c :: s, a => Nat.le_trans (by omega) (val_le s (10 * a + (c.toNat - 48)))
theorem parse_val : ∀ (s : List UInt8) (a : Nat), (∀ c ∈ s, dg c = true) → val a s < 1000000000000000000 → Lib.parseUint10 a s = .ok (val a s)
  | [], a, _, _ => rfl
  | c :: s, a, h, hv => by
    have hc : 48 ≤ c.toNat ∧ c.toNat ≤ 57 := of_decide_eq_true (h c (by simp))
    have hv' : val (10 * a + (c.toNat - 48)) s < 1000000000000000000 := hv
    have hl := val_le s (10 * a + (c.toNat - 48))
    have e : a * 10 + (c.toNat - 48) = 10 * a + (c.toNat - 48) := by omega
    unfold Lib.parseUint10
    rw [if_pos hc, if_neg (by omega), if_neg (by omega), e, parse_val s _ (fun d hd => h d (by simp [hd])) hv']
    rfl
theorem atoi_dd (n : Nat) (h : n < 1000000000000000000) : Lib.atoiAll (Lib.decDigits n) = .ok (n : Int) := by
  obtain ⟨c, r, e⟩ := List.exists_cons_of_ne_nil (dd_ne n)
  have hc : 48 ≤ c.toNat ∧ c.toNat ≤ 57 := of_decide_eq_true (dd_dg n c (by rw [e]; simp))
  have hp := parse_val (Lib.decDigits n) 0 (dd_dg n) (by rw [val_dd]; exact h)
  rw [val_dd] at hp
  have hm : Lib.parseMag (Lib.decDigits n) = .ok n := by
    unfold Lib.parseMag
    rw [if_neg (dd_ne n), hp]
  rw [e] at hm ⊢
  unfold Lib.atoiAll
  dsimp only
  rw [if_neg (by omega), hm]
  dsimp only
  have h1 : ¬ (¬ c.toNat = 45 ∧ 9223372036854775808 ≤ n) := by omega
  have h2 : ¬ (c.toNat = 45 ∧ 9223372036854775808 < n) := by omega
  rw [if_neg h1, if_neg h2, if_neg (by omega)]
def atoB (s : List UInt8) : Bool := match Lib.atoiAll s with
  | .ok _ => true
  | _ => false
def atoV (s : List UInt8) : Int := match Lib.atoiAll s with
  | .ok v => v
  | .range => if s.head? = some 45 then -9223372036854775808 else 9223372036854775807
  | _ => 0
theorem ato_of (n : Nat) (h : n < 1000000000000000000) : atoB (Lib.decDigits n) = true ∧ atoV (Lib.decDigits n) = (n : Int) := by
  unfold atoB atoV
  rw [atoi_dd n h]
  exact ⟨rfl, rfl⟩
theorem dd_no (n : Nat) : 32 ∉ Lib.decDigits n ∧ 10 ∉ Lib.decDigits n := by
  refine ⟨fun h => ?_, fun h => ?_⟩ <;> exact absurd (dd_dg n _ h) (by decide)
/-! ### Records -/
theorem ib_none {c : UInt8} : ∀ {s : List UInt8}, Lib.indexByte s c < 0 ↔ c ∉ s
  | [] => by simp [Lib.indexByte]
  | b :: s => by
    have ih := ib_none (c := c) (s := s)
    have hge := Lib.indexByte_ge s c
    rw [ib_cons, List.mem_cons, not_or]
    by_cases e : b = c
    · subst e; simp
    · rw [if_neg e, ← ih]
      by_cases e2 : Lib.indexByte s c = -1
      · rw [if_pos e2]; exact ⟨fun _ => ⟨fun h => e h.symm, by omega⟩, fun _ => by omega⟩
      · rw [if_neg e2]; exact ⟨fun h => ⟨fun h => e h.symm, by omega⟩, fun h => by omega⟩
def pkeyB (s : List UInt8) : Bool := decide (s ≠ []) && decide (Lib.indexByte s 61 < 0) && decide (Lib.indexByte s 0 < 0) && decide (Lib.indexByte s 10 < 0) && decide (Lib.indexByte s 32 < 0)
def dgl (n : Nat) : Nat := (Lib.decDigits n).length
theorem dgl_pos (n : Nat) : 0 < dgl n := List.length_pos_iff.2 (dd_ne n)
theorem dgl_le : ∀ d n, n < 10 ^ (d + 1) → dgl n ≤ d + 1
  | 0, n, h => by unfold dgl; rw [dd_small (by simpa using h)]; simp
  | d + 1, n, h => by
    by_cases e : n < 10
    · unfold dgl; rw [dd_small e]; simp
    · have := dgl_le d (n / 10) (by rw [Nat.div_lt_iff_lt_mul (by omega), ← Nat.pow_succ]; exact h)
      unfold dgl at *
      rw [dd_big e]
      simp
      omega
theorem dgl_mono : ∀ a b, a ≤ b → dgl a ≤ dgl b := by
  intro a
  induction a using Nat.strongRecOn with
  | _ a ih =>
    intro b h
    by_cases e : a < 10
    · have := dgl_pos b
      unfold dgl at *
      rw [dd_small e]
      simpa [Nat.succ_le_iff] using this
    · have := ih (a / 10) (by omega) (b / 10) (Nat.div_le_div_right h)
      unfold dgl at *
      rw [dd_big e, dd_big (n := b) (by omega)]
      simpa using this
/-- The least number from n on that counts r bytes and its own digits. -/
def lenF (r : Nat) : Nat → Nat → Nat
  | 0, n => n
  | k + 1, n => if n = r + dgl n then n else lenF r k (n + 1)
def lenM (r : Nat) : Nat := lenF r 40 (r + 1)
theorem lenF_spec (r : Nat) (hr : r < 1000000000000000000) : ∀ k n, n ≤ r + dgl n → r + 25 ≤ n + k → k ≤ 40 → n ≤ r + 60 → lenF r k n = r + dgl (lenF r k n) ∧ n ≤ lenF r k n ∧ lenF r k n ≤ r + 19
  | 0, n, h1, h2, _, h4 => by
    have := dgl_le 18 n (by have : (10 : Nat) ^ (18 + 1) = 10000000000000000000 := by decide
                            omega)
    omega
  | k + 1, n, h1, h2, h3, h4 => by
    have hd := dgl_le 18 n (by have : (10 : Nat) ^ (18 + 1) = 10000000000000000000 := by decide
                               omega)
    unfold lenF
    split
    · rename_i e; exact ⟨e, Nat.le_refl _, by omega⟩
    · have := dgl_mono n (n + 1) (by omega)
      obtain ⟨q1, q2, q3⟩ := lenF_spec r hr k (n + 1) (by omega) (by omega) (by omega) (by omega)
      exact ⟨q1, by omega, q3⟩
theorem lenM_spec {r : Nat} (hr : r < 1000000000000000000) : lenM r = r + dgl (lenM r) ∧ r < lenM r ∧ lenM r ≤ r + 19 := by
  have := dgl_pos (r + 1)
  obtain ⟨q1, q2, q3⟩ := lenF_spec r hr 40 (r + 1) (by omega) (by omega) (by omega) (by omega)
  exact ⟨q1, q2, q3⟩
def rstM (p : Pr) : List UInt8 := 32 :: (p.key ++ 61 :: (p.val ++ [10]))
def recM (p : Pr) : List UInt8 := Lib.decDigits (lenM (rstM p).length) ++ rstM p
theorem rstM_len (p : Pr) : (rstM p).length = p.key.length + p.val.length + 3 := by simp [rstM]; omega
theorem recM_len {p : Pr} (h : (rstM p).length < 1000000000000000000) : (recM p).length = lenM (rstM p).length := by
  have := (lenM_spec h).1
  unfold recM dgl at *
  simp
  omega
def encPF : List Pr → List UInt8 → List UInt8 × Int
  | [], b => if b.length > 1048576 then ([], 3) else (b, 0)
  | p :: r, b => if ¬ pkeyB p.key = true then ([], 1) else if p.key.length > 1048576 ∨ p.val.length > 1048576 ∨ b.length > 1048576 then ([], 3) else encPF r (b ++ recM p)
def dgN (s : List UInt8) : Nat := (s.takeWhile dg).length
def firstM (s : List UInt8) : Pr × Nat :=
  if ¬ atoB (s.take (dgN s)) = true ∨ atoV (s.take (dgN s)) ≤ (dgN s : Int) ∨ atoV (s.take (dgN s)) > (s.length : Int) ∨ ¬ s.getD (dgN s) 0 = 32 ∨ ¬ s.getD ((atoV (s.take (dgN s))).toNat - 1) 0 = 10 then (dPr, 0) else
  if ¬ (Lib.cut ((s.take ((atoV (s.take (dgN s))).toNat - 1)).drop (dgN s + 1)) [61]).2.2 = true ∨ ¬ pkeyB (Lib.cut ((s.take ((atoV (s.take (dgN s))).toNat - 1)).drop (dgN s + 1)) [61]).1 = true ∨ ¬ Lib.decDigits (lenM ((atoV (s.take (dgN s))).toNat - dgN s)) = s.take (dgN s) then (dPr, 0) else
  (⟨(Lib.cut ((s.take ((atoV (s.take (dgN s))).toNat - 1)).drop (dgN s + 1)) [61]).1, (Lib.cut ((s.take ((atoV (s.take (dgN s))).toNat - 1)).drop (dgN s + 1)) [61]).2.1⟩, (atoV (s.take (dgN s))).toNat)
theorem firstM_le (s : List UInt8) : (firstM s).2 ≤ s.length := by
  unfold firstM
  split
  · exact Nat.zero_le _
  · rename_i h
    simp only [not_or] at h
    split
    · exact Nat.zero_le _
    · dsimp only; omega
def decPF : Nat → List UInt8 → List Pr → List Pr × Int
  | 0, s, a => if s = [] then (a, 0) else ([], 2)
  | k + 1, s, a => if s = [] then (a, 0) else if (firstM s).2 = 0 then ([], 2) else decPF k (s.drop (firstM s).2) (a ++ [(firstM s).1])
def decPM (s : List UInt8) : List Pr × Int := if s.length > 1048576 then ([], 3) else decPF s.length s []
theorem cut_at {k v : List UInt8} (h : Lib.indexByte k 61 < 0) : Lib.cut (k ++ 61 :: v) [61] = (k, v, true) := by
  unfold Lib.cut
  rw [Lib.index_one, ib_app _ h, if_pos (by omega)]
  simp
theorem first_rec {p : Pr} {r : List UInt8} (hk : pkeyB p.key = true) (hl : (rstM p).length < 100000000000000000) : firstM (recM p ++ r) = (p, (recM p).length) := by
  obtain ⟨q1, q2, q3⟩ := lenM_spec (r := (rstM p).length) (by omega)
  have hrl := recM_len (p := p) (by omega)
  have hd : ∀ b, (rstM p ++ r).head? = some b → dg b = false := by
    intro b h
    simp [rstM] at h
    subst h
    decide
  have he : recM p ++ r = Lib.decDigits (lenM (rstM p).length) ++ (rstM p ++ r) := by simp [recM]
  obtain ⟨w1, w2⟩ := tw_app (f := dg) (dd_dg (lenM (rstM p).length)) hd
  have hn : dgN (recM p ++ r) = dgl (lenM (rstM p).length) := by unfold dgN; rw [he, w1]; rfl
  have ht : (recM p ++ r).take (dgl (lenM (rstM p).length)) = Lib.decDigits (lenM (rstM p).length) := by rw [he]; exact List.take_left
  obtain ⟨v1, v2⟩ := ato_of (lenM (rstM p).length) (by omega)
  have hlen : (recM p ++ r).length = lenM (rstM p).length + r.length := by rw [List.length_append, hrl]
  have hr3 := rstM_len p
  have g1 : (recM p ++ r).getD (dgl (lenM (rstM p).length)) 0 = 32 := by
    rw [he]
    exact getD_mid (x := 32) rfl
  have g2 : (recM p ++ r).getD (lenM (rstM p).length - 1) 0 = 10 := by
    rw [show recM p ++ r = (Lib.decDigits (lenM (rstM p).length) ++ (32 :: (p.key ++ 61 :: p.val))) ++ (10 :: r) by simp [recM, rstM]]
    exact getD_mid (by simp; unfold dgl at q1; omega)
  have g3 : ((recM p ++ r).take (lenM (rstM p).length - 1)).drop (dgl (lenM (rstM p).length) + 1) = p.key ++ 61 :: p.val :=
    seg (a := Lib.decDigits (lenM (rstM p).length) ++ [32]) (t := 10 :: r) (by simp [recM, rstM]) (by simp [dgl]) (by simp; omega)
  have hk1 : Lib.indexByte p.key 61 < 0 := by unfold pkeyB at hk; simp at hk; exact hk.1.1.1.2
  unfold firstM
  rw [hn, ht, v1, v2, g1]
  simp only [Int.toNat_natCast]
  rw [g2, g3, cut_at hk1, hrl, hlen, show lenM (rstM p).length - dgl (lenM (rstM p).length) = (rstM p).length by omega]
  rw [if_neg (by simp; omega), if_neg (by simp [hk])]
theorem encPF_fit : ∀ {l : List Pr} {b : List UInt8}, (encPF l b).2 = 0 → (∀ p ∈ l, pkeyB p.key = true ∧ (rstM p).length < 100000000000000000) ∧ (encPF l b).1 = b ++ (l.map recM).flatten ∧ (encPF l b).1.length ≤ 1048576
  | [], b, h => by
    unfold encPF at h ⊢
    split
    · rename_i e; rw [if_pos e] at h; simp at h
    · exact ⟨fun p hp => by simp at hp, by simp, by dsimp only; omega⟩
  | p :: r, b, h => by
    unfold encPF at h ⊢
    split
    · rename_i e; rw [if_pos e] at h; simp at h
    · rename_i e
      rw [if_neg e] at h
      split
      · rename_i e2; rw [if_pos e2] at h; simp at h
      · rename_i e2
        rw [if_neg e2] at h
        obtain ⟨h1, h2, h3⟩ := encPF_fit h
        refine ⟨fun q hq => ?_, by rw [h2]; simp, h3⟩
        rcases List.mem_cons.1 hq with rfl | hq
        · have := rstM_len q
          exact ⟨Decidable.not_not.1 e, by omega⟩
        · exact h1 q hq
theorem decPF_rec : ∀ (l : List Pr) (k : Nat) (a : List Pr), (∀ p ∈ l, pkeyB p.key = true ∧ (rstM p).length < 100000000000000000) → (l.map recM).flatten.length ≤ k → decPF k (l.map recM).flatten a = (a ++ l, 0)
  | [], k, a, _, _ => by cases k <;> simp [decPF]
  | p :: r, k, a, h, hk => by
    obtain ⟨h1, h2⟩ := h p (by simp)
    have hp : 0 < (recM p).length := by rw [recM_len (by omega)]; have := (lenM_spec (r := (rstM p).length) (by omega)).2.1; omega
    have hf := first_rec (r := (r.map recM).flatten) h1 h2
    simp only [List.map_cons, List.flatten_cons, List.length_append] at hk ⊢
    obtain ⟨j, rfl⟩ : ∃ j, k = j + 1 := ⟨k - 1, by omega⟩
    have hne : ¬ recM p ++ (r.map recM).flatten = [] := by
      intro e
      have := congrArg List.length e
      rw [List.length_append, List.length_nil] at this
      omega
    rw [decPF, if_neg hne, hf, if_neg (by dsimp only; omega)]
    dsimp only
    rw [List.drop_left, decPF_rec r j _ (fun q hq => h q (by simp [hq])) (by omega)]
    simp
theorem decP_enc {l : List Pr} (h : (encPF l []).2 = 0) : decPM (encPF l []).1 = (l, 0) := by
  obtain ⟨h1, h2, h3⟩ := encPF_fit h
  unfold decPM
  rw [if_neg (by omega), h2, List.nil_append, decPF_rec l _ _ h1 (Nat.le_refl _)]
  rfl
/-- The last value of a key. -/
def lastM : List Pr → List UInt8 → List UInt8 × Bool
  | [], _ => ([], false)
  | p :: r, k => if (lastM r k).2 = true then lastM r k else if p.key = k then (p.val, true) else ([], false)
theorem lastM_app (k : List UInt8) : ∀ a b, lastM (a ++ b) k = if (lastM b k).2 = true then lastM b k else lastM a k
  | [], b => by
    rw [List.nil_append]
    split
    · rfl
    · rename_i h
      cases b with
      | nil => rfl
      | cons p r =>
        unfold lastM at h ⊢
        split at h
        · rename_i e; exact absurd e h
        · rename_i e
          rw [if_neg e]
          split at h
          · simp at h
          · rename_i e2; rw [if_neg e2]
  | p :: a, b => by
    rw [List.cons_append, lastM, lastM_app k a b]
    by_cases e : (lastM b k).2 = true
    · rw [if_pos e, if_pos e, if_pos e]
    · rw [if_neg e, if_neg e]
      rfl
end Go.Proofs.YtikmkgoeepgbkaaGreatDoor.Ev
