/- Databases: how the reference reads one. -/
import Derived.Test.YtagjeabdcjcchaaGreatDoorPA
import Derived.Test.YtagjeabdcjcchaaGreatDoorVB
import Derived.Test.YtagjeabdcjcchaaGreatDoorPD
import Derived.Lib.ItoaMem
set_option linter.all false
namespace Go.Proofs.YtagjeabdcjcchaaGreatDoor.Ev
open Go.RowKit
open Go.Proofs.YtagjeabdcjcchaaGreatDoor.Mem
set_option linter.unusedVariables false
set_option linter.unusedSimpArgs false
set_option maxRecDepth 100000
/-- A number in at most seven digits, without a nought ahead. -/
def nmM (s : List UInt8) : Nat × Bool := if s.all dg = true ∧ s.length ≤ 7 then (val 0 s, decide (s ≠ []) && (decide (s.getD 0 0 ≠ 48) || decide (s = [48]))) else (0, false)
theorem val_snoc (s : List UInt8) (c : UInt8) : val 0 (s ++ [c]) = 10 * val 0 s + (c.toNat - 48) := by
  unfold val
  rw [List.foldl_append]
  rfl
theorem val_pos : ∀ (s : List UInt8), s.all dg = true → s ≠ [] → s.getD 0 0 ≠ 48 → 1 ≤ val 0 s
  | [], _, h, _ => absurd rfl h
  | c :: s, h, _, h0 => by
    have hc : 48 ≤ c.toNat ∧ c.toNat ≤ 57 := of_decide_eq_true (List.all_eq_true.1 h c (by simp))
    have h1 := val_le s (10 * 0 + (c.toNat - 48))
    have h2 : c.toNat ≠ 48 := fun e => h0 (UInt8.toNat_inj.1 e)
    show 1 ≤ val (10 * 0 + (c.toNat - 48)) s
    omega
theorem dd_val : ∀ (k : Nat) (s : List UInt8), s.length = k → s.all dg = true → s ≠ [] → (s.getD 0 0 ≠ 48 ∨ s = [48]) → Lib.decDigits (val 0 s) = s
  | 0, s, hl, _, h, _ => absurd (List.length_eq_zero_iff.1 hl) h
  | k + 1, s, hl, hd, hne, h0 => by
    obtain ⟨u, c, rfl⟩ : ∃ u c, s = u ++ [c] := ⟨s.dropLast, s.getLast hne, (List.dropLast_concat_getLast hne).symm⟩
    rw [List.all_append, Bool.and_eq_true] at hd
    have hc : 48 ≤ c.toNat ∧ c.toNat ≤ 57 := of_decide_eq_true (List.all_eq_true.1 hd.2 c (by simp))
    have hb : UInt8.ofNat (48 + (c.toNat - 48)) = c := by rw [show 48 + (c.toNat - 48) = c.toNat by omega]; exact UInt8.ofNat_toNat
    rw [val_snoc]
    cases hu : u with
    | nil =>
      have : val 0 ([] : List UInt8) = 0 := rfl
      rw [this, dd_small (by omega), Nat.mul_zero, Nat.zero_add, hb]
      rfl
    | cons x r =>
      rw [← hu]
      have hn : u ≠ [] := by rw [hu]; simp
      have hh : (u ++ [c]).getD 0 0 = u.getD 0 0 := by rw [hu]; rfl
      have hu0 : u.getD 0 0 ≠ 48 := by
        rcases h0 with h0 | h0
        · rwa [hh] at h0
        · rw [hu] at h0; simp at h0
      have h1 := val_pos u hd.1 hn hu0
      rw [dd_big (by omega), show (10 * val 0 u + (c.toNat - 48)) / 10 = val 0 u by omega, show (10 * val 0 u + (c.toNat - 48)) % 10 = c.toNat - 48 by omega, dd_val k u (by simpa using hl) hd.1 hn (.inl hu0), hb]
theorem num_back {s : List UInt8} (h : (nmM s).2 = true) : Lib.decDigits (nmM s).1 = s := by
  unfold nmM at h ⊢
  split at h
  · rename_i h1
    rw [if_pos h1]
    simp only [Bool.and_eq_true, Bool.or_eq_true, decide_eq_true_eq] at h
    exact dd_val s.length s rfl h1.1 h.1 h.2
  · cases h
theorem dd_head : ∀ n, 0 < n → (Lib.decDigits n).getD 0 0 ≠ 48 := by
  intro n
  induction n using Nat.strongRecOn with
  | _ n ih =>
    intro h0
    by_cases h : n < 10
    · rw [dd_small h]
      show UInt8.ofNat (48 + n) ≠ 48
      have : ∀ n, 0 < n → n < 10 → UInt8.ofNat (48 + n) ≠ 48 := by
        intro n h1 h2 e
        have := congrArg UInt8.toNat e
        rw [UInt8.toNat_ofNat', Nat.mod_eq_of_lt (by omega)] at this
        have h48 : (48 : UInt8).toNat = 48 := rfl
        omega
      exact this n h0 h
    · rw [dd_big h]
      have := ih (n / 10) (by omega) (by omega)
      obtain ⟨x, r, e⟩ := List.exists_cons_of_ne_nil (dd_ne (n / 10))
      rw [e] at this ⊢
      exact this
theorem dd_len : ∀ k n, n < 10 ^ (k + 1) → (Lib.decDigits n).length ≤ k + 1
  | 0, n, h => by rw [dd_small (by simpa using h)]; simp
  | k + 1, n, h => by
    by_cases h1 : n < 10
    · rw [dd_small h1]; simp
    · have := dd_len k (n / 10) (by rw [Nat.pow_succ] at h; omega)
      rw [dd_big h1, List.length_append, List.length_singleton]
      omega
theorem num_dd (n : Nat) (h : n < 10000000) : nmM (Lib.decDigits n) = (n, true) := by
  unfold nmM
  rw [if_pos ⟨List.all_eq_true.2 (dd_dg n), dd_len 6 n h⟩, val_dd]
  congr 1
  rw [decide_eq_true (dd_ne n), Bool.true_and]
  by_cases h0 : 0 < n
  · rw [decide_eq_true (dd_head n h0)]; rfl
  · obtain rfl : n = 0 := by omega
    rw [dd_small (by omega)]
    decide
/-- A text's first line. -/
def lineM (s : List UInt8) : List UInt8 × List UInt8 × Bool := if (Lib.cut s [10]).2.2 = true then Lib.cut s [10] else ([], [], false)
theorem cut_eq {s : List UInt8} {c : UInt8} (h : (Lib.cut s [c]).2.2 = true) : s = (Lib.cut s [c]).1 ++ c :: (Lib.cut s [c]).2.1 := by
  unfold Lib.cut at h ⊢
  rw [Lib.index_one] at h ⊢
  by_cases h1 : 0 ≤ Lib.indexByte s c
  · rw [if_pos h1] at h ⊢
    dsimp only
    have : ∀ s : List UInt8, 0 ≤ Lib.indexByte s c → s = s.take (Lib.indexByte s c).toNat ++ c :: s.drop ((Lib.indexByte s c).toNat + 1) := by
      intro s
      induction s with
      | nil => intro h; exact absurd h (by show ¬ (0 : Int) ≤ -1; omega)
      | cons x r ih =>
        intro h
        by_cases e : x = c
        · have h0 : Lib.indexByte (x :: r) c = 0 := by unfold Lib.indexByte; rw [e]; simp
          rw [h0, e]; simp
        · rw [ibn c x r e] at h ⊢
          by_cases hm : Lib.indexByte r c = -1
          · rw [if_pos hm] at h; omega
          · rw [if_neg hm] at h ⊢
            have hg := ib_ge c r
            have := ih (by omega)
            rw [show (Lib.indexByte r c + 1).toNat = (Lib.indexByte r c).toNat + 1 by omega, List.take_succ_cons, List.drop_succ_cons, List.cons_append, ← this]
    exact this s h1
  · rw [if_neg h1] at h
    cases h
def packM (head s : List UInt8) : Man × List UInt8 × Bool :=
  if (nmM (head.drop 5)).2 = false ∨ s.length < (nmM (head.drop 5)).1 then (dM, [], false)
  else ((parseM (s.take (nmM (head.drop 5)).1)).1, s.drop (nmM (head.drop 5)).1, decide ((parseM (s.take (nmM (head.drop 5)).1)).2 = 0))
def wDirS : List UInt8 := [100, 105, 114, 32]
def wPackS : List UInt8 := [112, 97, 99, 107, 32]
def wEndS : List UInt8 := [101, 110, 100]
def dirM (s : List UInt8) : Shr × Bool :=
  if s.length < 6 ∨ ¬ s.take 4 = wDirS ∨ (¬ by' s 4 = 48 ∧ ¬ by' s 4 = 49) ∨ ¬ by' s 5 = 32 ∨ (Lib.cut (s.drop 6) [32]).2.2 = false then (dS, false)
  else (⟨(Lib.cut (s.drop 6) [32]).2.1, ((nmM (Lib.cut (s.drop 6) [32]).1).1 : Nat), decide (by' s 4 = 49)⟩, (nmM (Lib.cut (s.drop 6) [32]).1).2)
open Classical in
noncomputable def refF : Nat → List UInt8 → Bas → Bas × Int
  | 0, _, _ => (dB, 2)
  | k + 1, s, b =>
    if (lineM s).2.2 = false ∨ 32 < b.packs.length then (dB, 2) else
    if (lineM s).1 = wEndS then (if ¬ (lineM s).2.1 = [] ∨ ¬ BasOk b then (dB, 2) else (b, 0)) else
    if 5 < (lineM s).1.length ∧ (lineM s).1.take 5 = wPackS ∧ b.dirs = [] then
      (if (packM (lineM s).1 (lineM s).2.1).2.2 = false then (dB, 2) else refF k (packM (lineM s).1 (lineM s).2.1).2.1 ⟨b.packs ++ [(packM (lineM s).1 (lineM s).2.1).1], b.dirs⟩) else
    if (dirM (lineM s).1).2 = false then (dB, 2) else refF k (lineM s).2.1 ⟨b.packs, b.dirs ++ [(dirM (lineM s).1).1]⟩
theorem line_eq {s : List UInt8} (h : (lineM s).2.2 = true) : s = (lineM s).1 ++ 10 :: (lineM s).2.1 := by
  unfold lineM at h ⊢
  split at h
  · rename_i h1
    rw [if_pos h1]
    exact cut_eq h1
  · cases h
theorem dir_back {s : List UInt8} (h : (dirM s).2 = true) : s ++ [10] = dirL (dirM s).1 := by
  unfold dirM at h ⊢
  split at h
  · cases h
  · rename_i h1
    rw [if_neg h1]
    simp only [not_or, not_and, Decidable.not_not] at h1
    obtain ⟨h1, h2, h3, h4, h5⟩ := h1
    have h6 := cut_eq (s := s.drop 6) (c := 32) (by simpa using h5)
    dsimp only at h
    have hn := num_back h
    unfold dirL lineL
    dsimp only
    rw [join4, Int.toNat_natCast, hn]
    generalize (Lib.cut (s.drop 6) [32]).1 = a at h6
    generalize (Lib.cut (s.drop 6) [32]).2.1 = c at h6
    have e1 : s = s.take 4 ++ s.drop 4 := (List.take_append_drop 4 s).symm
    have e2 := drop_at s 4 0 (by omega)
    have e3 := drop_at s 5 0 (by omega)
    have b5 : s.getD 5 0 = 32 := UInt8.toNat_inj.1 h4
    have b4 : s.getD 4 0 = (if (decide (by' s 4 = 49)) then (49 : UInt8) else 48) := by
      by_cases c4 : by' s 4 = 49
      · rw [decide_eq_true c4]; exact UInt8.toNat_inj.1 c4
      · rw [decide_eq_false c4]
        refine UInt8.toNat_inj.1 ?_
        show by' s 4 = 48
        apply Decidable.byContradiction
        intro hh
        exact c4 (h3 hh)
    rw [e2, e3, h2, b5, h6, b4] at e1
    clear h3 b4
    generalize decide (by' s 4 = 49) = q at e1 ⊢
    rw [e1]
    unfold bitL wDirS wDir
    cases q <;> simp
theorem pack_back {h s : List UInt8} (h5 : h.take 5 = wPackS) (hg : (packM h s).2.2 = true) : checkM (packM h s).1 = 0 ∧ h ++ 10 :: s = packL (packM h s).1 ++ (packM h s).2.1 := by
  unfold packM at hg ⊢
  split at hg
  · cases hg
  · rename_i h1
    rw [if_neg h1]
    simp only [not_or] at h1
    obtain ⟨h1, h2⟩ := h1
    dsimp only at hg ⊢
    have hn := num_back (s := h.drop 5) (by simpa using h1)
    generalize (nmM (h.drop 5)).1 = n at hn hg h2
    obtain ⟨q1, q2⟩ := parseM_back (of_decide_eq_true hg)
    refine ⟨q1, ?_⟩
    generalize (parseM (s.take n)).1 = m at q1 q2
    have hl : (textM m).length = n := by rw [q2, List.length_take]; omega
    unfold packL lineL
    rw [join2, hl, hn, q2]
    have e1 : h = wPackS ++ h.drop 5 := by rw [← h5, List.take_append_drop]
    have e2 : s = s.take n ++ s.drop n := (List.take_append_drop n s).symm
    generalize h.drop 5 = t at e1
    rw [e1]
    conv => lhs; rw [e2]
    unfold wPackS wPack
    simp
/-- What the reference reads has that text. -/
theorem refF_back : ∀ (k : Nat) (s : List UInt8) (b b' : Bas), refF k s b = (b', 0) → ∃ ps ds, b' = ⟨b.packs ++ ps, b.dirs ++ ds⟩ ∧ s = restB ps ds ∧ BasOk b' ∧ (b.dirs ≠ [] → ps = [])
  | 0, s, b, b', h => by
    unfold refF at h
    cases h
  | k + 1, s, b, b', h => by
    unfold refF at h
    split at h
    · cases h
    · rename_i h1
      simp only [not_or] at h1
      have hl := line_eq (s := s) (by simpa using h1.1)
      split at h
      · rename_i h2
        split at h
        · cases h
        · rename_i h3
          simp only [not_or, Decidable.not_not] at h3
          rw [Prod.mk.injEq] at h
          obtain ⟨rfl, _⟩ := h
          refine ⟨[], [], by simp, ?_, Classical.not_not.1 h3.2, fun _ => rfl⟩
          rw [hl, h2, h3.1]
          rfl
      · split at h
        · rename_i h3
          split at h
          · cases h
          · rename_i h4
            obtain ⟨q1, q2⟩ := pack_back (s := (lineM s).2.1) h3.2.1 (by simpa using h4)
            obtain ⟨ps, ds, e1, e2, e3, e4⟩ := refF_back k _ _ b' h
            refine ⟨(packM (lineM s).1 (lineM s).2.1).1 :: ps, ds, by rw [e1]; simp, ?_, e3, fun hne => absurd h3.2.2 hne⟩
            have e0 : restB ((packM (lineM s).1 (lineM s).2.1).1 :: ps) ds = packL (packM (lineM s).1 (lineM s).2.1).1 ++ restB ps ds := by simp [restB]
            rw [e0, ← e2, ← q2]
            exact hl
        · split at h
          · cases h
          · rename_i h3 h4
            have q := dir_back (s := (lineM s).1) (by simpa using h4)
            obtain ⟨ps, ds, e1, e2, e3, e4⟩ := refF_back k _ _ b' h
            have hps := e4 (by simp)
            subst hps
            refine ⟨[], (dirM (lineM s).1).1 :: ds, by rw [e1]; simp, ?_, e3, fun _ => rfl⟩
            have e0 : restB [] ((dirM (lineM s).1).1 :: ds) = dirL (dirM (lineM s).1).1 ++ restB [] ds := by simp [restB]
            rw [e0, ← e2, ← q]
            exact hl.trans (by simp)
theorem line_of {a r : List UInt8} (h : 10 ∉ a) : lineM (a ++ 10 :: r) = (a, r, true) := by
  have h1 : Lib.cut (a ++ 10 :: r) [10] = (a, r, true) := by
    have : ∀ a : List UInt8, 10 ∉ a → Lib.indexByte (a ++ 10 :: r) 10 = (a.length : Int) := by
      intro a
      induction a with
      | nil => intro _; unfold Lib.indexByte; simp
      | cons x a ih =>
        intro hx
        have h1 : x ≠ 10 := fun e => hx (by simp [e])
        have h2 := ih fun e => hx (by simp [e])
        rw [List.cons_append, ibn 10 x _ h1, h2, if_neg (by omega)]
        simp
    unfold Lib.cut
    rw [Lib.index_one, this a h, if_pos (by omega), Int.toNat_natCast]
    simp
  unfold lineM
  rw [h1]
  rfl
theorem cut_of {a r : List UInt8} {c : UInt8} (h : c ∉ a) : Lib.cut (a ++ c :: r) [c] = (a, r, true) := by
  have : ∀ a : List UInt8, c ∉ a → Lib.indexByte (a ++ c :: r) c = (a.length : Int) := by
    intro a
    induction a with
    | nil => intro _; unfold Lib.indexByte; simp
    | cons x a ih =>
      intro hx
      have h1 : x ≠ c := fun e => hx (by simp [e])
      have h2 := ih fun e => hx (by simp [e])
      rw [List.cons_append, ibn c x _ h1, h2, if_neg (by omega)]
      simp
  unfold Lib.cut
  rw [Lib.index_one, this a h, if_pos (by omega), Int.toNat_natCast]
  simp
theorem packL_ln (m : Man) (r : List UInt8) : packL m ++ r = (wPackS ++ Lib.decDigits (textM m).length) ++ 10 :: (textM m ++ r) := by
  unfold packL lineL
  rw [join2]
  unfold wPack wPackS
  simp
theorem dirL_ln (d : Shr) (r : List UInt8) : dirL d ++ r = (wDirS ++ (bitL d.made ++ 32 :: (Lib.decDigits d.refs.toNat ++ 32 :: d.path))) ++ 10 :: r := by
  unfold dirL lineL
  rw [join4]
  unfold wDir wDirS
  simp
theorem ref_pack {m : Man} {r : List UInt8} {b : Bas} {k : Nat} (hm : checkM m = 0) (hl : b.packs.length ≤ 32) (hd : b.dirs = []) : refF (k + 1) (packL m ++ r) b = refF k r ⟨b.packs ++ [m], b.dirs⟩ := by
  have hlen := textM_len (ManOk.of hm)
  have hn := num_dd (textM m).length (by omega)
  have hh : 10 ∉ wPackS ++ Lib.decDigits (textM m).length := by
    rw [List.mem_append]
    rintro (h | h)
    · revert h; decide
    · exact (dd_no _).2 h
  have hne := List.length_pos_iff.2 (dd_ne (textM m).length)
  have hp : packM (wPackS ++ Lib.decDigits (textM m).length) (textM m ++ r) = (m, r, true) := by
    have e : (wPackS ++ Lib.decDigits (textM m).length).drop 5 = Lib.decDigits (textM m).length := rfl
    unfold packM
    rw [e, hn, if_neg (by simp), List.take_left, List.drop_left, parseM_text hm]
    rfl
  rw [packL_ln, refF, line_of hh]
  dsimp only
  rw [if_neg (by rintro (h | h); cases h; omega), if_neg (by unfold wPackS wEndS; simp), if_pos ⟨by unfold wPackS; simp; omega, rfl, hd⟩, hp, if_neg (by simp)]
theorem ref_dir {d : Shr} {r : List UInt8} {b : Bas} {k : Nat} (hp : 32 ∉ d.path ∧ 10 ∉ d.path) (h0 : 0 ≤ d.refs) (h1 : d.refs < 1000000) (hl : b.packs.length ≤ 32) : refF (k + 1) (dirL d ++ r) b = refF k r ⟨b.packs, b.dirs ++ [d]⟩ := by
  have hn := num_dd d.refs.toNat (by omega)
  obtain ⟨n1, n2⟩ := dd_no d.refs.toNat
  obtain ⟨c, hc, hc2⟩ : ∃ c : UInt8, bitL d.made = [c] ∧ (c = 48 ∧ d.made = false ∨ c = 49 ∧ d.made = true) := by
    cases d.made
    · exact ⟨48, rfl, .inl ⟨rfl, rfl⟩⟩
    · exact ⟨49, rfl, .inr ⟨rfl, rfl⟩⟩
  have hh : 10 ∉ wDirS ++ (bitL d.made ++ 32 :: (Lib.decDigits d.refs.toNat ++ 32 :: d.path)) := by
    rw [hc]
    simp only [List.mem_append, List.mem_cons, List.not_mem_nil, or_false, not_or]
    refine ⟨by decide, ?_, by decide, n2, by decide, hp.2⟩
    rcases hc2 with ⟨rfl, _⟩ | ⟨rfl, _⟩ <;> decide
  have hdm : dirM (wDirS ++ (bitL d.made ++ 32 :: (Lib.decDigits d.refs.toNat ++ 32 :: d.path))) = (d, true) := by
    rw [hc]
    have e6 : (wDirS ++ ([c] ++ 32 :: (Lib.decDigits d.refs.toNat ++ 32 :: d.path))).drop 6 = Lib.decDigits d.refs.toNat ++ 32 :: d.path := rfl
    have b4 : by' (wDirS ++ ([c] ++ 32 :: (Lib.decDigits d.refs.toNat ++ 32 :: d.path))) 4 = c.toNat := rfl
    have b5 : by' (wDirS ++ ([c] ++ 32 :: (Lib.decDigits d.refs.toNat ++ 32 :: d.path))) 5 = 32 := rfl
    have t4 : (wDirS ++ ([c] ++ 32 :: (Lib.decDigits d.refs.toNat ++ 32 :: d.path))).take 4 = wDirS := rfl
    have hl6 : ¬ (wDirS ++ ([c] ++ 32 :: (Lib.decDigits d.refs.toNat ++ 32 :: d.path))).length < 6 := by unfold wDirS; simp
    unfold dirM
    rw [e6, b4, b5, t4, cut_of n1, hn]
    have hb : ¬ (¬ c.toNat = 48 ∧ ¬ c.toNat = 49) := by rcases hc2 with ⟨rfl, _⟩ | ⟨rfl, _⟩ <;> decide
    rw [if_neg (by simp only [not_or]; exact ⟨hl6, by simp, hb, by simp, by simp⟩)]
    have e1 : ((d.refs.toNat : Nat) : Int) = d.refs := by omega
    have e2 : decide (c.toNat = 49) = d.made := by rcases hc2 with ⟨rfl, h⟩ | ⟨rfl, h⟩ <;> rw [h] <;> rfl
    dsimp only
    rw [e1, e2]
  rw [dirL_ln, refF, line_of hh]
  dsimp only
  rw [if_neg (by rintro (h | h); cases h; omega), if_neg (by unfold wDirS wEndS; simp), if_neg (by unfold wDirS wPackS; simp), hdm, if_neg (by simp)]
theorem ref_end (k : Nat) {b : Bas} (h : BasOk b) : refF (k + 1) wEnd b = (b, 0) := by
  have e : wEnd = wEndS ++ 10 :: [] := rfl
  rw [e, refF, line_of (by decide)]
  dsimp only
  have := h.len
  rw [if_neg (by rintro (h | h); cases h; omega), if_pos rfl, if_neg (by simp [h])]
theorem ref_dirs : ∀ (ds : List Shr) (b : Bas) (k : Nat), ds.length < k → (∀ d ∈ ds, (32 ∉ d.path ∧ 10 ∉ d.path) ∧ 0 ≤ d.refs ∧ d.refs < 1000000) → b.packs.length ≤ 32 → BasOk ⟨b.packs, b.dirs ++ ds⟩ → refF k (ds.flatMap dirL ++ wEnd) b = (⟨b.packs, b.dirs ++ ds⟩, 0)
  | [], b, 0, hk, _, _, _ => by simp at hk
  | [], b, k + 1, _, _, _, ho => by rw [List.append_nil] at ho ⊢; rw [List.flatMap_nil, List.nil_append]; exact ref_end k ho
  | d :: ds, b, 0, hk, _, _, _ => by simp at hk
  | d :: ds, b, k + 1, hk, h, hl, ho => by
    obtain ⟨h1, h2, h3⟩ := h d (by simp)
    rw [List.length_cons] at hk
    have e : b.dirs ++ d :: ds = b.dirs ++ [d] ++ ds := by simp
    rw [e] at ho ⊢
    rw [List.flatMap_cons, List.append_assoc, ref_dir h1 h2 h3 hl, ref_dirs ds ⟨b.packs, b.dirs ++ [d]⟩ k (by omega) (fun x hx => h x (by simp [hx])) hl ho]
theorem ref_packs : ∀ (ps : List Man) (ds : List Shr) (b : Bas) (k : Nat), ps.length + ds.length < k → (∀ m ∈ ps, checkM m = 0) → b.packs.length + ps.length ≤ 32 → b.dirs = [] → (∀ d ∈ ds, (32 ∉ d.path ∧ 10 ∉ d.path) ∧ 0 ≤ d.refs ∧ d.refs < 1000000) → BasOk ⟨b.packs ++ ps, b.dirs ++ ds⟩ → refF k (restB ps ds) b = (⟨b.packs ++ ps, b.dirs ++ ds⟩, 0)
  | [], ds, b, k, hk, _, hp, _, hd, ho => by
    unfold restB
    rw [List.append_nil] at ho ⊢
    rw [List.flatMap_nil, List.nil_append]
    exact ref_dirs ds b k (by simpa using hk) hd (by simpa using hp) ho
  | m :: ps, ds, b, 0, hk, _, _, _, _, _ => by simp at hk
  | m :: ps, ds, b, k + 1, hk, h, hp, hb, hd, ho => by
    rw [List.length_cons] at hk hp
    have e : restB (m :: ps) ds = packL m ++ restB ps ds := by simp [restB]
    have e2 : b.packs ++ m :: ps = b.packs ++ [m] ++ ps := by simp
    rw [e2] at ho ⊢
    rw [e, ref_pack (h m (by simp)) (by omega) hb, ref_packs ps ds ⟨b.packs ++ [m], b.dirs⟩ k (by omega) (fun x hx => h x (by simp [hx])) (by simp; omega) hb hd ho]
/-- How the reference reads a text, whole. -/
noncomputable def refP (s : List UInt8) : Bas × Int :=
  if (lineM s).2.2 = false ∨ ¬ (lineM s).1 = [98, 97, 115, 101, 32, 49] then (dB, 2) else refF (s.length + 1) (lineM s).2.1 dB
theorem restB_len (b : Bas) : b.packs.length + b.dirs.length < (restB b.packs b.dirs).length := by
  have h1 : b.packs.length ≤ (b.packs.flatMap packL).length := by
    generalize b.packs = l
    induction l with
    | nil => simp
    | cons m l ih =>
      rw [List.flatMap_cons, List.length_append, List.length_cons]
      have : 1 ≤ (packL m).length := by unfold packL lineL; simp; omega
      omega
  have h2 : b.dirs.length ≤ (b.dirs.flatMap dirL).length := by
    generalize b.dirs = l
    induction l with
    | nil => simp
    | cons m l ih =>
      rw [List.flatMap_cons, List.length_append, List.length_cons]
      have : 1 ≤ (dirL m).length := by unfold dirL lineL; simp
      omega
  unfold restB wEnd
  simp only [List.length_append, List.length_cons]
  omega
theorem refP_text {b : Bas} (h : BasOk b) : refP (textB b) = (b, 0) := by
  obtain ⟨hd, hl⟩ := dirs_good h
  have e : textB b = [98, 97, 115, 101, 32, 49] ++ 10 :: restB b.packs b.dirs := rfl
  have hr := restB_len b
  unfold refP
  rw [e, line_of (by decide)]
  dsimp only
  rw [if_neg (by simp), ref_packs b.packs b.dirs dB _ (by simp; omega) h.chk (by simpa [dB] using h.len) rfl hd (by simpa [dB] using h)]
  simp [dB]
theorem refP_back {s : List UInt8} {b : Bas} (h : refP s = (b, 0)) : BasOk b ∧ textB b = s := by
  unfold refP at h
  split at h
  · cases h
  · rename_i h1
    simp only [not_or, Decidable.not_not] at h1
    have hl := line_eq (s := s) (by simpa using h1.1)
    obtain ⟨ps, ds, e1, e2, e3, _⟩ := refF_back _ _ _ _ h
    refine ⟨e3, ?_⟩
    rw [hl, h1.2, e2, e1]
    rfl
open Classical in
/-- How the program reads a text, whole. -/
noncomputable def parseB (s : List UInt8) : Bas × Int :=
  if (readB s).2 = true ∧ BasOk (readB s).1 ∧ textB (readB s).1 = s then ((readB s).1, 0) else (dB, 2)
theorem refF_bad : ∀ (k : Nat) (s : List UInt8) (b : Bas), ¬ (refF k s b).2 = 0 → refF k s b = (dB, 2)
  | 0, s, b, _ => rfl
  | k + 1, s, b, h => by
    rw [refF] at h ⊢
    repeat' split
    all_goals first | rfl | skip
    · rename_i h1 h2 h3
      rw [if_neg h1, if_pos h2, if_neg h3] at h
      exact absurd rfl h
    · rename_i h1 h2 h3 h4
      rw [if_neg h1, if_neg h2, if_pos h3, if_neg h4] at h
      exact refF_bad k _ _ h
    · rename_i h1 h2 h3 h4
      rw [if_neg h1, if_neg h2, if_neg h3, if_neg h4] at h
      exact refF_bad k _ _ h
theorem refP_bad {s : List UInt8} (h : ¬ (refP s).2 = 0) : refP s = (dB, 2) := by
  unfold refP at h ⊢
  split
  · rfl
  · rename_i h1
    rw [if_neg h1] at h
    exact refF_bad _ _ _ h
theorem parse_same (s : List UInt8) : parseB s = refP s := by
  unfold parseB
  by_cases h : (readB s).2 = true ∧ BasOk (readB s).1 ∧ textB (readB s).1 = s
  · rw [if_pos h]
    have := refP_text h.2.1
    rw [h.2.2] at this
    exact this.symm
  · rw [if_neg h]
    by_cases h2 : (refP s).2 = 0
    · obtain ⟨q1, q2⟩ := refP_back (s := s) (b := (refP s).1) (Prod.ext rfl h2)
      have := readB_text q1
      rw [q2] at this
      rw [this] at h
      exact absurd ⟨rfl, q1, q2⟩ h
    · exact (refP_bad h2).symm
/-- What is read was written so; what was written is read. -/
theorem parse_text {b : Bas} (h : BasOk b) : parseB (textB b) = (b, 0) := by rw [parse_same, refP_text h]
end Go.Proofs.YtagjeabdcjcchaaGreatDoor.Ev
namespace Go.Proofs.YtagjeabdcjcchaaGreatDoor.Ev
open Go.RowKit
open Go.Proofs.YtagjeabdcjcchaaGreatDoor.Mem
set_option linter.unusedVariables false
set_option linter.unusedSimpArgs false
set_option maxRecDepth 100000
open Classical in
theorem ocheck_ok (b : Bas) (hb : b.Big) : Spec Tryz.prog LL 19 [eBas b] (.b (decide (BasOk b))) := by
  refine spec_of (C := ⟨Tryz.prog, LL, EE, []⟩) (rl := [.b (decide (BasOk b))]) (rs := [.tmp 2]) CCx LLs Tryz.func19 rfl (by kernel_rfl) rfl (by kernel_rfl) (Nat.le_of_ble_eq_true rfl) (fun i => rfl) (fun i => by first | rfl | exact (Bool.or_false _).trans (eSd_men _ _)) rfl (by decide) ?_
  refine gb ?_
  have hbd := hb.d
  refine cl (packs_ok b.packs hb.p (fun m hm => (hb.m m hm).1)) ?_
  refine gb ?_
  refine br (fun a => ?_) (fun a => ?_)
  · try refine gb ?_
    have hp : ¬ PkOk b.packs := by simpa using a
    rw [decide_eq_false fun h : BasOk b => hp (bas_pk h)]
  · try refine gb ?_
    have hp : PkOk b.packs := by simpa using a
    have hpo := prog_ok (b := b) hp (sortE_both (entsOf b.packs)).1 (sortE_both (entsOf b.packs)).2
    refine cl (shared_ok b.packs hp.len (pk_ents hp)) ?_
    refine gb ?_
    unfold sharedM at *
    cases hD : sharedF (sortE (entsOf b.packs)) dE [] with
    | none =>
      dsimp only
      have no : ¬ BasOk b := fun h => by
        obtain ⟨D, h1, _⟩ := hpo.1 h
        rw [hD] at h1
        cases h1
      try refine gb ?_
      rw [decide_eq_false no]
    | some D =>
      dsimp only
      rw [hD] at hpo
      try refine gb ?_
      refine br (fun c => ?_) (fun c => ?_)
      · try refine gb ?_
        rw [decide_eq_false fun h : BasOk b => by
          obtain ⟨D', h1, h2, _⟩ := hpo.1 h
          rw [Option.some.injEq] at h1
          subst h1
          omega]
      · try refine gb ?_
        refine lp_hd [3, 28, 29] [] (fun i : Nat => [(30, .n .i64 (i : Int))]) (fun i : Nat => []) (fun i : Nat => i ≤ b.dirs.length ∧ ∀ j, j < i → (b.dirs.getD j dS).path = (D.getD j dS).path ∧ (b.dirs.getD j dS).refs = (D.getD j dS).refs) (fun i : Nat => b.dirs.length - i) (0) id (id) ⟨Nat.zero_le _, fun j h => absurd h (Nat.not_lt_zero _)⟩ (fits_of (gb ?_) (gb ?_) (gb ?_) (gb ?_) (gb ?_)) ?_
        · first | exact True.intro | exact ⟨rfl, rfl⟩ | exact ⟨rfl, rfl, rfl⟩ | rfl | exact rowc (List.map_id _) | trivial
        · first | exact True.intro | exact ⟨rfl, rfl⟩ | exact ⟨rfl, rfl, rfl⟩ | rfl | exact rowc (List.map_id _) | trivial
        · first | exact True.intro | exact ⟨rfl, rfl⟩ | exact ⟨rfl, rfl, rfl⟩ | rfl | exact rowc (List.map_id _) | trivial
        · first | exact True.intro | exact ⟨rfl, rfl⟩ | exact ⟨rfl, rfl, rfl⟩ | rfl | exact rowc (List.map_id _) | trivial
        · first | exact True.intro | exact ⟨rfl, rfl⟩ | exact ⟨rfl, rfl, rfl⟩ | rfl | exact rowc (List.map_id _) | trivial
        rintro i ⟨hi, hr⟩
        try refine gb ?_
        refine br (fun e => ?_) (fun e => ?_)
        · have no : ¬ ((b.dirs.getD i dS).path = (D.getD i dS).path ∧ (b.dirs.getD i dS).refs = (D.getD i dS).refs) → false = decide (BasOk b) := fun h => (decide_eq_false fun hk : BasOk b => by
            obtain ⟨D', h1, h2, h3⟩ := hpo.1 hk
            rw [Option.some.injEq] at h1
            subst h1
            exact h (h3 i (by omega))).symm
          have yes : (b.dirs.getD i dS).path = (D.getD i dS).path → (b.dirs.getD i dS).refs = (D.getD i dS).refs → ∀ j, j < i + 1 → (b.dirs.getD j dS).path = (D.getD j dS).path ∧ (b.dirs.getD j dS).refs = (D.getD j dS).refs := fun h1 h2 j hj => by
            rcases Nat.lt_or_ge j i with h | h
            · exact hr j h
            · rw [show j = i by omega]; exact ⟨h1, h2⟩
          clear hr hpo hD
          repeat' (first | exact True.intro | (exact no (fun h => by simp_all)) | (refine ⟨i + 1, ⟨by omega, yes (by first | assumption | simp_all) (by first | assumption | omega | simp_all)⟩, (by omega), fits_of (gb ?_) (gb ?_) (gb ?_) (gb ?_) (gb ?_)⟩ <;> (first | exact True.intro | exact ⟨rfl, rfl⟩ | exact ⟨rfl, rfl, rfl⟩ | rfl | exact rowc (List.map_id _) | trivial); done) | refine br (fun h => ?_) (fun h => ?_) | refine gb ?_)
        · try refine gb ?_
          rw [decide_eq_true (hpo.2 ⟨D, rfl, by omega, fun j hj => hr j (by omega)⟩)]
theorem oline_ok (l : List (List UInt8)) (h : l.length ≤ 140737488355328) (h2 : (Lib.join l [32]).length ≤ 140737488355000) : Spec Tryz.prog LL 29 [.sl 1 (List UInt8) [] l .s] (.s (lineL l)) := by
  refine spec_of (C := ⟨Tryz.prog, LL, EE, []⟩) (rl := [.s (lineL l)]) (rs := [.tmp 2]) CCx LLs Tryz.func29 rfl (by kernel_rfl) rfl (by kernel_rfl) (Nat.le_of_ble_eq_true rfl) (fun i => rfl) (fun i => by first | rfl | exact (Bool.or_false _).trans (eSd_men _ _)) rfl (by decide) ?_
  refine gb ?_
  refine cl (join_ok l [32] (by omega) (by omega)) ?_
  refine gb ?_
  trivial
theorem ito (n : Int) (h : 0 ≤ n) : Lib.itoa n = Lib.decDigits n.toNat := by
  unfold Lib.itoa
  rw [if_neg (by omega)]
theorem dd_len8 (n : Nat) (h : n < 1000000000000000000) : (Lib.decDigits n).length ≤ 18 := dd_len 17 n (by omega)
theorem dirLine_ok (d : Shr) (h0 : 0 ≤ d.refs) (h1 : d.refs < 1000000) (hp : d.path.length ≤ 140737488350000) : Spec Tryz.prog LL 31 [eShr d] (.s (dirL d)) := by
  refine spec_of (C := ⟨Tryz.prog, LL, EE, []⟩) (rl := [.s (dirL d)]) (rs := [.tmp 2]) CCx LLs Tryz.func31 rfl (by kernel_rfl) rfl (by kernel_rfl) (Nat.le_of_ble_eq_true rfl) (fun i => rfl) (fun i => by first | rfl | exact (Bool.or_false _).trans (eSd_men _ _)) rfl (by decide) ?_
  refine gb ?_
  have hi := ito d.refs h0
  have hl := dd_len8 d.refs.toNat (by omega)
  refine br (fun c => ?_) (fun c => ?_)
  · try refine gb ?_
    refine cd (itoa_ok d.refs (by omega) (by omega)) ?_
    refine gb ?_
    rw [hi]
    refine .inr ?_
    refine cd (oline_ok [wDir, [49], Lib.decDigits d.refs.toNat, d.path] (by simp) (by rw [join4]; simp [wDir]; omega)) ?_
    refine gb ?_
    rw [dirL, bitL, if_pos c]
  · try refine gb ?_
    refine cd (itoa_ok d.refs (by omega) (by omega)) ?_
    refine gb ?_
    rw [hi]
    refine .inr ?_
    refine cd (oline_ok [wDir, [48], Lib.decDigits d.refs.toNat, d.path] (by simp) (by rw [join4]; simp [wDir]; omega)) ?_
    refine gb ?_
    rw [dirL, bitL, if_neg c]
open Classical in
noncomputable def printB (b : Bas) : List UInt8 × Int := if BasOk b then (textB b, 0) else ([], 1)
theorem pack_len {m : Man} (h : checkM m = 0) : (packL m).length ≤ 60000 := by
  have := textM_len (ManOk.of h)
  have := dd_len8 (textM m).length (by omega)
  unfold packL lineL
  rw [join2]
  simp [wPack]
  omega
theorem dirL_len {d : Shr} (h0 : 0 ≤ d.refs) (h1 : d.refs < 1000000) (hp : d.path.length ≤ 200) : (dirL d).length ≤ 300 := by
  have := dd_len8 d.refs.toNat (by omega)
  unfold dirL lineL bitL
  rw [join4]
  split <;> simp [wDir] <;> omega
theorem flat_len {α : Type} {f : α → List UInt8} {n : Nat} {l : List α} (h : ∀ x ∈ l, (f x).length ≤ n) : (l.flatMap f).length ≤ l.length * n := by
  induction l with
  | nil => simp
  | cons x l ih =>
    have h1 := h x (by simp)
    have h2 := ih fun y hy => h y (by simp [hy])
    rw [List.flatMap_cons, List.length_append, List.length_cons, Nat.add_mul]
    omega
theorem flat_take {α : Type} (f : α → List UInt8) (l : List α) (d : α) (i : Nat) (hi : i < l.length) : (l.take (i + 1)).flatMap f = (l.take i).flatMap f ++ f (l.getD i d) := by
  rw [take_at l i d hi, List.flatMap_append]
  simp
theorem dirs_short {b : Bas} (h : BasOk b) : ∀ d ∈ b.dirs, d.path.length ≤ 200 := fun d hd => by
  obtain ⟨r1, r2⟩ := h.refs d hd
  obtain ⟨x, hx, hx2, _⟩ := cnt2_pos.1 (show 1 ≤ cnt2 (entsOf b.packs) d.path by omega)
  obtain ⟨m, hm, hx⟩ := mem_ents.1 hx
  have := parts_len ((ManOk.of (h.chk m hm)).ents x hx).p
  rwa [hx2] at this
set_option maxHeartbeats 4000000 in
theorem oprint_ok (b : Bas) (hb : b.Big) : Spec Tryz.prog LL 11 [eBas b] (.tp [.s (printB b).1, .n .i64 (printB b).2]) := by
  refine spec_of (C := ⟨Tryz.prog, LL, EE, []⟩) (rl := [.s (printB b).1, .n .i64 (printB b).2]) (rs := [.tmp 2, .tmp 3]) CCx LLs Tryz.func11 rfl (by kernel_rfl) rfl (by kernel_rfl) (Nat.le_of_ble_eq_true rfl) (fun i => rfl) (fun i => by first | rfl | exact (Bool.or_false _).trans (eSd_men _ _)) rfl (by decide) ?_
  refine gb ?_
  refine cl (ocheck_ok b hb) ?_
  refine gb ?_
  refine br (fun a => ?_) (fun a => ?_)
  · try refine gb ?_
    have hp : ¬ BasOk b := by simpa using a
    rw [show printB b = ([], 1) from if_neg hp]
    exact ⟨rfl, rfl⟩
  · have hp : BasOk b := by simpa using a
    obtain ⟨hdg, hdl⟩ := dirs_good hp
    have hds := dirs_short hp
    have hpl := hp.len
    rw [show printB b = (textB b, 0) from if_pos hp]
    try refine gb ?_
    refine lp_hd [1, 15, 16] [1] (fun i : Nat => [(4, .s (wBase ++ (b.packs.take i).flatMap packL)), (17, .n .i64 (i : Int))]) (fun i : Nat => []) (fun i : Nat => i ≤ b.packs.length) (fun i : Nat => b.packs.length - i) (0) id (id) (Nat.zero_le _) (fits_of (gb ?_) (gb ?_) (gb ?_) (gb ?_) (gb ?_)) ?_
    · first | exact True.intro | exact ⟨rfl, rfl⟩ | exact ⟨rfl, rfl, rfl⟩ | rfl | exact rowc (List.map_id _) | trivial
    · (refine ⟨?_, rfl⟩; simp [wBase])
    · first | exact True.intro | exact ⟨rfl, rfl⟩ | exact ⟨rfl, rfl, rfl⟩ | rfl | exact rowc (List.map_id _) | trivial
    · first | exact True.intro | exact ⟨rfl, rfl⟩ | exact ⟨rfl, rfl, rfl⟩ | rfl | exact rowc (List.map_id _) | trivial
    · first | exact True.intro | exact ⟨rfl, rfl⟩ | exact ⟨rfl, rfl, rfl⟩ | rfl | exact rowc (List.map_id _) | trivial
    rintro i hi
    have hlen := flat_len (f := packL) (l := b.packs.take i) fun m hm => pack_len (hp.chk m (List.mem_of_mem_take hm))
    have hlen2 : (b.packs.take i).length ≤ 32 := by rw [List.length_take]; omega
    try refine gb ?_
    refine br (fun e => ?_) (fun e => ?_)
    · have htk := flat_take packL b.packs dMn i (by omega)
      have hm : b.packs.getD i dMn ∈ b.packs := getD_mem (by omega)
      have hc := hp.chk _ hm
      have hf := (hb.m _ hm).1
      have hpk := pack_len hc
      have htl := textM_len (ManOk.of hc)
      try refine gb ?_
      generalize b.packs.getD i dMn = m at hc hf htk hpk htl ⊢
      refine cl (print_ok m hf) ?_
      refine gb ?_
      rw [show printM m = (textM m, 0) from if_neg (by rw [hc]; simp)]
      try refine gb ?_
      have hi2 := ito ((textM m).length : Int) (by omega)
      rw [Int.toNat_natCast] at hi2
      refine cl (itoa_ok ((textM m).length : Int) (by omega) (by omega)) ?_
      refine gb ?_
      rw [hi2]
      refine .inr ?_
      have hdl2 := dd_len8 (textM m).length (by omega)
      refine cl (oline_ok [wPack, Lib.decDigits (textM m).length] (by simp) (by rw [join2]; simp [wPack]; omega)) ?_
      refine gb ?_
      have hwb : wBase.length = 7 := rfl
      have hll : (lineL [wPack, Lib.decDigits (textM m).length]).length + (textM m).length ≤ 60000 := by
        have := hpk
        unfold packL at this
        rwa [List.length_append] at this
      refine ⟨by omega, by omega, ?_⟩
      refine ⟨i + 1, (by omega), (by omega), fits_of (gb ?_) (gb ?_) (gb ?_) (gb ?_) (gb ?_)⟩
      · first | exact True.intro | exact ⟨rfl, rfl⟩ | exact ⟨rfl, rfl, rfl⟩ | rfl | exact rowc (List.map_id _) | trivial
      · (refine ⟨?_, rfl⟩; rw [htk]; rfl)
      · first | exact True.intro | exact ⟨rfl, rfl⟩ | exact ⟨rfl, rfl, rfl⟩ | rfl | exact rowc (List.map_id _) | trivial
      · first | exact True.intro | exact ⟨rfl, rfl⟩ | exact ⟨rfl, rfl, rfl⟩ | rfl | exact rowc (List.map_id _) | trivial
      · first | exact True.intro | exact ⟨rfl, rfl⟩ | exact ⟨rfl, rfl, rfl⟩ | rfl | exact rowc (List.map_id _) | trivial
    · rw [List.take_of_length_le (by omega)] at hlen ⊢
      rw [List.take_of_length_le (by omega)] at hlen2
      try refine gb ?_
      refine lp_hd [40, 41] [] (fun i : Nat => [(4, .s (wBase ++ (b.packs.flatMap packL ++ (b.dirs.take i).flatMap dirL))), (42, .n .i64 (i : Int))]) (fun i : Nat => []) (fun i : Nat => i ≤ b.dirs.length) (fun i : Nat => b.dirs.length - i) (0) id (id) (Nat.zero_le _) (fits_of (gb ?_) (gb ?_) (gb ?_) (gb ?_) (gb ?_)) ?_
      · first | exact True.intro | exact ⟨rfl, rfl⟩ | exact ⟨rfl, rfl, rfl⟩ | rfl | exact rowc (List.map_id _) | trivial
      · (refine ⟨?_, rfl⟩; simp)
      · first | exact True.intro | exact ⟨rfl, rfl⟩ | exact ⟨rfl, rfl, rfl⟩ | rfl | exact rowc (List.map_id _) | trivial
      · first | exact True.intro | exact ⟨rfl, rfl⟩ | exact ⟨rfl, rfl, rfl⟩ | rfl | exact rowc (List.map_id _) | trivial
      · first | exact True.intro | exact ⟨rfl, rfl⟩ | exact ⟨rfl, rfl, rfl⟩ | rfl | exact rowc (List.map_id _) | trivial
      rintro i hi
      have hwb : wBase.length = 7 := rfl
      have hle := flat_len (f := dirL) (l := b.dirs.take i) fun d hd => dirL_len (hdg d (List.mem_of_mem_take hd)).2.1 (hdg d (List.mem_of_mem_take hd)).2.2 (hds d (List.mem_of_mem_take hd))
      have hle2 : (b.dirs.take i).length ≤ 2048 := by rw [List.length_take]; omega
      try refine gb ?_
      refine br (fun e => ?_) (fun e => ?_)
      · have htk := flat_take dirL b.dirs dS i (by omega)
        have hm : b.dirs.getD i dS ∈ b.dirs := getD_mem (by omega)
        obtain ⟨_, q1, q2⟩ := hdg _ hm
        have q3 := hds _ hm
        have q4 := dirL_len q1 q2 q3
        try refine gb ?_
        generalize b.dirs.getD i dS = d at q1 q2 q3 q4 htk ⊢
        refine cl (dirLine_ok d q1 q2 (by omega)) ?_
        refine gb ?_
        refine ⟨i + 1, (by omega), (by omega), fits_of (gb ?_) (gb ?_) (gb ?_) (gb ?_) (gb ?_)⟩
        · first | exact True.intro | exact ⟨rfl, rfl⟩ | exact ⟨rfl, rfl, rfl⟩ | rfl | exact rowc (List.map_id _) | trivial
        · (refine ⟨?_, rfl⟩; rw [htk])
        · first | exact True.intro | exact ⟨rfl, rfl⟩ | exact ⟨rfl, rfl, rfl⟩ | rfl | exact rowc (List.map_id _) | trivial
        · first | exact True.intro | exact ⟨rfl, rfl⟩ | exact ⟨rfl, rfl, rfl⟩ | rfl | exact rowc (List.map_id _) | trivial
        · first | exact True.intro | exact ⟨rfl, rfl⟩ | exact ⟨rfl, rfl, rfl⟩ | rfl | exact rowc (List.map_id _) | trivial
      · rw [List.take_of_length_le (by omega)] at hle ⊢
        rw [List.take_of_length_le (by omega)] at hle2
        try refine gb ?_
        unfold textB restB wEnd
        simp
theorem rdPack_ok (s w : List UInt8) (hs : s.length ≤ 140737488355328) (hw : w.length ≤ 140737488355328) : Spec Tryz.prog LL 71 [.s s, .s w] (.tp [eMan (rdPack s w).1, .s (rdPack s w).2.1, .b (rdPack s w).2.2]) := by
  refine spec_of (C := ⟨Tryz.prog, LL, EE, []⟩) (rl := [eMan (rdPack s w).1, .s (rdPack s w).2.1, .b (rdPack s w).2.2]) (rs := [.cell 4 40, .tmp 5, .tmp 6]) CCx LLs Tryz.func71 rfl (by kernel_rfl) rfl (by kernel_rfl) (Nat.le_of_ble_eq_true rfl) (fun i => rfl) (fun i => by first | rfl | exact (Bool.or_false _).trans (eSd_men _ _)) rfl (by decide) ?_
  refine gb ?_
  refine cl (atoi_ok w (by omega)) ?_
  refine gb ?_
  have no : (atoB w = false ∨ atoV w < 0 ∨ (s.length : Int) < atoV w) → rdPack s w = (dM, [], false) := fun h => by rw [rdPack, if_pos h]
  have yes : ¬ (atoB w = false ∨ atoV w < 0 ∨ (s.length : Int) < atoV w) → rdPack s w = ((parseM (s.take (atoV w).toNat)).1, s.drop (atoV w).toNat, decide ((parseM (s.take (atoV w).toNat)).2 = 0)) := fun h => by rw [rdPack, if_neg h]
  generalize atoV w = v at *
  cases hb : atoB w with
  | false =>
    rw [no (.inl hb)]
    try refine gb ?_
    repeat' (first | exact True.intro | (exact dM_le) | (exact ⟨dM_le, rfl, rfl⟩) | refine br (fun h => ?_) (fun h => ?_) | refine gb ?_)
  | true =>
    try refine gb ?_
    repeat' (first | exact True.intro | (exfalso; omega) | ((rw [no (.inr (.inl (by omega)))]; first | exact dM_le | exact ⟨dM_le, rfl, rfl⟩)) | ((rw [no (.inr (.inr (by omega)))]; first | exact dM_le | exact ⟨dM_le, rfl, rfl⟩)) | refine cl (parse_ok (s.take v.toNat) (by rw [List.length_take]; omega)) (gb ?_) | ((rw [yes (by simp [hb]; omega)]; first | exact ⟨le_refl _, rfl, rfl⟩ | exact ⟨le_refl _, rfl⟩ | exact le_refl _)) | refine br (fun h => ?_) (fun h => ?_) | refine gb ?_)
end Go.Proofs.YtagjeabdcjcchaaGreatDoor.Ev
