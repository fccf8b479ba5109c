/- Headers: what is written is read. -/
import Derived.Test.YtikmkgoeepgbkaaGreatDoorTm
set_option linter.all false
namespace Go.Proofs.YtikmkgoeepgbkaaGreatDoor.Ev
open Go.RowKit
open Go.Proofs.YtikmkgoeepgbkaaGreatDoor.Mem
set_option linter.unusedVariables false
set_option linter.unusedSimpArgs false
set_option maxRecDepth 100000
theorem ib_cons (c b : UInt8) (l : List UInt8) : Lib.indexByte (b :: l) c = if b = c then 0 else if Lib.indexByte l c = -1 then -1 else Lib.indexByte l c + 1 := by
  by_cases h : b = c
  · subst h; simp [Lib.indexByte]
  · rw [if_neg h, ibn c b l h]
theorem ib_lt (c : UInt8) : ∀ l, Lib.indexByte l c < (l.length : Int)
  | [] => by simp [Lib.indexByte]
  | b :: l => by
    have := ib_lt c l
    rw [ib_cons, List.length_cons]
    split
    · omega
    · split <;> omega
theorem ib_app {c : UInt8} : ∀ {s : List UInt8} (t : List UInt8), Lib.indexByte s c < 0 → Lib.indexByte (s ++ c :: t) c = s.length
  | [], t, _ => by rw [List.nil_append, ib_cons, if_pos rfl]; rfl
  | b :: s, t, h => by
    rw [ib_cons] at h
    by_cases e : b = c
    · rw [if_pos e] at h; omega
    · rw [if_neg e] at h
      have hge := Lib.indexByte_ge s c
      have h2 : Lib.indexByte s c = -1 := by
        by_cases e2 : Lib.indexByte s c = -1
        · exact e2
        · rw [if_neg e2] at h; omega
      rw [List.cons_append, ib_cons, if_neg e, ib_app t (by omega), if_neg (by omega), List.length_cons]
      omega
/-- The text ahead of the first byte 0. -/
def cutM (s : List UInt8) : List UInt8 := (Lib.cut s [0]).1
theorem cutM_len (s : List UInt8) : (cutM s).length ≤ s.length := by
  unfold cutM Lib.cut
  split
  · simp; omega
  · exact Nat.le_refl _
def padM (s : List UInt8) (w : Nat) : List UInt8 := s ++ List.replicate (w - s.length) 0
theorem padM_len {s : List UInt8} {w : Nat} (h : s.length ≤ w) : (padM s w).length = w := by simp [padM]; omega
def fitsB (s : List UInt8) (w : Nat) : Bool := decide (s.length ≤ w) && decide (Lib.indexByte s 0 < 0)
theorem cut_pad {s : List UInt8} {w : Nat} (h : fitsB s w = true) : cutM (padM s w) = s := by
  unfold fitsB at h
  simp only [Bool.and_eq_true, decide_eq_true_eq] at h
  obtain ⟨h1, h2⟩ := h
  unfold cutM padM
  cases hk : w - s.length with
  | zero =>
    rw [List.replicate_zero, List.append_nil]
    unfold Lib.cut
    rw [Lib.index_one, if_neg (by omega)]
  | succ k =>
    rw [List.replicate_succ]
    unfold Lib.cut
    rw [Lib.index_one, ib_app _ h2, if_pos (by omega)]
    simp
/-- The sum of a block's bytes from place i on, the sum's own taken as blanks. -/
def sumL : List UInt8 → Nat → Nat
  | [], _ => 0
  | b :: r, i => (if 148 ≤ i ∧ i < 156 then 32 else b.toNat) + sumL r (i + 1)
def sumM (s : List UInt8) : Nat := if s.length = 512 then sumL s 0 else 0
theorem sumL_app : ∀ (s t : List UInt8) i, sumL (s ++ t) i = sumL s i + sumL t (i + s.length)
  | [], t, i => by simp [sumL]
  | b :: s, t, i => by
    rw [List.cons_append, sumL, sumL, sumL_app s t (i + 1), List.length_cons, show i + (s.length + 1) = i + 1 + s.length by omega]
    exact (Nat.add_assoc _ _ _).symm
theorem sumL_le : ∀ (s : List UInt8) i, sumL s i ≤ 255 * s.length
  | [], i => Nat.le_refl _
  | b :: s, i => by
    have := sumL_le s (i + 1)
    have := b.toNat_lt
    rw [sumL, List.length_cons]
    split <;> omega
theorem sumL_own : ∀ (s t : List UInt8) i, s.length = t.length → 148 ≤ i → i + s.length ≤ 156 → sumL s i = sumL t i
  | [], [], i, _, _, _ => rfl
  | b :: s, c :: t, i, h, h1, h2 => by
    simp at h h2
    rw [sumL, sumL, if_pos ⟨h1, by omega⟩, if_pos ⟨h1, by omega⟩, sumL_own s t (i + 1) h (by omega) (by omega)]
  | [], _ :: _, _, h, _, _ => by simp at h
  | _ :: _, [], _, h, _, _ => by simp at h
def magM : List UInt8 := [117, 115, 116, 97, 114, 0, 48, 48]
/-- Numbers in their fields, one behind the other. -/
def putsM : List (Nat × Nat) → List UInt8 → List UInt8 × Int
  | [], a => (a, 0)
  | (n, w) :: r, a => if (putM n w).2 = 0 then putsM r (a ++ (putM n w).1) else ([], (putM n w).2)
def Hdr.nums (h : Hdr) : List (Nat × Nat) := [(h.mode.toNat, 8), (h.uid.toNat, 8), (h.gid.toNat, 8), (h.size.toNat, 12), (h.time.toNat, 12)]
def tailM (h : Hdr) : List UInt8 := h.flag :: (padM h.link 100 ++ (magM ++ (List.replicate 80 0 ++ (padM h.pre 155 ++ List.replicate 12 0))))
def encM (h : Hdr) : List UInt8 × Int :=
  if ¬ (fitsB h.name 100 = true ∧ fitsB h.link 100 = true ∧ fitsB h.pre 155 = true) then ([], 3) else
  if ¬ (putsM h.nums (padM h.name 100)).2 = 0 then ([], (putsM h.nums (padM h.name 100)).2) else
  ((putsM h.nums (padM h.name 100)).1 ++ (octD 6 (sumM ((putsM h.nums (padM h.name 100)).1 ++ (List.replicate 8 0 ++ tailM h))) ++ ([0, 32] ++ tailM h)), 0)
/-- The numbers of fields that stand one behind the other from a place on. -/
def getsM (s : List UInt8) : List Nat → Nat → List Nat → List Nat × Int
  | [], _, a => (a, 0)
  | w :: r, p, a => if (getM ((s.take (p + w)).drop p)).2 = 0 then getsM s r (p + w) (a ++ [(getM ((s.take (p + w)).drop p)).1]) else ([], (getM ((s.take (p + w)).drop p)).2)
def widM : List Nat := [8, 8, 8, 12, 12]
def decM (s : List UInt8) : Hdr × Int :=
  if ¬ (s.length = 512 ∧ (s.take 265).drop 257 = magM) then (dH, 2) else
  if ¬ (getM ((s.take 156).drop 148)).2 = 0 then (dH, (getM ((s.take 156).drop 148)).2) else
  if ¬ (getM ((s.take 156).drop 148)).1 = sumM s then (dH, 2) else
  if ¬ (getsM s widM 100 []).2 = 0 then (dH, (getsM s widM 100 []).2) else
  (⟨cutM (s.take 100), ((getsM s widM 100 []).1.getD 0 0 : Nat), ((getsM s widM 100 []).1.getD 1 0 : Nat), ((getsM s widM 100 []).1.getD 2 0 : Nat), ((getsM s widM 100 []).1.getD 3 0 : Nat), ((getsM s widM 100 []).1.getD 4 0 : Nat), s.getD 156 0, cutM ((s.take 257).drop 157), cutM ((s.take 500).drop 345)⟩, 0)
theorem seg {a m t s : List UInt8} {i j : Nat} (hs : s = a ++ (m ++ t)) (hi : a.length = i) (hj : i + m.length = j) : (s.take j).drop i = m := by
  subst hs; subst hi; subst hj
  rw [List.take_append, List.take_of_length_le (by omega), Nat.add_sub_cancel_left, List.take_append, List.take_of_length_le (Nat.le_refl _), Nat.sub_self, List.take_zero, List.append_nil, List.drop_left]
theorem getD_mid {a t : List UInt8} {x : UInt8} {i : Nat} (h : a.length = i) : (a ++ x :: t).getD i 0 = x := by
  subst h
  simp [List.getD_eq_getElem?_getD]
theorem puts_fit : ∀ {l : List (Nat × Nat)} {a : List UInt8}, (putsM l a).2 = 0 → (∀ x ∈ l, (putM x.1 x.2).2 = 0) ∧ (putsM l a).1 = a ++ (l.map fun x => (putM x.1 x.2).1).flatten
  | [], a, _ => ⟨fun x h => by simp at h, by simp [putsM]⟩
  | (n, w) :: r, a, h => by
    unfold putsM at h ⊢
    by_cases e : (putM n w).2 = 0
    · rw [if_pos e] at h ⊢
      obtain ⟨h1, h2⟩ := puts_fit h
      refine ⟨fun x hx => ?_, by rw [h2]; simp⟩
      rcases List.mem_cons.1 hx with rfl | hx
      · exact e
      · exact h1 x hx
    · rw [if_neg e] at h; exact absurd h e
structure Hdr.Fit (h : Hdr) : Prop where
  mode : 0 ≤ h.mode ∧ h.mode < 9223372036854775808
  uid : 0 ≤ h.uid ∧ h.uid < 9223372036854775808
  gid : 0 ≤ h.gid ∧ h.gid < 9223372036854775808
  size : 0 ≤ h.size ∧ h.size < 9223372036854775808
  time : 0 ≤ h.time ∧ h.time < 9223372036854775808
theorem enc_form {h : Hdr} (he : (encM h).2 = 0) : fitsB h.name 100 = true ∧ fitsB h.link 100 = true ∧ fitsB h.pre 155 = true ∧ (∀ x ∈ h.nums, (putM x.1 x.2).2 = 0) ∧
    ∃ c : List UInt8, c = octD 6 (sumM (encM h).1) ++ [0, 32] ∧ (encM h).1 = padM h.name 100 ++ ((putM h.mode.toNat 8).1 ++ ((putM h.uid.toNat 8).1 ++ ((putM h.gid.toNat 8).1 ++ ((putM h.size.toNat 12).1 ++ ((putM h.time.toNat 12).1 ++ (c ++ tailM h)))))) ∧ sumM (encM h).1 < 8 ^ 6 ∧ (encM h).1.length = 512 := by
  unfold encM at he
  by_cases e1 : ¬ (fitsB h.name 100 = true ∧ fitsB h.link 100 = true ∧ fitsB h.pre 155 = true)
  · rw [if_pos e1] at he; simp at he
  rw [if_neg e1] at he
  have e1' := Decidable.not_not.1 e1
  by_cases e2 : ¬ (putsM h.nums (padM h.name 100)).2 = 0
  · rw [if_pos e2] at he; exact absurd he e2
  have e2' := Decidable.not_not.1 e2
  obtain ⟨h1, h2⟩ := puts_fit e2'
  have hn : (padM h.name 100).length = 100 := padM_len (by have := e1'.1; unfold fitsB at this; simp at this; exact this.1)
  have hl : (padM h.link 100).length = 100 := padM_len (by have := e1'.2.1; unfold fitsB at this; simp at this; exact this.1)
  have hp : (padM h.pre 155).length = 155 := padM_len (by have := e1'.2.2; unfold fitsB at this; simp at this; exact this.1)
  have q1 := putM_len (n := h.mode.toNat) (w := 8) (by omega) (h1 (h.mode.toNat, 8) (by simp [Hdr.nums]))
  have q2 := putM_len (n := h.uid.toNat) (w := 8) (by omega) (h1 (h.uid.toNat, 8) (by simp [Hdr.nums]))
  have q3 := putM_len (n := h.gid.toNat) (w := 8) (by omega) (h1 (h.gid.toNat, 8) (by simp [Hdr.nums]))
  have q4 := putM_len (n := h.size.toNat) (w := 12) (by omega) (h1 (h.size.toNat, 12) (by simp [Hdr.nums]))
  have q5 := putM_len (n := h.time.toNat) (w := 12) (by omega) (h1 (h.time.toNat, 12) (by simp [Hdr.nums]))
  have ht : (tailM h).length = 356 := by simp [tailM, hl, hp, magM]
  have hf : (encM h).1 = (putsM h.nums (padM h.name 100)).1 ++ (octD 6 (sumM ((putsM h.nums (padM h.name 100)).1 ++ (List.replicate 8 0 ++ tailM h))) ++ ([0, 32] ++ tailM h)) := by
    unfold encM
    rw [if_neg e1, if_neg e2]
  have hP : (putsM h.nums (padM h.name 100)).1 = padM h.name 100 ++ ((putM h.mode.toNat 8).1 ++ ((putM h.uid.toNat 8).1 ++ ((putM h.gid.toNat 8).1 ++ ((putM h.size.toNat 12).1 ++ (putM h.time.toNat 12).1)))) := by
    rw [h2]; simp [Hdr.nums]
  have hPl : (putsM h.nums (padM h.name 100)).1.length = 148 := by rw [hP]; simp [hn, q1, q2, q3, q4, q5]
  generalize (putsM h.nums (padM h.name 100)).1 = P at *
  have hsum : ∀ d : List UInt8, d.length = 8 → sumM (P ++ (d ++ tailM h)) = sumM (P ++ (List.replicate 8 0 ++ tailM h)) := by
    intro d hd
    unfold sumM
    rw [if_pos (by simp [hPl, ht, hd]), if_pos (by simp [hPl, ht]), sumL_app, sumL_app, sumL_app P, sumL_app _ (tailM h), hPl, sumL_own d (List.replicate 8 0) _ (by simp [hd]) (by omega) (by omega), hd, List.length_replicate]
  have hc8 : (octD 6 (sumM (P ++ (List.replicate 8 0 ++ tailM h))) ++ [0, 32]).length = 8 := by simp [octD_len]
  have hS := hsum _ hc8
  have hf2 : (encM h).1 = P ++ ((octD 6 (sumM (P ++ (List.replicate 8 0 ++ tailM h))) ++ [0, 32]) ++ tailM h) := by rw [hf]; simp
  rw [← hf2] at hS
  refine ⟨e1'.1, e1'.2.1, e1'.2.2, h1, _, rfl, ?_, ?_, ?_⟩
  · rw [hS, hf2, hP]; simp
  · have : sumM (encM h).1 ≤ 255 * 512 := by
      unfold sumM
      split
      · rename_i e; have := sumL_le (encM h).1 0; omega
      · omega
    have : (8 : Nat) ^ 6 = 262144 := by decide
    omega
  · rw [hf2]; simp [hPl, ht, octD_len]
theorem dec_enc {h : Hdr} (hf : h.Fit) (he : (encM h).2 = 0) : decM (encM h).1 = (h, 0) := by
  obtain ⟨f1, f2, f3, hp, c, hc, hs, hS, hl⟩ := enc_form he
  have p1 : (putM h.mode.toNat 8).2 = 0 := hp (h.mode.toNat, 8) (by simp [Hdr.nums])
  have p2 : (putM h.uid.toNat 8).2 = 0 := hp (h.uid.toNat, 8) (by simp [Hdr.nums])
  have p3 : (putM h.gid.toNat 8).2 = 0 := hp (h.gid.toNat, 8) (by simp [Hdr.nums])
  have p4 : (putM h.size.toNat 12).2 = 0 := hp (h.size.toNat, 12) (by simp [Hdr.nums])
  have p5 : (putM h.time.toNat 12).2 = 0 := hp (h.time.toNat, 12) (by simp [Hdr.nums])
  have q1 := putM_len (by omega) p1
  have q2 := putM_len (by omega) p2
  have q3 := putM_len (by omega) p3
  have q4 := putM_len (by omega) p4
  have q5 := putM_len (by omega) p5
  have g1 := get_put (by omega) (by omega) (by have := hf.mode; omega) p1
  have g2 := get_put (by omega) (by omega) (by have := hf.uid; omega) p2
  have g3 := get_put (by omega) (by omega) (by have := hf.gid; omega) p3
  have g4 := get_put (by omega) (by omega) (by have := hf.size; omega) p4
  have g5 := get_put (by omega) (by omega) (by have := hf.time; omega) p5
  have hn : (padM h.name 100).length = 100 := padM_len (by have := f1; unfold fitsB at this; simp at this; exact this.1)
  have hk : (padM h.link 100).length = 100 := padM_len (by have := f2; unfold fitsB at this; simp at this; exact this.1)
  have hr : (padM h.pre 155).length = 155 := padM_len (by have := f3; unfold fitsB at this; simp at this; exact this.1)
  have hcl : c.length = 8 := by rw [hc]; simp [octD_len]
  have hcg : getM c = (sumM (encM h).1, 0) := by rw [hc]; exact getM_oct (by omega) (by omega) hS rfl
  clear hc
  generalize (encM h).1 = s at *
  generalize (putM h.mode.toNat 8).1 = a1 at *
  generalize (putM h.uid.toNat 8).1 = a2 at *
  generalize (putM h.gid.toNat 8).1 = a3 at *
  generalize (putM h.size.toNat 12).1 = a4 at *
  generalize (putM h.time.toNat 12).1 = a5 at *
  have t0 : s.take 100 = padM h.name 100 := by rw [hs, List.take_append, List.take_of_length_le (by omega), hn, Nat.sub_self, List.take_zero, List.append_nil]
  have t1 : (s.take (100 + 8)).drop 100 = a1 := seg hs hn (by omega)
  have t2 : (s.take (100 + 8 + 8)).drop (100 + 8) = a2 := seg (a := padM h.name 100 ++ a1) (t := a3 ++ (a4 ++ (a5 ++ (c ++ tailM h)))) (by rw [hs]; simp) (by simp; omega) (by omega)
  have t3 : (s.take (100 + 8 + 8 + 8)).drop (100 + 8 + 8) = a3 := seg (a := padM h.name 100 ++ (a1 ++ a2)) (t := a4 ++ (a5 ++ (c ++ tailM h))) (by rw [hs]; simp) (by simp; omega) (by omega)
  have t4 : (s.take (100 + 8 + 8 + 8 + 12)).drop (100 + 8 + 8 + 8) = a4 := seg (a := padM h.name 100 ++ (a1 ++ (a2 ++ a3))) (t := a5 ++ (c ++ tailM h)) (by rw [hs]; simp) (by simp; omega) (by omega)
  have t5 : (s.take (100 + 8 + 8 + 8 + 12 + 12)).drop (100 + 8 + 8 + 8 + 12) = a5 := seg (a := padM h.name 100 ++ (a1 ++ (a2 ++ (a3 ++ a4)))) (t := c ++ tailM h) (by rw [hs]; simp) (by simp; omega) (by omega)
  have t6 : (s.take 156).drop 148 = c := seg (a := padM h.name 100 ++ (a1 ++ (a2 ++ (a3 ++ (a4 ++ a5))))) (t := tailM h) (by rw [hs]; simp) (by simp; omega) (by omega)
  have t7 : (s.take 257).drop 157 = padM h.link 100 := seg (a := padM h.name 100 ++ (a1 ++ (a2 ++ (a3 ++ (a4 ++ (a5 ++ (c ++ [h.flag]))))))) (t := magM ++ (List.replicate 80 0 ++ (padM h.pre 155 ++ List.replicate 12 0))) (by rw [hs]; simp [tailM]) (by simp; omega) (by omega)
  have t8 : (s.take 265).drop 257 = magM := seg (a := padM h.name 100 ++ (a1 ++ (a2 ++ (a3 ++ (a4 ++ (a5 ++ (c ++ (h.flag :: padM h.link 100)))))))) (t := List.replicate 80 0 ++ (padM h.pre 155 ++ List.replicate 12 0)) (by rw [hs]; simp [tailM]) (by simp; omega) (by simp [magM])
  have t9 : (s.take 500).drop 345 = padM h.pre 155 := seg (a := padM h.name 100 ++ (a1 ++ (a2 ++ (a3 ++ (a4 ++ (a5 ++ (c ++ (h.flag :: (padM h.link 100 ++ (magM ++ List.replicate 80 0)))))))))) (t := List.replicate 12 0) (by rw [hs]; simp [tailM]) (by simp [magM]; omega) (by omega)
  have tf : s.getD 156 0 = h.flag := by
    rw [show s = (padM h.name 100 ++ (a1 ++ (a2 ++ (a3 ++ (a4 ++ (a5 ++ c)))))) ++ h.flag :: (padM h.link 100 ++ (magM ++ (List.replicate 80 0 ++ (padM h.pre 155 ++ List.replicate 12 0)))) by rw [hs]; simp [tailM]]
    exact getD_mid (by simp; omega)
  have hg : getsM s widM 100 [] = ([h.mode.toNat, h.uid.toNat, h.gid.toNat, h.size.toNat, h.time.toNat], 0) := by
    simp only [widM, getsM, t1, t2, t3, t4, t5, g1, g2, g3, g4, g5, if_true, List.nil_append, List.cons_append]
  unfold decM
  rw [if_neg (by simp [hl, t8]), t6, hcg, if_neg (by simp), if_neg (by simp), hg, if_neg (by simp), t0, t7, t9, tf, cut_pad f1, cut_pad f2, cut_pad f3]
  have := hf.mode; have := hf.uid; have := hf.gid; have := hf.size; have := hf.time
  simp only [List.getD_cons_zero, List.getD_cons_succ]
  rw [Int.toNat_of_nonneg (by omega), Int.toNat_of_nonneg (by omega), Int.toNat_of_nonneg (by omega), Int.toNat_of_nonneg (by omega), Int.toNat_of_nonneg (by omega)]
end Go.Proofs.YtikmkgoeepgbkaaGreatDoor.Ev
