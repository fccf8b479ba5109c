/- Archives: what is written is read, and no beginning of it. -/
import Derived.Test.YtikmkgoeepgbkaaGreatDoorTq
set_option linter.all false
namespace Go.Proofs.YtikmkgoeepgbkaaGreatDoor.Ev
open Go.RowKit
open Go.Proofs.YtikmkgoeepgbkaaGreatDoor.Mem
set_option linter.unusedVariables false
set_option linter.unusedSimpArgs false
set_option maxRecDepth 100000
theorem go_pos {r r2 : Rdr} (h : Go1 r r2) : r2.text = r.text ∧ r.pos + 512 ≤ r2.pos ∧ r.pos + 512 ≤ r.text.length := by
  have hp := step_pos (r := r) (by rw [h]) (by rw [h])
  rw [h] at hp
  refine ⟨hp.1, hp.2, ?_⟩
  by_cases e : r.text.length < r.pos + 512
  · exfalso
    have hb : blockM r = ([], 2, r) := if_pos e
    unfold Go1 stepM at h
    rw [hb, if_pos (by simp)] at h
    simp at h
  · omega
/-- Fuel enough. -/
def Fu (k : Nat) (r : Rdr) : Prop := r.text.length - r.pos < k
theorem read_go {r r2 : Rdr} (h : Go1 r r2) {k : Nat} (hk : Fu k r) : ∃ j, Fu j r2 ∧ readL k r = readL j r2 := by
  obtain ⟨h1, h2, h3⟩ := go_pos h
  unfold Fu at *
  obtain ⟨j, rfl⟩ : ∃ j, k = j + 1 := ⟨k - 1, by omega⟩
  refine ⟨j, by rw [h1]; omega, ?_⟩
  rw [readL, h, if_neg (by simp), if_neg (by simp)]
structure Wr (m : Mbr) : Prop where
  chk : tchkM m = 0
  mem : (memM m).2 = 0
  time : m.time < 9223372036854775808
theorem Wr.parts {m : Mbr} (h : Wr m) : (moreM m).2 = 0 ∧ (blksM (hdrM m) m.data).2 = 0 ∧ (memM m).1 = (moreM m).1 ++ (blksM (hdrM m) m.data).1 := by
  have h2 := h.mem
  unfold memM at h2 ⊢
  by_cases e : ¬ (moreM m).2 = 0
  · rw [if_pos e] at h2; exact absurd h2 e
  · rw [if_neg e] at h2 ⊢
    exact ⟨Decidable.not_not.1 e, h2, rfl⟩
/-- A member is read in one step or in two. -/
theorem mem_gos {m : Mbr} {r : Rdr} {pre post : List UInt8} (hb : Bet r) (hw : Wr m) (ht : r.text = pre ++ ((memM m).1 ++ post)) (hp : pre.length = r.pos) (hm : r.mem.length < 64) :
    ∃ r1, (r1 = r ∨ Go1 r r1) ∧ Go1 r1 { r with pos := r.pos + (memM m).1.length, mem := r.mem ++ [m] } := by
  obtain ⟨h1, h2, h3⟩ := hw.parts
  have hok := MOk.of hw.chk
  rw [h3] at ht ⊢
  have hend : ∀ n, ({ r with pos := n, next := [], has := false, mem := r.mem ++ [m] } : Rdr) = { r with pos := n, mem := r.mem ++ [m] } := fun n => by
    have e1 := hb.next
    have e2 := hb.has
    cases r
    simp at e1 e2
    simp [e1, e2]
  by_cases he : extrM m = []
  · have hm0 : (moreM m).1 = [] := by unfold moreM; rw [if_pos he]
    rw [hm0] at ht ⊢
    have := memb_step (pre := pre) (post := post) hb.all (hb.next.trans he.symm) hok hw.time hw.chk h2 (by rw [ht]; simp) hp hm
    rw [hend] at this
    exact ⟨r, .inl rfl, by simpa using this⟩
  · have g1 := more_step hb he h1 (post := (blksM (hdrM m) m.data).1 ++ post) (by rw [ht]; simp) hp
    have g2 := memb_step (r := { r with pos := r.pos + (moreM m).1.length, next := extrM m, has := true }) (pre := pre ++ (moreM m).1) (post := post) hb.all rfl hok hw.time hw.chk h2 (by rw [ht]; simp) (by simp; omega) hm
    refine ⟨_, .inr g1, ?_⟩
    have e := hend (r.pos + (moreM m).1.length + (blksM (hdrM m) m.data).1.length)
    rw [List.length_append, ← Nat.add_assoc, ← e]
    exact g2
def flatM (l : List Mbr) : List UInt8 := (l.map fun m => (memM m).1).flatten
theorem flat_cons (m : Mbr) (l : List Mbr) : flatM (m :: l) = (memM m).1 ++ flatM l := by simp [flatM]
theorem flat_app (a b : List Mbr) : flatM (a ++ b) = flatM a ++ flatM b := by simp [flatM]
theorem all_gos : ∀ (l : List Mbr) (r : Rdr) (pre post : List UInt8), Bet r → (∀ m ∈ l, Wr m) → r.text = pre ++ (flatM l ++ post) → pre.length = r.pos → r.mem.length + l.length ≤ 64 → ∀ k, Fu k r →
    ∃ j, Fu j { r with pos := r.pos + (flatM l).length, mem := r.mem ++ l } ∧ readL k r = readL j { r with pos := r.pos + (flatM l).length, mem := r.mem ++ l }
  | [], r, pre, post, _, _, _, _, _, k, hk => ⟨k, by simpa [flatM] using hk, by simp [flatM]⟩
  | m :: l, r, pre, post, hb, hw, ht, hp, hm, k, hk => by
    rw [flat_cons] at ht
    simp at hm
    obtain ⟨r1, g1, g2⟩ := mem_gos hb (hw m (by simp)) (post := flatM l ++ post) (by rw [ht]; simp) hp (by omega)
    obtain ⟨k1, f1, e1⟩ : ∃ k1, Fu k1 r1 ∧ readL k r = readL k1 r1 := by
      rcases g1 with rfl | g1
      · exact ⟨k, hk, rfl⟩
      · exact read_go g1 hk
    obtain ⟨k2, f2, e2⟩ := read_go g2 f1
    obtain ⟨k3, f3, e3⟩ := all_gos l { r with pos := r.pos + (memM m).1.length, mem := r.mem ++ [m] } (pre ++ (memM m).1) post ⟨hb.all, hb.next, hb.has⟩ (fun x hx => hw x (by simp [hx])) (by dsimp only; rw [ht]; simp) (by simp; omega) (by simp; omega) k2 f2
    refine ⟨k3, ?_, ?_⟩
    · rw [flat_cons]
      simpa [Nat.add_assoc] using f3
    · rw [e1, e2, e3, flat_cons]
      simp [Nat.add_assoc]
theorem end_step {r : Rdr} {pre : List UInt8} {e : Nat} (hb : Bet r) (ht : r.text = pre ++ List.replicate (1024 + e) 0) (hp : pre.length = r.pos) : (stepM r).1 = true ∧ (stepM r).2.1 = 0 ∧ (stepM r).2.2.mem = r.mem := by
  have ht1 : r.text = pre ++ (List.replicate 512 0 ++ (List.replicate 512 0 ++ List.replicate e 0)) := by
    rw [ht]
    congr 1
    rw [← List.append_assoc, List.replicate_append_replicate, List.replicate_append_replicate]
  have b1 := block_at ht1 hp (by simp)
  have b2 := block_at (r := { r with pos := r.pos + 512 }) (pre := pre ++ List.replicate 512 0) (b := List.replicate 512 0) (post := List.replicate e 0) (by rw [ht1]; simp) (by simp; omega) (by simp)
  have hz : blnkH (List.replicate 512 0) = true := decide_eq_true rfl
  have hd : r.text.drop (r.pos + 512 + 512) = List.replicate e 0 := by
    rw [show r.text = (pre ++ (List.replicate 512 0 ++ List.replicate 512 0)) ++ List.replicate e 0 by rw [ht1]; simp, List.drop_left' (by simp; omega)]
  unfold stepM
  rw [b1]
  dsimp only
  rw [if_neg (by simp), if_pos hz]
  unfold endM
  rw [b2]
  dsimp only
  rw [hd, blank_rep, hz, hb.has, if_neg (by simp)]
  exact ⟨rfl, rfl, rfl⟩
theorem read_written {l : List Mbr} {e : Nat} (hw : ∀ m ∈ l, Wr m) (hl : l.length ≤ 64) (hlen : (flatM l).length + 1024 + e ≤ 2097152) : readM (flatM l ++ List.replicate (1024 + e) 0) = (l, 0) := by
  have hlen2 : (flatM l ++ List.replicate (1024 + e) (0 : UInt8)).length = (flatM l).length + 1024 + e := by simp; omega
  unfold readM
  rw [if_neg (by omega)]
  obtain ⟨j, f, h⟩ := all_gos l (rdr0 (flatM l ++ List.replicate (1024 + e) 0)) [] (List.replicate (1024 + e) 0) ⟨rfl, rfl, rfl⟩ hw (by simp [rdr0]) rfl (by simpa [rdr0] using hl) ((flatM l ++ List.replicate (1024 + e) (0 : UInt8)).length + 1) (by unfold Fu rdr0; dsimp only; omega)
  rw [h]
  obtain ⟨j, rfl⟩ : ∃ i, j = i + 1 := ⟨j - 1, by unfold Fu at f; omega⟩
  obtain ⟨s1, s2, s3⟩ := end_step (r := { rdr0 (flatM l ++ List.replicate (1024 + e) 0) with pos := (rdr0 (flatM l ++ List.replicate (1024 + e) 0)).pos + (flatM l).length, mem := (rdr0 (flatM l ++ List.replicate (1024 + e) 0)).mem ++ l }) (pre := flatM l) (e := e) ⟨rfl, rfl, rfl⟩ rfl (by simp [rdr0])
  rw [readL, s2, if_neg (by simp), s1, if_pos rfl, s3]
  simp [rdr0]
/-! ### Beginnings -/
def Rdr.tr (r : Rdr) (K : Nat) : Rdr := { r with text := r.text.take K }
theorem block_tr {r : Rdr} {K : Nat} (h : (blockM r).2.1 = 0) : (r.pos + 512 ≤ K → blockM (r.tr K) = ((blockM r).1, 0, (blockM r).2.2.tr K)) ∧ (K < r.pos + 512 → (blockM (r.tr K)).2.1 = 2) := by
  unfold blockM at h ⊢
  split at h
  · simp at h
  · rename_i e
    rw [if_neg e]
    constructor
    · intro hK
      rw [if_neg (by simp [Rdr.tr]; omega)]
      simp [Rdr.tr, List.take_take, Nat.min_eq_left hK]
    · intro hK
      rw [if_pos (by simp [Rdr.tr]; omega)]
theorem bytes_tr {r : Rdr} {n K : Nat} (h : (bytesM r n).2.1 = 0) : ((bytesM r n).2.2.pos ≤ K → bytesM (r.tr K) n = ((bytesM r n).1, 0, (bytesM r n).2.2.tr K)) ∧ (K < (bytesM r n).2.2.pos → (bytesM (r.tr K) n).2.1 = 2) := by
  unfold bytesM at h ⊢
  split at h
  · simp at h
  · rename_i e
    rw [if_neg e]
    dsimp only
    have e1 : ¬ r.text.length < r.pos + n + fillN n := fun h => e (.inl h)
    have e2 : ¬ blankZ ((r.text.take (r.pos + n + fillN n)).drop (r.pos + n)) = false := fun h => e (.inr h)
    constructor
    · intro hK
      have t1 : (r.tr K).text.take (r.pos + n + fillN n) = r.text.take (r.pos + n + fillN n) := by simp [Rdr.tr, List.take_take, Nat.min_eq_left hK]
      have t2 : (r.tr K).text.take (r.pos + n) = r.text.take (r.pos + n) := by simp [Rdr.tr, List.take_take, Nat.min_eq_left (show r.pos + n ≤ K by omega)]
      have t3 : (r.tr K).pos = r.pos := rfl
      rw [t3, t1, t2, if_neg]
      · rfl
      · rintro (h | h)
        · simp [Rdr.tr] at h; omega
        · exact e2 h
    · intro hK
      rw [if_pos (.inl (by simp [Rdr.tr]; omega))]
theorem recs_tr {r r1 : Rdr} {h : Hdr} {K : Nat} (hr : recsM r h = (0, r1)) : (r1.pos ≤ K → recsM (r.tr K) h = (0, r1.tr K)) ∧ (K < r1.pos → ¬ (recsM (r.tr K) h).1 = 0) := by
  unfold recsM at hr ⊢
  by_cases a : 1048576 < h.size
  · rw [if_pos a] at hr; simp at hr
  rw [if_neg a] at hr ⊢
  by_cases b : ¬ (bytesM r h.size.toNat).2.1 = 0
  · rw [if_pos b] at hr
    exact absurd (congrArg Prod.fst hr) b
  rw [if_neg b] at hr
  obtain ⟨t1, t2⟩ := bytes_tr (K := K) (Decidable.not_not.1 b)
  generalize bytesM r h.size.toNat = w at hr t1 t2
  obtain ⟨w1, w2, w3⟩ := w
  dsimp only at hr t1 t2
  have hpos : r1.pos = w3.pos := by
    split at hr
    · simp at hr
    · split at hr
      · rename_i e; exact absurd (congrArg Prod.fst hr) e
      · split at hr
        · have hr2 := congrArg Prod.snd hr
          dsimp only at hr2
          rw [← hr2]
        · have hr2 := congrArg Prod.snd hr
          dsimp only at hr2
          rw [← hr2]
  rw [hpos]
  constructor
  · intro hK
    rw [t1 hK]
    dsimp only
    rw [if_neg (by simp)]
    have e1 : (w3.tr K).has = w3.has := rfl
    have e2 : (w3.tr K).all = w3.all := rfl
    rw [e1, e2]
    by_cases c : h.flag = 120 ∧ w3.has = true
    · rw [if_pos c] at hr; simp at hr
    rw [if_neg c] at hr ⊢
    by_cases d : ¬ (decPM w1).2 = 0
    · rw [if_pos d] at hr; exact absurd (congrArg Prod.fst hr) d
    rw [if_neg d] at hr ⊢
    by_cases f : h.flag = 103
    · rw [if_pos f] at hr ⊢
      have hr2 := congrArg Prod.snd hr
      dsimp only at hr2
      rw [← hr2]
      rfl
    · rw [if_neg f] at hr ⊢
      have hr2 := congrArg Prod.snd hr
      dsimp only at hr2
      rw [← hr2]
      rfl
  · intro hK
    have := t2 hK
    rw [if_pos (by rw [this]; decide)]
    dsimp only
    rw [this]
    decide
theorem data_tr {r : Rdr} {h : Hdr} {k : Int} {n : Nts} {K : Nat} (hd : (dataM r h k n).2.1 = 0) (hK0 : r.pos ≤ K) : ((dataM r h k n).2.2.pos ≤ K → dataM (r.tr K) h k n = ((dataM r h k n).1, 0, (dataM r h k n).2.2.tr K)) ∧ (K < (dataM r h k n).2.2.pos → ¬ (dataM (r.tr K) h k n).2.1 = 0) := by
  unfold dataM at hd ⊢
  by_cases a : ¬ k = 1
  · rw [if_pos a, if_pos a]
    exact ⟨fun _ => rfl, fun hK => by dsimp only at hK; omega⟩
  rw [if_neg a] at hd
  rw [if_neg a, if_neg a]
  by_cases b : ¬ (numbM n.size h.size).2 = 0
  · rw [if_pos b] at hd; exact absurd hd b
  rw [if_neg b] at hd
  rw [if_neg b, if_neg b]
  by_cases c : 1048576 < (numbM n.size h.size).1
  · rw [if_pos c] at hd; simp at hd
  rw [if_neg c] at hd
  rw [if_neg c, if_neg c]
  obtain ⟨t1, t2⟩ := bytes_tr (K := K) hd
  exact ⟨t1, fun hK => by rw [t2 hK]; decide⟩
theorem memb_tr {r r1 : Rdr} {h : Hdr} {K : Nat} (hr : membM r h = (0, r1)) (hK0 : r.pos ≤ K) : (r1.pos ≤ K → membM (r.tr K) h = (0, r1.tr K)) ∧ (K < r1.pos → ¬ (membM (r.tr K) h).1 = 0) := by
  unfold membM at hr ⊢
  have eb : (r.tr K).bare = r.bare.tr K := rfl
  have en : (r.tr K).nts = r.nts := rfl
  rw [eb, en]
  by_cases a : ¬ (kindM h.flag).2 = 0
  · rw [if_pos a] at hr; exact absurd (congrArg Prod.fst hr) a
  rw [if_neg a] at hr ⊢
  by_cases b : ¬ (dataM r.bare h (kindM h.flag).1 r.nts).2.1 = 0
  · rw [if_pos b] at hr; exact absurd (congrArg Prod.fst hr) b
  rw [if_neg b] at hr
  obtain ⟨t1, t2⟩ := data_tr (K := K) (Decidable.not_not.1 b) hK0
  generalize dataM r.bare h (kindM h.flag).1 r.nts = w at hr t1 t2
  obtain ⟨w1, w2, w3⟩ := w
  dsimp only at hr t1 t2
  by_cases c1 : ¬ (numbM r.nts.uid h.uid).2 = 0
  · rw [if_pos c1] at hr; exact absurd (congrArg Prod.fst hr) c1
  rw [if_neg c1] at hr
  by_cases c2 : ¬ (numbM r.nts.gid h.gid).2 = 0
  · rw [if_pos c2] at hr; exact absurd (congrArg Prod.fst hr) c2
  rw [if_neg c2] at hr
  by_cases c3 : ¬ (numbM r.nts.time h.time).2 = 0
  · rw [if_pos c3] at hr; exact absurd (congrArg Prod.fst hr) c3
  rw [if_neg c3] at hr
  unfold putR at hr ⊢
  by_cases c4 : ¬ tchkM (mbrM h (kindM h.flag).1 r.nts w1) = 0
  · rw [if_pos c4] at hr; exact absurd (congrArg Prod.fst hr) c4
  rw [if_neg c4] at hr
  by_cases c5 : 64 ≤ w3.mem.length
  · rw [if_pos c5] at hr; simp at hr
  rw [if_neg c5] at hr
  have hr := congrArg Prod.snd hr
  dsimp only at hr
  rw [← hr]
  constructor
  · intro hK
    have hK : w3.pos ≤ K := hK
    rw [t1 hK]
    dsimp only
    rw [if_neg (by simp), if_neg c1, if_neg c2, if_neg c3, if_neg c4, if_neg (show ¬ 64 ≤ (w3.tr K).mem.length from c5)]
    rfl
  · intro hK
    have hK : K < w3.pos := hK
    have := t2 hK
    rw [if_pos this]
    exact this
theorem step_tr {r r1 : Rdr} {K : Nat} (h : Go1 r r1) : (r1.pos ≤ K → Go1 (r.tr K) (r1.tr K)) ∧ (K < r1.pos → ¬ (stepM (r.tr K)).2.1 = 0) := by
  have hp := go_pos h
  have hb0 : (blockM r).2.1 = 0 := by unfold blockM; rw [if_neg (by omega)]
  have hbp : (blockM r).2.2.pos = r.pos + 512 := by unfold blockM; rw [if_neg (by omega)]
  obtain ⟨t1, t2⟩ := block_tr (K := K) hb0
  by_cases hK : K < r.pos + 512
  · refine ⟨fun h => by omega, fun _ => ?_⟩
    have := t2 hK
    unfold stepM
    rw [if_pos (by rw [this]; decide)]
    dsimp only
    rw [this]
    decide
  have t1 := t1 (by omega)
  unfold Go1 stepM at h
  unfold Go1 stepM
  rw [t1]
  dsimp only
  rw [if_neg (by simp [hb0])] at h
  rw [if_neg (by simp)]
  generalize blockM r = b at h hbp t1 ⊢
  obtain ⟨b1, b2, b3⟩ := b
  dsimp only at h hbp ⊢
  by_cases c : blnkH b1 = true
  · rw [if_pos c] at h; simp at h
  rw [if_neg c] at h ⊢
  by_cases d : ¬ (decM b1).2 = 0
  · rw [if_pos d] at h
    exact absurd (congrArg (fun x => x.2.1) h) d
  rw [if_neg d] at h ⊢
  by_cases e : (decM b1).1.flag = 120 ∨ (decM b1).1.flag = 103
  · rw [if_pos e] at h ⊢
    have h2 : recsM b3 (decM b1).1 = (0, r1) := congrArg Prod.snd h
    obtain ⟨u1, u2⟩ := recs_tr (K := K) h2
    exact ⟨fun hK => by rw [u1 hK], u2⟩
  · rw [if_neg e] at h ⊢
    have h2 : membM b3 (decM b1).1 = (0, r1) := congrArg Prod.snd h
    obtain ⟨u1, u2⟩ := memb_tr (K := K) h2 (by omega)
    exact ⟨fun hK => by rw [u1 hK], u2⟩
theorem read_err {r : Rdr} (h : ¬ (stepM r).2.1 = 0) : ∀ k, ¬ (readL k r).2 = 0
  | 0 => by unfold readL; decide
  | k + 1 => by unfold readL; rw [if_pos h]; exact h
theorem read_tr {r r1 : Rdr} {K : Nat} (h : Go1 r r1) (hn : r1.pos ≤ K → ∀ k, ¬ (readL k (r1.tr K)).2 = 0) : ∀ k, ¬ (readL k (r.tr K)).2 = 0 := by
  obtain ⟨t1, t2⟩ := step_tr (K := K) h
  by_cases hK : r1.pos ≤ K
  · intro k
    cases k with
    | zero => unfold readL; decide
    | succ k =>
      rw [readL, t1 hK, if_neg (by simp), if_neg (by simp)]
      exact hn hK k
  · exact read_err (t2 (by omega))
theorem cut_all : ∀ (l : List Mbr) (r : Rdr) (pre : List UInt8) (K : Nat), Bet r → (∀ m ∈ l, Wr m) → r.text = pre ++ (flatM l ++ List.replicate 1024 0) → pre.length = r.pos → r.mem.length + l.length ≤ 64 → K < r.text.length → ∀ k, ¬ (readL k (r.tr K)).2 = 0
  | [], r, pre, K, hb, _, ht, hp, _, hK => by
    have hl : r.text.length = r.pos + 1024 := by rw [ht]; simp [flatM]; omega
    have b1 := block_at (r := r) (pre := pre) (b := List.replicate 512 0) (post := List.replicate 512 0) (by rw [ht, List.replicate_append_replicate]; simp [flatM]) hp (by simp)
    obtain ⟨t1, t2⟩ := block_tr (K := K) (r := r) (by rw [b1])
    refine read_err ?_
    unfold stepM
    by_cases hK5 : K < r.pos + 512
    · have := t2 hK5
      rw [if_pos (by rw [this]; decide)]
      dsimp only
      rw [this]
      decide
    · rw [t1 (by omega), b1]
      dsimp only
      rw [if_neg (by simp), if_pos (show blnkH (List.replicate 512 0) = true from decide_eq_true rfl)]
      have hz : blockM (({ r with pos := r.pos + 512 } : Rdr).tr K) = ([], 2, ({ r with pos := r.pos + 512 } : Rdr).tr K) := by
        unfold blockM
        rw [if_pos (by simp [Rdr.tr]; omega)]
      unfold endM
      rw [hz, if_pos (.inl (show ¬ (2 : Int) = 0 by decide))]
      show ¬ (2 : Int) = 0
      decide
  | m :: l, r, pre, K, hb, hw, ht, hp, hm, hK => by
    rw [flat_cons] at ht
    simp at hm
    obtain ⟨r1, g1, g2⟩ := mem_gos hb (hw m (by simp)) (pre := pre) (post := flatM l ++ List.replicate 1024 0) (by rw [ht]; simp) hp (by omega)
    have key : ∀ k, ¬ (readL k (r1.tr K)).2 = 0 := by
      refine read_tr g2 fun hK2 => ?_
      exact cut_all l { r with pos := r.pos + (memM m).1.length, mem := r.mem ++ [m] } (pre ++ (memM m).1) K ⟨hb.all, hb.next, hb.has⟩ (fun x hx => hw x (by simp [hx])) (by dsimp only; rw [ht]; simp) (by simp; omega) (by simp; omega) hK
    rcases g1 with rfl | g1
    · exact key
    · exact read_tr g1 fun _ => key
theorem read_cut {l : List Mbr} {K : Nat} (hw : ∀ m ∈ l, Wr m) (hl : l.length ≤ 64) (hlen : (flatM l).length + 1024 ≤ 2097152) (hK : K < (flatM l ++ List.replicate 1024 (0 : UInt8)).length) : ¬ (readM ((flatM l ++ List.replicate 1024 0).take K)).2 = 0 := by
  unfold readM
  rw [if_neg (by simp; omega)]
  exact cut_all l (rdr0 (flatM l ++ List.replicate 1024 0)) [] K ⟨rfl, rfl, rfl⟩ hw (by simp [rdr0]) rfl (by simpa [rdr0] using hl) hK _
end Go.Proofs.YtikmkgoeepgbkaaGreatDoor.Ev
