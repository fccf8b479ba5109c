/- Archives: what is written is read. -/
import Derived.Test.YtikmkgoeepgbkaaGreatDoorTs
set_option linter.all false
namespace Go.Proofs.YtikmkgoeepgbkaaGreatDoor.Ev
open Go.RowKit
open Go.Proofs.YtikmkgoeepgbkaaGreatDoor.Mem
set_option linter.unusedVariables false
set_option linter.unusedSimpArgs false
set_option maxRecDepth 100000
theorem blank_rep (k : Nat) : blankZ (List.replicate k 0) = true := by
  unfold blankZ Lib.trimB Lib.trimRightB Lib.trimLeftB
  rw [List.reverse_replicate]
  have h : (List.replicate k (0 : UInt8)).dropWhile (· == 0) = [] := by
    induction k with
    | zero => rfl
    | succ k ih => rw [List.replicate_succ, List.dropWhile_cons, if_pos (by decide), ih]
  rw [h]
  rfl
theorem wrF_fit : ∀ {l : List Mbr} {b : List UInt8}, b.length ≤ 1048576 → (wrF l b).2 = 0 → (∀ m ∈ l, tchkM m = 0 ∧ (memM m).2 = 0) ∧ (wrF l b).1 = b ++ ((l.map fun m => (memM m).1).flatten ++ List.replicate 1024 0) ∧ (b ++ (l.map fun m => (memM m).1).flatten).length ≤ 1048576
  | [], b, hb, _ => ⟨fun m hm => by simp at hm, by simp [wrF], by simpa using hb⟩
  | m :: r, b, hb, h => by
    unfold wrF at h ⊢
    by_cases a : ¬ tchkM m = 0
    · rw [if_pos a] at h; exact absurd h a
    rw [if_neg a] at h ⊢
    by_cases c : ¬ (memM m).2 = 0
    · rw [if_pos c] at h; exact absurd h c
    rw [if_neg c] at h ⊢
    by_cases d : 1048576 < (b ++ (memM m).1).length
    · rw [if_pos d] at h; simp at h
    rw [if_neg d] at h ⊢
    obtain ⟨h1, h2, h3⟩ := wrF_fit (by omega) h
    refine ⟨fun x hx => ?_, by rw [h2]; simp, by simpa using h3⟩
    rcases List.mem_cons.1 hx with rfl | hx
    · exact ⟨Decidable.not_not.1 a, Decidable.not_not.1 c⟩
    · exact h1 x hx
theorem wrF_ok : ∀ {l : List Mbr} {b : List UInt8}, (∀ m ∈ l, tchkM m = 0 ∧ (memM m).2 = 0) → (b ++ (l.map fun m => (memM m).1).flatten).length ≤ 1048576 → wrF l b = (b ++ ((l.map fun m => (memM m).1).flatten ++ List.replicate 1024 0), 0)
  | [], b, _, _ => by simp [wrF]
  | m :: r, b, h, hl => by
    obtain ⟨h1, h2⟩ := h m (by simp)
    unfold wrF
    rw [if_neg (by simp [h1]), if_neg (by simp [h2]), if_neg (by simp at hl ⊢; omega), wrF_ok (fun x hx => h x (by simp [hx])) (by simpa using hl)]
    simp
/-- A block that stands where a reader is. -/
theorem block_at {r : Rdr} {pre b post : List UInt8} (ht : r.text = pre ++ (b ++ post)) (hp : pre.length = r.pos) (hb : b.length = 512) : blockM r = (b, 0, { r with pos := r.pos + 512 }) := by
  unfold blockM
  rw [if_neg (by rw [ht]; simp; omega), seg ht hp (by omega)]
theorem bytes_at {r : Rdr} {pre d post : List UInt8} (ht : r.text = pre ++ (d ++ (List.replicate (fillN d.length) 0 ++ post))) (hp : pre.length = r.pos) : bytesM r d.length = (d, 0, { r with pos := r.pos + d.length + fillN d.length }) := by
  unfold bytesM
  rw [seg (a := pre) (m := d) ht hp rfl, seg (a := pre ++ d) (m := List.replicate (fillN d.length) 0) (t := post) (by rw [ht]; simp) (by simp; omega) (by simp), blank_rep, if_neg]
  rintro (h | h)
  · rw [ht] at h
    simp at h
    omega
  · simp at h
theorem enc_nb {h : Hdr} (hf : h.Fit) (he : (encM h).2 = 0) : blnkH (encM h).1 = false := by
  have hd := dec_enc hf he
  cases hb : blnkH (encM h).1 with
  | false => rfl
  | true =>
    exfalso
    unfold blnkH at hb
    have hb := of_decide_eq_true hb
    rw [hb] at hd
    have : decM (List.replicate 512 0) = (dH, 2) := if_pos (by rintro ⟨_, h⟩; revert h; decide)
    rw [this] at hd
    have := congrArg Prod.snd hd
    simp at this
theorem blks_form {h : Hdr} {d : List UInt8} (hf : h.Fit) (hd : d.length ≤ 1048576) (he : (blksM h d).2 = 0) : ∃ b : List UInt8, b.length = 512 ∧ blnkH b = false ∧ decM b = (h.sized d.length, 0) ∧ (blksM h d).1 = b ++ (d ++ List.replicate (fillN d.length) 0) := by
  have hf2 : (h.sized d.length).Fit := ⟨hf.mode, hf.uid, hf.gid, ⟨by show (0 : Int) ≤ (d.length : Int); omega, by show (d.length : Int) < _; omega⟩, hf.time⟩
  unfold blksM at he ⊢
  by_cases e : ¬ (encM (h.sized d.length)).2 = 0
  · rw [if_pos e] at he; exact absurd he e
  rw [if_neg e]
  have e := Decidable.not_not.1 e
  obtain ⟨_, _, _, _, _, _, _, _, hl⟩ := enc_form e
  exact ⟨_, hl, enc_nb hf2 e, dec_enc hf2 e, rfl⟩
/-- One step of a reader that doesn't end. -/
def Go1 (r r2 : Rdr) : Prop := stepM r = (false, 0, r2)
/-- A reader between two members. -/
structure Bet (r : Rdr) : Prop where
  all : r.all = dNts
  next : r.next = []
  has : r.has = false
theorem dN_of (k : List UInt8) (l : List Pr) (h : (lastM l k).2 = false) : ofM dNt l k = dNt := by unfold ofM; rw [if_neg (by simp [h])]
theorem more_step {m : Mbr} {r : Rdr} {pre post : List UInt8} (hb : Bet r) (he : extrM m ≠ []) (h2 : (moreM m).2 = 0) (ht : r.text = pre ++ ((moreM m).1 ++ post)) (hp : pre.length = r.pos) : Go1 r { r with pos := r.pos + (moreM m).1.length, next := extrM m, has := true } := by
  unfold moreM at h2 ht ⊢
  rw [if_neg he] at h2 ht ⊢
  by_cases e : ¬ (encPF (extrM m) []).2 = 0
  · rw [if_pos e] at h2; exact absurd h2 e
  rw [if_neg e] at h2 ht ⊢
  have e := Decidable.not_not.1 e
  have hl := (encPF_fit e).2.2
  have hdp := decP_enc e
  generalize (encPF (extrM m) []).1 = w at *
  have hmf : moreH.Fit := ⟨by decide, by decide, by decide, by decide, by decide⟩
  obtain ⟨b, b1, b2, b3, b4⟩ := blks_form hmf hl h2
  rw [b4] at ht ⊢
  have hbl := block_at (b := b) (post := w ++ (List.replicate (fillN w.length) 0 ++ post)) (by rw [ht]; simp) hp b1
  have hby := bytes_at (r := { r with pos := r.pos + 512 }) (pre := pre ++ b) (d := w) (post := post) (by rw [ht]; simp) (by simp; omega)
  unfold Go1 stepM
  rw [hbl]
  dsimp only
  rw [if_neg (by simp), if_neg (by simp [b2]), b3]
  dsimp only
  rw [if_neg (by simp), if_pos (.inl rfl)]
  unfold recsM
  have hsz : (moreH.sized w.length).size = (w.length : Int) := rfl
  rw [hsz, if_neg (by omega), Int.toNat_natCast, hby]
  dsimp only
  rw [if_neg (by simp), if_neg (by rw [hb.has]; simp), hdp]
  dsimp only
  rw [if_neg (by simp), if_neg (show ¬ (moreH.sized w.length).flag = 103 by show ¬ (120 : UInt8) = 103; decide)]
  simp [b1]
  omega
theorem kind_flag {k : Int} (h1 : 1 ≤ k) (h2 : k ≤ 4) : kindM (flagM k) = (k, 0) ∧ flagM k ≠ 120 ∧ flagM k ≠ 103 := by
  have : k = 1 ∨ k = 2 ∨ k = 3 ∨ k = 4 := by omega
  rcases this with rfl | rfl | rfl | rfl <;> exact ⟨rfl, by decide, by decide⟩
theorem sp_tail (c : UInt8) : ∀ p : List UInt8, [] ∈ (sp c (p ++ [c])).tail
  | [] => by simp [sp]
  | x :: p => by
    have ih := sp_tail c p
    rw [List.cons_append, sp]
    split
    · exact List.mem_of_mem_tail ih
    · exact ih
theorem nosl {s : List UInt8} (h : (partsM s).2 = 0) : Lib.hasSuffix s [47] = false := by
  cases hs : Lib.hasSuffix s [47] with
  | false => rfl
  | true =>
    exfalso
    obtain ⟨p, rfl⟩ : [47] <:+ s := List.isSuffixOf_iff_suffix.1 hs
    have hm := List.mem_of_mem_tail (sp_tail 47 p)
    unfold partsM at h
    split at h
    · simp at h
    · split at h
      · simp at h
      · rename_i e
        have := List.all_eq_true.1 (Decidable.not_not.1 e) _ hm
        simp [partB] at this
theorem ext_nts (m : Mbr) : takM dNts (extrM m) = ⟨if 100 < m.path.length then ⟨m.path, true⟩ else dNt, if 100 < m.target.length then ⟨m.target, true⟩ else dNt, dNt, dNt, dNt, dNt⟩ := by
  have key : ∀ (a b : Bool), takM dNts ((if a = true then [⟨kPath, m.path⟩] else []) ++ (if b = true then [⟨kLink, m.target⟩] else [])) = ⟨if a = true then ⟨m.path, true⟩ else dNt, if b = true then ⟨m.target, true⟩ else dNt, dNt, dNt, dNt, dNt⟩ := by
    intro a b
    cases a <;> cases b <;> rfl
  have := key (decide (100 < m.path.length)) (decide (100 < m.target.length))
  simp only [decide_eq_true_eq] at this
  exact this
theorem memb_step {m : Mbr} {r : Rdr} {pre post : List UInt8} (hall : r.all = dNts) (hnx : r.next = extrM m) (hok : MOk m) (htm : m.time < 9223372036854775808) (hc : tchkM m = 0) (h2 : (blksM (hdrM m) m.data).2 = 0) (ht : r.text = pre ++ ((blksM (hdrM m) m.data).1 ++ post)) (hp : pre.length = r.pos) (hm : r.mem.length < 64) :
    Go1 r { r with pos := r.pos + (blksM (hdrM m) m.data).1.length, next := [], has := false, mem := r.mem ++ [m] } := by
  obtain ⟨b, b1, b2, b3, b4⟩ := blks_form (hdr_fit hok htm) hok.dl h2
  rw [b4] at ht ⊢
  obtain ⟨k1, k2, k3⟩ := kind_flag hok.kind.1 hok.kind.2
  have hbl := block_at (b := b) (post := m.data ++ (List.replicate (fillN m.data.length) 0 ++ post)) (by rw [ht]; simp) hp b1
  have hnt : (⟨r.text, r.pos + 512, r.all, r.next, r.has, r.mem⟩ : Rdr).nts = ⟨if 100 < m.path.length then ⟨m.path, true⟩ else dNt, if 100 < m.target.length then ⟨m.target, true⟩ else dNt, dNt, dNt, dNt, dNt⟩ := by
    unfold Rdr.nts
    dsimp only
    rw [hall, hnx, ext_nts]
  have hby := bytes_at (r := ⟨r.text, r.pos + 512, r.all, [], false, r.mem⟩) (pre := pre ++ b) (d := m.data) (post := post) (by rw [ht]; simp) (by simp; omega)
  have hdata : dataM (⟨r.text, r.pos + 512, r.all, r.next, r.has, r.mem⟩ : Rdr).bare ((hdrM m).sized m.data.length) m.kind ⟨if 100 < m.path.length then ⟨m.path, true⟩ else dNt, if 100 < m.target.length then ⟨m.target, true⟩ else dNt, dNt, dNt, dNt, dNt⟩ = (m.data, 0, ⟨r.text, r.pos + 512 + m.data.length + fillN m.data.length, r.all, [], false, r.mem⟩) := by
    have hnum : numbM dNt ((hdrM m).sized m.data.length).size = ((m.data.length : Int), 0) := rfl
    have hdl := hok.dl
    unfold dataM
    by_cases hk : m.kind = 1
    · rw [if_neg (by simp [hk])]
      dsimp only
      rw [hnum]
      dsimp only
      rw [if_neg (by simp), if_neg (by omega), Int.toNat_natCast]
      exact hby
    · have hd : m.data = [] := hok.data.resolve_left hk
      rw [if_pos hk, hd]
      rfl
  have hname : nameM ((hdrM m).sized m.data.length) m.kind ⟨if 100 < m.path.length then ⟨m.path, true⟩ else dNt, if 100 < m.target.length then ⟨m.target, true⟩ else dNt, dNt, dNt, dNt, dNt⟩ = m.path := by
    have ho : orM (if 100 < m.path.length then ⟨m.path, true⟩ else dNt) (m.path.take 100) = m.path := by
      split
      · rfl
      · show m.path.take 100 = m.path
        exact List.take_of_length_le (by omega)
    unfold nameM
    dsimp only
    have hpre : ((hdrM m).sized m.data.length).pre = [] := rfl
    have hnm : ((hdrM m).sized m.data.length).name = m.path.take 100 := rfl
    rw [hpre, if_pos rfl, hnm, ho]
    split
    · unfold Lib.trimSuffix
      rw [nosl hok.path]
      rfl
    · rfl
  have htgt : tgtM m.kind ⟨if 100 < m.path.length then ⟨m.path, true⟩ else dNt, if 100 < m.target.length then ⟨m.target, true⟩ else dNt, dNt, dNt, dNt, dNt⟩ ((hdrM m).sized m.data.length) = m.target := by
    unfold tgtM
    split
    · dsimp only
      split
      · rfl
      · show m.target.take 100 = m.target
        exact List.take_of_length_le (by omega)
    · rename_i e
      exact (hok.tgt.resolve_left e).symm
  have hmb : mbrM ((hdrM m).sized m.data.length) m.kind ⟨if 100 < m.path.length then ⟨m.path, true⟩ else dNt, if 100 < m.target.length then ⟨m.target, true⟩ else dNt, dNt, dNt, dNt, dNt⟩ m.data = m := by
    unfold mbrM
    rw [hname, htgt]
    rfl
  have hflag : ((hdrM m).sized m.data.length).flag = flagM m.kind := rfl
  have hst : stepM r = (false, (membM ⟨r.text, r.pos + 512, r.all, r.next, r.has, r.mem⟩ ((hdrM m).sized m.data.length)).1, (membM ⟨r.text, r.pos + 512, r.all, r.next, r.has, r.mem⟩ ((hdrM m).sized m.data.length)).2) := by
    unfold stepM
    rw [hbl]
    dsimp only
    rw [if_neg (by simp), if_neg (by simp [b2]), b3]
    dsimp only
    rw [if_neg (by simp), if_neg (by rw [hflag]; rintro (h | h); exact k2 h; exact k3 h)]
  have hmm : membM ⟨r.text, r.pos + 512, r.all, r.next, r.has, r.mem⟩ ((hdrM m).sized m.data.length) = (0, ⟨r.text, r.pos + 512 + m.data.length + fillN m.data.length, r.all, [], false, r.mem ++ [m]⟩) := by
    unfold membM
    rw [hflag, k1]
    dsimp only
    rw [if_neg (by simp), hnt, hdata]
    dsimp only
    rw [if_neg (by simp), hmb]
    have hu : numbM dNt ((hdrM m).sized m.data.length).uid = (m.uid, 0) := rfl
    have hg : numbM dNt ((hdrM m).sized m.data.length).gid = (m.gid, 0) := rfl
    have hti : numbM dNt ((hdrM m).sized m.data.length).time = (m.time, 0) := rfl
    rw [hu, hg, hti]
    unfold putR
    rw [if_neg (by simp), if_neg (by simp), if_neg (by simp), if_neg (by simp [hc]), if_neg (by dsimp only; omega)]
  unfold Go1
  rw [hst, hmm]
  simp [b1]
  omega
end Go.Proofs.YtikmkgoeepgbkaaGreatDoor.Ev
