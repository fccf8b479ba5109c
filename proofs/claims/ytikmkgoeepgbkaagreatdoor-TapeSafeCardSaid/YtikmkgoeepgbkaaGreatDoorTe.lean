/- Archives are written. -/
import Derived.Test.YtikmkgoeepgbkaaGreatDoorTd
set_option linter.all false
namespace Go.Proofs.YtikmkgoeepgbkaaGreatDoor.Ev
open Go.RowKit
open Go.Proofs.YtikmkgoeepgbkaaGreatDoor.Mem
set_option linter.unusedVariables false
set_option linter.unusedSimpArgs false
set_option maxRecDepth 100000
/-- What stands of a member that may be. -/
structure MOk (m : Mbr) : Prop where
  path : (partsM m.path).2 = 0
  pl : m.path.length ≤ 200
  kind : 1 ≤ m.kind ∧ m.kind ≤ 4
  mode : 0 ≤ m.mode ∧ m.mode ≤ 4095
  uid : 0 ≤ m.uid ∧ m.uid ≤ 4294967295
  gid : 0 ≤ m.gid ∧ m.gid ≤ 4294967295
  time : 0 ≤ m.time
  data : m.kind = 1 ∨ m.data = []
  tgt : linkB m.kind = true ∨ m.target = []
  tl : m.target.length ≤ 200
  dl : m.data.length ≤ 1048576
theorem parts_le {s : List UInt8} (h : (partsM s).2 = 0) : s.length ≤ 200 := by
  unfold partsM at h
  split at h
  · simp at h
  · omega
theorem MOk.of {m : Mbr} (h : tchkM m = 0) : MOk m := by
  unfold tchkM at h
  by_cases a : ¬ (partsM m.path).2 = 0
  · rw [if_pos a] at h; exact absurd h a
  rw [if_neg a] at h
  by_cases b : m.kind < 1 ∨ 4 < m.kind ∨ m.mode < 0 ∨ 4095 < m.mode
  · rw [if_pos b] at h; omega
  rw [if_neg b] at h
  by_cases c : m.uid < 0 ∨ 4294967295 < m.uid ∨ m.gid < 0 ∨ 4294967295 < m.gid ∨ m.time < 0
  · rw [if_pos c] at h; omega
  rw [if_neg c] at h
  by_cases d : (¬ m.data = [] ∧ ¬ m.kind = 1) ∨ (¬ m.target = [] ∧ linkB m.kind = false)
  · rw [if_pos d] at h; omega
  rw [if_neg d] at h
  by_cases e : m.kind = 3 ∧ tarB m.target = false
  · rw [if_pos e] at h; omega
  rw [if_neg e] at h
  by_cases f : 1048576 < m.data.length
  · rw [if_pos f] at h; omega
  rw [if_neg f] at h
  have a := Decidable.not_not.1 a
  have ht : linkB m.kind = true ∨ m.target = [] := by
    by_cases q : m.target = []
    · exact .inr q
    · cases hl : linkB m.kind with
      | true => exact .inl rfl
      | false => exact absurd (.inr ⟨q, hl⟩) d
  refine ⟨a, parts_le a, by omega, by omega, by omega, by omega, by omega, ?_, ht, ?_, by omega⟩
  · by_cases q : m.data = []
    · exact .inr q
    · by_cases r : m.kind = 1
      · exact .inl r
      · exact absurd (.inl ⟨q, r⟩) d
  · rcases ht with ht | ht
    · unfold linkB at ht
      simp only [Bool.or_eq_true, decide_eq_true_eq] at ht
      rcases ht with ht | ht
      · have : tarB m.target = true := by
          cases q : tarB m.target with
          | true => rfl
          | false => exact absurd ⟨ht, q⟩ e
        unfold tarB at this
        simp at this
        omega
      · rw [if_pos ht] at h
        exact parts_le h
    · rw [ht]; simp
def flagM (k : Int) : UInt8 := if k = 4 then 49 else if k = 3 then 50 else if k = 2 then 53 else 48
theorem tflag_ok (k : Int) : Spec Tryz.prog LL 40 [.n .i64 k] (.n .u8 ((flagM k).toNat : Int)) := by
  refine spec_of (C := ⟨Tryz.prog, LL, EE, []⟩) (rl := [.n .u8 ((flagM k).toNat : Int)]) (rs := [.tmp 2]) CCx LLs Tryz.func40 rfl (by kernel_rfl) rfl (by kernel_rfl) (Nat.le_of_ble_eq_true rfl) (fun i => rfl) (fun i => by first | rfl | exact (Bool.or_false _).trans (eSd_men _ _)) rfl (by decide) ?_
  refine gk ?_
  unfold flagM
  repeat' (first | exact True.intro | ((simp_all; done)) | refine br (fun h => ?_) (fun h => ?_) | refine gk ?_)
theorem tshort_ok (s : List UInt8) (hs : s.length ≤ 281474976710656) : Spec Tryz.prog LL 39 [.s s] (.s (s.take 100)) := by
  refine spec_of (C := ⟨Tryz.prog, LL, EE, []⟩) (rl := [.s (s.take 100)]) (rs := [.tmp 2]) CCx LLs Tryz.func39 rfl (by kernel_rfl) rfl (by kernel_rfl) (Nat.le_of_ble_eq_true rfl) (fun i => rfl) (fun i => by first | rfl | exact (Bool.or_false _).trans (eSd_men _ _)) rfl (by decide) ?_
  refine gk ?_
  rcases Nat.le_total s.length 100 with h | h
  · rw [show (min (s.length : Int) 100).toNat = s.length by omega, List.take_of_length_le h, List.take_of_length_le (Nat.le_refl _)]
  · rw [show (min (s.length : Int) 100).toNat = 100 by omega]
def Hdr.sized (h : Hdr) (n : Nat) : Hdr := { h with size := (n : Int) }
def blksM (h : Hdr) (d : List UInt8) : List UInt8 × Int :=
  if ¬ (encM (h.sized d.length)).2 = 0 then ([], (encM (h.sized d.length)).2) else ((encM (h.sized d.length)).1 ++ (d ++ List.replicate (fillN d.length) 0), 0)
theorem fillN_lt (n : Nat) : fillN n < 512 := by unfold fillN; omega
theorem tblocks_ok (h : Hdr) (d : List UInt8) (hf : h.Fit) (hb : h.Big) (hd : d.length ≤ 4194304) : Spec Tryz.prog LL 41 [eHdr h, .s d] (.tp [.s (blksM h d).1, .n .i64 (blksM h d).2]) := by
  refine spec_of (C := ⟨Tryz.prog, LL, EE, []⟩) (rl := [.s (blksM h d).1, .n .i64 (blksM h d).2]) (rs := [.tmp 4, .tmp 5]) CCx LLs Tryz.func41 rfl (by kernel_rfl) rfl (by kernel_rfl) (Nat.le_of_ble_eq_true rfl) (fun i => rfl) (fun i => by first | rfl | exact (Bool.or_false _).trans (eSd_men _ _)) rfl (by decide) ?_
  refine gk ?_
  obtain ⟨r, hr⟩ : ∃ r, r = blksM h d := ⟨_, rfl⟩
  rw [← hr]
  unfold blksM at hr
  refine cl (henc_ok (h.sized d.length) ⟨hf.mode, hf.uid, hf.gid, ⟨by show (0 : Int) ≤ (d.length : Int); omega, by show (d.length : Int) < _; omega⟩, hf.time⟩ ⟨hb.name, hb.link, hb.pre⟩) ?_
  refine gk ?_
  have hl : (encM (h.sized d.length)).2 = 0 → (encM (h.sized d.length)).1.length = 512 := fun e => by
    obtain ⟨_, _, _, _, _, _, _, _, h⟩ := enc_form e
    exact h
  generalize encM (h.sized d.length) = e at hr hl ⊢
  obtain ⟨b, c⟩ := e
  dsimp only at hr hl ⊢
  refine br (fun a => ?_) (fun a => ?_)
  · rw [if_pos a] at hr
    try refine gk ?_
    subst hr
    exact ⟨rfl, rfl⟩
  · rw [if_neg a] at hr
    have hl := hl (by omega)
    have hfl := fillN_lt d.length
    try refine gk ?_
    refine cl (tfill_ok d.length (by omega)) ?_
    refine gk ?_
    refine cl (repeat_ok [0] (fillN d.length) (by omega) (by simp; omega)) ?_
    refine gk ?_
    rw [rep0]
    have hrl : (List.replicate (fillN d.length) (0 : UInt8)).length = fillN d.length := by simp
    subst hr
    exact ⟨by omega, rfl, rfl⟩
def kPath : List UInt8 := [112, 97, 116, 104]
def kLink : List UInt8 := [108, 105, 110, 107, 112, 97, 116, 104]
def wMore : List UInt8 := [109, 111, 114, 101]
def extrM (m : Mbr) : List Pr := (if 100 < m.path.length then [⟨kPath, m.path⟩] else []) ++ (if 100 < m.target.length then [⟨kLink, m.target⟩] else [])
theorem ext2 {m : Mbr} (h : 100 < (m.path.length : Int)) (h2 : 100 < (m.target.length : Int)) : extrM m = [⟨kPath, m.path⟩, ⟨kLink, m.target⟩] := by
  unfold extrM; rw [if_pos (by omega), if_pos (by omega)]; rfl
theorem ext1 {m : Mbr} (h : 100 < (m.path.length : Int)) (h2 : ¬ 100 < (m.target.length : Int)) : extrM m = [⟨kPath, m.path⟩] := by
  unfold extrM; rw [if_pos (by omega), if_neg (by omega)]; rfl
theorem ext0 {m : Mbr} (h : ¬ 100 < (m.path.length : Int)) (h2 : 100 < (m.target.length : Int)) : extrM m = [⟨kLink, m.target⟩] := by
  unfold extrM; rw [if_neg (by omega), if_pos (by omega)]; rfl
theorem extn {m : Mbr} (h : ¬ 100 < (m.path.length : Int)) (h2 : ¬ 100 < (m.target.length : Int)) : extrM m = [] := by
  unfold extrM; rw [if_neg (by omega), if_neg (by omega)]; rfl
def moreH : Hdr := ⟨wMore, 420, 0, 0, 0, 0, 120, [], []⟩
def moreM (m : Mbr) : List UInt8 × Int :=
  if extrM m = [] then ([], 0) else if ¬ (encPF (extrM m) []).2 = 0 then ([], (encPF (extrM m) []).2) else blksM moreH (encPF (extrM m) []).1
theorem tmore_ok (m : Mbr) (hb : MOk m) : Spec Tryz.prog LL 38 [eMbr m] (.tp [.s (moreM m).1, .n .i64 (moreM m).2]) := by
  refine spec_of (C := ⟨Tryz.prog, LL, EE, []⟩) (rl := [.s (moreM m).1, .n .i64 (moreM m).2]) (rs := [.tmp 2, .tmp 3]) CCx LLs Tryz.func38 rfl (by kernel_rfl) rfl (by kernel_rfl) (Nat.le_of_ble_eq_true rfl) (fun i => rfl) (fun i => by first | rfl | exact (Bool.or_false _).trans (eSd_men _ _)) rfl (by decide) ?_
  refine gk ?_
  have h1 := hb.pl
  have h2 := hb.tl
  obtain ⟨r, hr⟩ : ∃ r, r = moreM m := ⟨_, rfl⟩
  rw [← hr]
  unfold moreM at hr
  refine br (fun a => ?_) (fun a => ?_)
  · try refine gk ?_
    refine .inr ?_
    try refine gk ?_
    refine br (fun b => ?_) (fun b => ?_)
    · try refine gk ?_
      refine .inr ?_
      try refine gk ?_
      rw [ext2 a b] at hr
      rw [if_neg (by simp)] at hr
      refine br (fun z => ?_) (fun z => ?_)
      · exfalso; omega
      · try refine gk ?_
        refine cv (penc_ok [⟨kPath, m.path⟩, ⟨kLink, m.target⟩] (by simp) (fun p hp => by simp at hp; first | (rcases hp with rfl | rfl <;> simp [kPath, kLink]) | (subst hp; simp [kPath, kLink]))) rfl (gk ?_) ?_
        · (first | exact le_refl _ | exact .inl rfl)
        refine gk ?_
        have hl := fun e => (encPF_fit (l := [⟨kPath, m.path⟩, ⟨kLink, m.target⟩]) (b := []) e).2.2
        generalize encPF [⟨kPath, m.path⟩, ⟨kLink, m.target⟩] [] = e at hr hl ⊢
        obtain ⟨b, c⟩ := e
        dsimp only at hr hl ⊢
        refine br (fun k => ?_) (fun k => ?_)
        · rw [if_pos k] at hr
          try refine gk ?_
          subst hr
          exact ⟨rfl, rfl⟩
        · rw [if_neg k] at hr
          have hl := hl (by omega)
          try refine gk ?_
          refine cl (tblocks_ok moreH b ⟨by decide, by decide, by decide, by decide, by decide⟩ ⟨by decide, by decide, by decide⟩ (by omega)) ?_
          refine gk ?_
          subst hr
          exact ⟨rfl, rfl⟩
    · try refine gk ?_
      rw [ext1 a b] at hr
      rw [if_neg (by simp)] at hr
      refine br (fun z => ?_) (fun z => ?_)
      · exfalso; omega
      · try refine gk ?_
        refine cv (penc_ok [⟨kPath, m.path⟩] (by simp) (fun p hp => by simp at hp; first | (rcases hp with rfl | rfl <;> simp [kPath, kLink]) | (subst hp; simp [kPath, kLink]))) rfl (gk ?_) ?_
        · (first | exact le_refl _ | exact .inl rfl)
        refine gk ?_
        have hl := fun e => (encPF_fit (l := [⟨kPath, m.path⟩]) (b := []) e).2.2
        generalize encPF [⟨kPath, m.path⟩] [] = e at hr hl ⊢
        obtain ⟨b, c⟩ := e
        dsimp only at hr hl ⊢
        refine br (fun k => ?_) (fun k => ?_)
        · rw [if_pos k] at hr
          try refine gk ?_
          subst hr
          exact ⟨rfl, rfl⟩
        · rw [if_neg k] at hr
          have hl := hl (by omega)
          try refine gk ?_
          refine cl (tblocks_ok moreH b ⟨by decide, by decide, by decide, by decide, by decide⟩ ⟨by decide, by decide, by decide⟩ (by omega)) ?_
          refine gk ?_
          subst hr
          exact ⟨rfl, rfl⟩
  · try refine gk ?_
    refine br (fun b => ?_) (fun b => ?_)
    · try refine gk ?_
      refine .inr ?_
      try refine gk ?_
      rw [ext0 a b] at hr
      rw [if_neg (by simp)] at hr
      refine br (fun z => ?_) (fun z => ?_)
      · exfalso; omega
      · try refine gk ?_
        refine cv (penc_ok [⟨kLink, m.target⟩] (by simp) (fun p hp => by simp at hp; first | (rcases hp with rfl | rfl <;> simp [kPath, kLink]) | (subst hp; simp [kPath, kLink]))) rfl (gk ?_) ?_
        · (first | exact le_refl _ | exact .inl rfl)
        refine gk ?_
        have hl := fun e => (encPF_fit (l := [⟨kLink, m.target⟩]) (b := []) e).2.2
        generalize encPF [⟨kLink, m.target⟩] [] = e at hr hl ⊢
        obtain ⟨b, c⟩ := e
        dsimp only at hr hl ⊢
        refine br (fun k => ?_) (fun k => ?_)
        · rw [if_pos k] at hr
          try refine gk ?_
          subst hr
          exact ⟨rfl, rfl⟩
        · rw [if_neg k] at hr
          have hl := hl (by omega)
          try refine gk ?_
          refine cl (tblocks_ok moreH b ⟨by decide, by decide, by decide, by decide, by decide⟩ ⟨by decide, by decide, by decide⟩ (by omega)) ?_
          refine gk ?_
          subst hr
          exact ⟨rfl, rfl⟩
    · rw [extn a b, if_pos rfl] at hr
      try refine gk ?_
      subst hr
      exact ⟨rfl, rfl⟩
def hdrM (m : Mbr) : Hdr := ⟨m.path.take 100, m.mode, m.uid, m.gid, 0, m.time, flagM m.kind, m.target.take 100, []⟩
def memM (m : Mbr) : List UInt8 × Int :=
  if ¬ (moreM m).2 = 0 then ([], (moreM m).2) else ((moreM m).1 ++ (blksM (hdrM m) m.data).1, (blksM (hdrM m) m.data).2)
theorem blks_len (h : Hdr) (d : List UInt8) : (blksM h d).1.length ≤ 1024 + d.length := by
  unfold blksM
  split
  · simp
  · rename_i e
    obtain ⟨_, _, _, _, _, _, _, _, hl⟩ := enc_form (h := h.sized d.length) (Decidable.not_not.1 e)
    have := fillN_lt d.length
    simp [hl]
    omega
theorem more_len (m : Mbr) : (moreM m).1.length ≤ 1049600 := by
  unfold moreM
  split
  · simp
  · split
    · simp
    · rename_i e
      have := (encPF_fit (l := extrM m) (b := []) (Decidable.not_not.1 e)).2.2
      have := blks_len moreH (encPF (extrM m) []).1
      omega
theorem mem_len {m : Mbr} (hb : MOk m) : (memM m).1.length ≤ 2200000 := by
  unfold memM
  split
  · simp
  · have h1 := more_len m
    have h2 := blks_len (hdrM m) m.data
    have h3 := hb.dl
    simp
    omega
theorem hdr_fit {m : Mbr} (hb : MOk m) (ht : m.time < 9223372036854775808) : (hdrM m).Fit := by
  have h1 := hb.mode; have h2 := hb.uid; have h3 := hb.gid; have h4 := hb.time
  exact ⟨by show 0 ≤ m.mode ∧ m.mode < _; omega, by show 0 ≤ m.uid ∧ m.uid < _; omega, by show 0 ≤ m.gid ∧ m.gid < _; omega, ⟨Int.le_refl _, by show (0 : Int) < _; omega⟩, by show 0 ≤ m.time ∧ m.time < _; omega⟩
theorem tmember_ok (m : Mbr) (hb : MOk m) (ht : m.time < 9223372036854775808) : Spec Tryz.prog LL 23 [eMbr m] (.tp [.s (memM m).1, .n .i64 (memM m).2]) := by
  refine spec_of (C := ⟨Tryz.prog, LL, EE, []⟩) (rl := [.s (memM m).1, .n .i64 (memM m).2]) (rs := [.tmp 2, .tmp 3]) CCx LLs Tryz.func23 rfl (by kernel_rfl) rfl (by kernel_rfl) (Nat.le_of_ble_eq_true rfl) (fun i => rfl) (fun i => by first | rfl | exact (Bool.or_false _).trans (eSd_men _ _)) rfl (by decide) ?_
  refine gk ?_
  have h1 := hb.pl
  have h2 := hb.tl
  have h3 := hb.dl
  obtain ⟨r, hr⟩ : ∃ r, r = memM m := ⟨_, rfl⟩
  rw [← hr]
  unfold memM at hr
  refine cl (tmore_ok m hb) ?_
  refine gk ?_
  have hml := more_len m
  generalize moreM m = q at hr hml ⊢
  obtain ⟨q1, q2⟩ := q
  dsimp only at hr hml ⊢
  refine br (fun a => ?_) (fun a => ?_)
  · rw [if_pos a] at hr
    try refine gk ?_
    subst hr
    exact ⟨rfl, rfl⟩
  · rw [if_neg a] at hr
    try refine gk ?_
    refine cd (tshort_ok m.path (by omega)) ?_
    refine gk ?_
    refine cd (tflag_ok m.kind) ?_
    refine gk ?_
    refine cd (tshort_ok m.target (by omega)) ?_
    refine gk ?_
    refine cl (tblocks_ok (hdrM m) m.data (hdr_fit hb ht) ⟨by show (m.path.take 100).length ≤ _; simp; omega, by show (m.target.take 100).length ≤ _; simp; omega, by show ([] : List UInt8).length ≤ _; simp⟩ (by omega)) ?_
    refine gk ?_
    have hbl := blks_len (hdrM m) m.data
    subst hr
    exact ⟨by omega, rfl, rfl⟩
def wrF : List Mbr → List UInt8 → List UInt8 × Int
  | [], b => (b ++ List.replicate 1024 0, 0)
  | m :: r, b => if ¬ tchkM m = 0 then ([], tchkM m) else if ¬ (memM m).2 = 0 then ([], (memM m).2) else if 1048576 < (b ++ (memM m).1).length then ([], 3) else wrF r (b ++ (memM m).1)
def wrM (l : List Mbr) : List UInt8 × Int := if 64 < l.length then ([], 3) else wrF l []
theorem twrite_ok (l : List Mbr) (hb : ∀ m ∈ l, m.Big ∧ m.time < 9223372036854775808) : Spec Tryz.prog LL 13 [.sl 8 Mbr dMb l eMbr] (.tp [.s (wrM l).1, .n .i64 (wrM l).2]) := by
  refine spec_of (C := ⟨Tryz.prog, LL, EE, [17]⟩) (rl := [.s (wrM l).1, .n .i64 (wrM l).2]) (rs := [.tmp 2, .tmp 3]) CCx LLs Tryz.func13 rfl (by kernel_rfl) rfl (by kernel_rfl) (Nat.le_of_ble_eq_true rfl) (fun i => rfl) (fun i => by first | rfl | exact (Bool.or_false _).trans (eSd_men _ _)) rfl (by decide) ?_
  refine gk ?_
  obtain ⟨r, hr⟩ : ∃ r, r = wrM l := ⟨_, rfl⟩
  rw [← hr]
  unfold wrM at hr
  refine br (fun a => ?_) (fun a => ?_)
  · rw [if_pos (by omega)] at hr
    try refine gk ?_
    subst hr
    exact ⟨rfl, rfl⟩
  · rw [if_neg (by omega)] at hr
    try refine gk ?_
    refine ct_hd [] [] (fun b : List UInt8 => [(4, .sl 1 UInt8 0 b eB)]) (fun b : List UInt8 => []) (fun b : List UInt8 => r = (b ++ List.replicate 1024 0, 0) ∧ b.length ≤ 1048576) (gk ?_) ?_
    · refine lp_nil 4 5 hB (gk ?_) (gk ?_) ?_
      · trivial
      · trivial
      refine lp_hr [12, 13] [] (fun x : Nat × List UInt8 => [(4, .ow 4 x.2.length), (14, .n .i64 (x.1 : Int))]) (fun x : Nat × List UInt8 => [(4, rB x.2)]) (fun x : Nat × List UInt8 => x.1 ≤ l.length ∧ r = wrF (l.drop x.1) x.2 ∧ x.2.length ≤ 1048576) (fun x : Nat × List UInt8 => l.length - x.1) ((0, [])) id ⟨Nat.zero_le _, hr, Nat.zero_le _⟩ (fits_of (gk ?_) (gk ?_) (gk ?_) (gk ?_) (gk ?_)) ?_
      · first | exact True.intro | exact ⟨rfl, rfl⟩ | exact ⟨rfl, rfl, rfl⟩ | rfl | exact rowc (List.map_id _) | trivial
      · first | exact True.intro | exact ⟨rfl, rfl⟩ | exact ⟨rfl, rfl, rfl⟩ | rfl | exact rowc (List.map_id _) | trivial
      · first | exact True.intro | exact ⟨rfl, rfl⟩ | exact ⟨rfl, rfl, rfl⟩ | rfl | exact rowc (List.map_id _) | trivial
      · first | exact True.intro | exact ⟨rfl, rfl⟩ | exact ⟨rfl, rfl, rfl⟩ | rfl | exact rowc (List.map_id _) | trivial
      · first | exact True.intro | exact ⟨rfl, rfl⟩ | exact ⟨rfl, rfl, rfl⟩ | rfl | exact rowc (List.map_id _) | trivial
      clear hr
      rintro ⟨i, b⟩ ⟨hi, hr, hl⟩
      dsimp only at hi hr hl ⊢
      try refine gk ?_
      refine br (fun e => ?_) (fun e => ?_)
      · have hm : l.getD i dMb ∈ l := getD_mem (by omega)
        obtain ⟨hm1, hm2⟩ := hb _ hm
        rw [drop_at l i dMb (by omega), wrF] at hr
        try refine gk ?_
        generalize l.getD i dMb = m at hr hm1 hm2 ⊢
        refine cl (tcheck_ok m hm1) ?_
        refine gk ?_
        refine br (fun c => ?_) (fun c => ?_)
        · rw [if_pos c] at hr
          try refine gk ?_
          subst hr
          exact ⟨rfl, rfl⟩
        · rw [if_neg c] at hr
          have hok := MOk.of (Decidable.not_not.1 c)
          try refine gk ?_
          refine cl (tmember_ok m hok hm2) ?_
          refine gk ?_
          have hml := mem_len hok
          generalize memM m = q at hr hml ⊢
          obtain ⟨q1, q2⟩ := q
          dsimp only at hr hml ⊢
          refine br (fun d => ?_) (fun d => ?_)
          · rw [if_pos d] at hr
            try refine gk ?_
            subst hr
            exact ⟨rfl, rfl⟩
          · rw [if_neg d] at hr
            try refine gk ?_
            refine br (fun f => ?_) (fun f => ?_)
            · rw [if_pos (by simp; omega)] at hr
              try refine gk ?_
              subst hr
              exact ⟨rfl, rfl⟩
            · rw [if_neg (by simp; omega)] at hr
              try refine gk ?_
              refine ⟨(i + 1, b ++ q1), fun i => if i = 4 then 33 else i, ⟨by dsimp only; omega, hr, by simp; omega⟩, (by dsimp only; omega), fits_of (gk ?_) (gk ?_) (gk ?_) (gk ?_) (gk ?_)⟩
              · first | exact True.intro | exact ⟨rfl, rfl⟩ | exact ⟨rfl, rfl, rfl⟩ | rfl | exact rowc (List.map_id _) | trivial
              · first | exact True.intro | exact ⟨rfl, rfl⟩ | exact ⟨rfl, rfl, rfl⟩ | rfl | exact rowc (List.map_id _) | trivial
              · first | exact True.intro | exact ⟨rfl, rfl⟩ | exact ⟨rfl, rfl, rfl⟩ | rfl | exact rowc (List.map_id _) | trivial
              · (first | exact rowc (by simp) | trivial)
              · first | exact True.intro | exact ⟨rfl, rfl⟩ | exact ⟨rfl, rfl, rfl⟩ | rfl | exact rowc (List.map_id _) | trivial
      · rw [List.drop_eq_nil_of_le (by omega), wrF] at hr
        try refine gk ?_
        refine wk_fz [4] ?_
        refine wk_fit (b) (id) (⟨hr, hl⟩) (fits_of (gk ?_) (gk ?_) (gk ?_) (gk ?_) (gk ?_))
        · first | exact True.intro | exact ⟨rfl, rfl⟩ | exact ⟨rfl, rfl, rfl⟩ | rfl | exact rowc (List.map_id _) | trivial
        · first | exact True.intro | exact ⟨rfl, rfl⟩ | exact ⟨rfl, rfl, rfl⟩ | rfl | exact rowc (List.map_id _) | trivial
        · first | exact True.intro | exact ⟨rfl, rfl⟩ | exact ⟨rfl, rfl, rfl⟩ | rfl | exact rowc (List.map_id _) | trivial
        · first | exact True.intro | exact ⟨rfl, rfl⟩ | exact ⟨rfl, rfl, rfl⟩ | rfl | exact rowc (List.map_id _) | trivial
        · first | exact True.intro | exact ⟨rfl, rfl⟩ | exact ⟨rfl, rfl, rfl⟩ | rfl | exact rowc (List.map_id _) | trivial
    · rintro b ⟨hr, hl⟩
      subst hr
      try refine gk ?_
      refine cvB (t := 5) (by kernel_rfl) (by kernel_rfl) (by kernel_rfl) ?_
      try refine gk ?_
      refine cd (repeat_ok [0] 1024 (by omega) (by simp)) ?_
      refine gk ?_
      rw [rep0]
      exact ⟨by simp; omega, rfl⟩
end Go.Proofs.YtikmkgoeepgbkaaGreatDoor.Ev
