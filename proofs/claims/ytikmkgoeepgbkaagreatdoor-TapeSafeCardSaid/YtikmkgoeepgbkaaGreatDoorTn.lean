/- Archives: a member is read. -/
import Derived.Test.YtikmkgoeepgbkaaGreatDoorTk
set_option linter.all false
namespace Go.Proofs.YtikmkgoeepgbkaaGreatDoor.Ev
open Go.RowKit
open Go.Proofs.YtikmkgoeepgbkaaGreatDoor.Mem
set_option linter.unusedVariables false
set_option linter.unusedSimpArgs false
set_option maxRecDepth 100000
/-- What is read of a header's member: its records, its data, the member. -/
def Rdr.nts (r : Rdr) : Nts := takM r.all r.next
def Rdr.bare (r : Rdr) : Rdr := { r with next := [], has := false }
def tgtM (k : Int) (n : Nts) (h : Hdr) : List UInt8 := if linkB k = true then orM n.target h.link else []
def mbrM (h : Hdr) (k : Int) (n : Nts) (d : List UInt8) : Mbr := ⟨nameM h k n, k, h.mode, (numbM n.uid h.uid).1, (numbM n.gid h.gid).1, (numbM n.time h.time).1, tgtM k n h, d⟩
def putR (r : Rdr) (m : Mbr) : Int × Rdr := if ¬ tchkM m = 0 then (tchkM m, r) else if 64 ≤ r.mem.length then (3, r) else (0, { r with mem := r.mem ++ [m] })
def membM (r : Rdr) (h : Hdr) : Int × Rdr :=
  if ¬ (kindM h.flag).2 = 0 then ((kindM h.flag).2, r) else
  if ¬ (dataM r.bare h (kindM h.flag).1 r.nts).2.1 = 0 then ((dataM r.bare h (kindM h.flag).1 r.nts).2.1, (dataM r.bare h (kindM h.flag).1 r.nts).2.2) else
  if ¬ (numbM r.nts.uid h.uid).2 = 0 then ((numbM r.nts.uid h.uid).2, (dataM r.bare h (kindM h.flag).1 r.nts).2.2) else
  if ¬ (numbM r.nts.gid h.gid).2 = 0 then ((numbM r.nts.gid h.gid).2, (dataM r.bare h (kindM h.flag).1 r.nts).2.2) else
  if ¬ (numbM r.nts.time h.time).2 = 0 then ((numbM r.nts.time h.time).2, (dataM r.bare h (kindM h.flag).1 r.nts).2.2) else
  putR (dataM r.bare h (kindM h.flag).1 r.nts).2.2 (mbrM h (kindM h.flag).1 r.nts (dataM r.bare h (kindM h.flag).1 r.nts).1)
theorem last_le (B : Nat) (k : List UInt8) : ∀ (l : List Pr), (∀ p ∈ l, p.val.length ≤ B) → (lastM l k).1.length ≤ B
  | [], _ => by simp [lastM]
  | p :: l, h => by
    unfold lastM
    have := last_le B k l fun q hq => h q (by simp [hq])
    split
    · exact this
    · split
      · exact h p (by simp)
      · simp
theorem of_le (B : Nat) {n : Nt} {l : List Pr} (k : List UInt8) (hn : n.text.length ≤ B) (h : ∀ p ∈ l, p.val.length ≤ B) : (ofM n l k).text.length ≤ B := by
  unfold ofM
  split
  · exact last_le B k l h
  · exact hn
theorem data_len (r : Rdr) (h : Hdr) (k : Int) (n : Nts) (hr : r.Ok) : (dataM r h k n).1.length ≤ 2097152 := by
  unfold dataM
  repeat' split
  all_goals first | simp | exact bytes_len r _ hr
theorem bare_ok {r : Rdr} (h : r.Ok) : r.bare.Ok := ⟨h.text, h.pos, h.ap, h.tg, fun p hp => by simp [Rdr.bare] at hp, by simp [Rdr.bare]⟩
structure Hdr.Read (h : Hdr) : Prop where
  name : h.name.length ≤ 512
  link : h.link.length ≤ 512
  pre : h.pre.length ≤ 512
  size : 0 ≤ h.size
theorem name_len {h : Hdr} (hh : h.Read) (k : Int) (n : Nts) (hn : n.path.text.length ≤ 2097152) : (nameM h k n).length ≤ 4194304 := by
  have h1 := hh.name
  have h2 := hh.pre
  have ho : ∀ w : List UInt8, w.length ≤ 2000 → (orM n.path w).length ≤ 4194304 := fun w hw => by
    unfold orM; split <;> omega
  have hw : (if h.pre = [] then h.name else h.pre ++ (47 :: h.name)).length ≤ 2000 := by
    split
    · omega
    · simp; omega
  have := ho _ hw
  unfold nameM
  generalize orM n.path (if h.pre = [] then h.name else h.pre ++ (47 :: h.name)) = w at this ⊢
  split
  · unfold Lib.trimSuffix
    split
    · simp; omega
    · exact this
  · exact this
set_option maxHeartbeats 4000000 in
theorem tmemb_ok (r : Rdr) (h : Hdr) (hr : r.Ok) (hh : h.Read) : SpecP Tryz.prog LL 58 [.p 1000000000 0, eHdr h] [(1000000000, bkR r 0), (0, rE r.mem)] (.n .i64 (membM r h).1) [(1000000000, bkR (membM r h).2 0), (0, rE (membM r h).2.mem)] := by
  refine spec_ofP' (C := ⟨Tryz.prog, LL, EE, []⟩) (rl := [.n .i64 (membM r h).1]) (rs := [.tmp 4]) CCx LLs Tryz.func58 rfl (by kernel_rfl) rfl (by kernel_rfl) (Nat.le_of_ble_eq_true rfl) rfl rfl rfl rfl rfl rfl rfl rfl (by decide) ?_
  refine gr ?_
  obtain ⟨q, hq⟩ : ∃ q, q = membM r h := ⟨_, rfl⟩
  rw [← hq]
  unfold membM at hq
  have hpn : r.nts.path.text.length ≤ 2097152 := of_le _ _ hr.ap hr.nx
  have htn : r.nts.target.text.length ≤ 2097152 := of_le _ _ hr.tg hr.nx
  refine cl (tkind_ok h.flag) ?_
  refine gr ?_
  have hkk : (kindM h.flag).1 = (kindM h.flag).1 := rfl
  generalize kindM h.flag = kk at hq ⊢
  obtain ⟨k, ke⟩ := kk
  dsimp only at hq ⊢
  refine br (fun a => ?_) (fun a => ?_)
  · rw [if_pos a] at hq
    subst hq
    try refine gr ?_
    refine outP [] id ?_ ?_ ?_
    all_goals first | trivial | (refine gr ?_; first | trivial | rfl)
  · rw [if_neg a] at hq
    try refine gr ?_
    refine cp (fun _ => 7) (fun _ => 7) (ttake_ok r.all r.next (by have := hr.nl; omega)) (gr ?_) (gr ?_) (gr ?_) (gr ?_) (gr ?_) ?_
    · first | trivial | exact ⟨rfl, rfl⟩ | exact ⟨rfl, rfl, rfl⟩ | exact le_refl _
    · first | trivial | exact ⟨rfl, rfl⟩ | exact ⟨rfl, rfl, rfl⟩ | exact le_refl _
    · first | trivial | exact ⟨rfl, rfl⟩ | exact ⟨rfl, rfl, rfl⟩ | exact le_refl _
    · first | trivial | exact ⟨rfl, rfl⟩ | exact ⟨rfl, rfl, rfl⟩ | exact le_refl _
    · first | trivial | exact ⟨rfl, rfl⟩ | exact ⟨rfl, rfl, rfl⟩ | exact le_refl _
    refine gr ?_
    obtain ⟨n, hn⟩ : ∃ n, takM r.all r.next = n := ⟨_, rfl⟩
    rw [show r.nts = n from hn] at hq hpn htn
    rw [hn]
    refine cw ?_
    refine wk_leB 1000000000 (T := 54) (l := [.s r.text, .n .i64 (r.pos : Int), .s r.all.path.text, .b r.all.path.is, .s r.all.target.text, .b r.all.target.is, .s r.all.size.text, .b r.all.size.is, .s r.all.uid.text, .b r.all.uid.is, .s r.all.gid.text, .b r.all.gid.is, .s r.all.time.text, .b r.all.time.is, .nl, .b false, .ow 0 r.mem.length]) [.s r.text, .n .i64 (r.pos : Int), .s r.all.path.text, .b r.all.path.is, .s r.all.target.text, .b r.all.target.is, .s r.all.size.text, .b r.all.size.is, .s r.all.uid.text, .b r.all.uid.is, .s r.all.gid.text, .b r.all.gid.is, .s r.all.time.text, .b r.all.time.is, .sl 2 Pr dPr [] ePr, .b false, .ow 0 r.mem.length] (gr ?_) ?_ ?_ ?_
    · trivial
    · repeat' apply And.intro
      all_goals first | exact le_refl _ | exact le_nl | trivial
    · intro k
      simp [menL, men]
    refine wk_now ?_
    refine cpP (fun i => i) (fun i => if i = 0 then 80 else i) (tdata_ok r.bare h k n (bare_ok hr) hh.size) (gr ?_) (gr ?_) (gr ?_) (gr ?_) (gr ?_) ?_
    all_goals first | trivial | exact le_refl _ | exact ⟨le_refl _, trivial⟩ | skip
    have hdl := data_len r.bare h k n (bare_ok hr)
    generalize dataM r.bare h k n = d at hq hdl ⊢
    obtain ⟨d1, d2, d3⟩ := d
    dsimp only at hq hdl ⊢
    try refine gr ?_
    refine br (fun b => ?_) (fun b => ?_)
    · rw [if_pos b] at hq
      subst hq
      try refine gr ?_
      refine outP [] (fun i => if i = 0 then 80 else i) ?_ ?_ ?_
      all_goals first | trivial | (refine gr ?_; first | trivial | rfl)
    · rw [if_neg b] at hq
      try refine gr ?_
      refine cl (tname_ok h k n (by have := hh.name; omega) (by have := hh.pre; omega) (by omega)) ?_
      refine gr ?_
      have hnl := name_len hh k n hpn
      refine cl (tlink_ok k) ?_
      refine gr ?_
      refine br (fun c => ?_) (fun c => ?_)
      · have ht : tgtM k n h = orM n.target h.link := if_pos c
        have htl : (orM n.target h.link).length ≤ 4194304 := by have := hh.link; unfold orM; split <;> omega
        try refine gr ?_
        refine cl (tor_ok n.target h.link) ?_
        refine gr ?_
        generalize orM n.target h.link = tg at ht htl ⊢
        have hm : mbrM h k n d1 = ⟨nameM h k n, k, h.mode, (numbM n.uid h.uid).1, (numbM n.gid h.gid).1, (numbM n.time h.time).1, tg, d1⟩ := by unfold mbrM; rw [ht]
        rw [hm] at hq
        clear hm
        generalize nameM h k n = pth at hq hnl ⊢
        refine cl (tnumber_ok n.uid h.uid) ?_
        refine gr ?_
        generalize numbM n.uid h.uid = u at hq ⊢
        obtain ⟨u1, u2⟩ := u
        dsimp only at hq ⊢
        refine br (fun c1 => ?_) (fun c1 => ?_)
        · rw [if_pos c1] at hq
          subst hq
          try refine gr ?_
          refine outP [] (fun i => if i = 0 then 80 else i) ?_ ?_ ?_
          all_goals first | trivial | (refine gr ?_; first | trivial | rfl)
        · rw [if_neg c1] at hq
          try refine gr ?_
          refine cl (tnumber_ok n.gid h.gid) ?_
          refine gr ?_
          generalize numbM n.gid h.gid = g at hq ⊢
          obtain ⟨g1, g2⟩ := g
          dsimp only at hq ⊢
          refine br (fun c2 => ?_) (fun c2 => ?_)
          · rw [if_pos c2] at hq
            subst hq
            try refine gr ?_
            refine outP [] (fun i => if i = 0 then 80 else i) ?_ ?_ ?_
            all_goals first | trivial | (refine gr ?_; first | trivial | rfl)
          · rw [if_neg c2] at hq
            try refine gr ?_
            refine cl (tnumber_ok n.time h.time) ?_
            refine gr ?_
            generalize numbM n.time h.time = t at hq ⊢
            obtain ⟨t1, t2⟩ := t
            dsimp only at hq ⊢
            refine br (fun c3 => ?_) (fun c3 => ?_)
            · rw [if_pos c3] at hq
              subst hq
              try refine gr ?_
              refine outP [] (fun i => if i = 0 then 80 else i) ?_ ?_ ?_
              all_goals first | trivial | (refine gr ?_; first | trivial | rfl)
            · rw [if_neg c3] at hq
              try refine gr ?_
              refine cl (tcheck_ok ⟨pth, k, h.mode, u1, g1, t1, tg, d1⟩ ⟨by dsimp only; omega, by dsimp only; omega, by dsimp only; omega⟩) ?_
              refine gr ?_
              unfold putR at hq
              generalize hmm : (⟨pth, k, h.mode, u1, g1, t1, tg, d1⟩ : Mbr) = m at hq ⊢
              refine br (fun c4 => ?_) (fun c4 => ?_)
              · rw [if_pos c4] at hq
                subst hq
                try refine gr ?_
                refine outP [] (fun i => if i = 0 then 80 else i) ?_ ?_ ?_
                all_goals first | trivial | (refine gr ?_; first | trivial | rfl)
              · rw [if_neg c4] at hq
                try refine gr ?_
                refine br (fun c5 => ?_) (fun c5 => ?_)
                · rw [if_pos (by omega)] at hq
                  subst hq
                  try refine gr ?_
                  refine outP [] (fun i => if i = 0 then 80 else i) ?_ ?_ ?_
                  all_goals first | trivial | (refine gr ?_; first | trivial | rfl)
                · rw [if_neg (by omega)] at hq
                  try refine gr ?_
                  refine .inr ?_
                  subst hmm
                  subst hq
                  try refine gr ?_
                  refine outP [] (fun i => if i = 0 then 116 else i) ?_ ?_ ?_
                  all_goals first | trivial | (refine gr ?_; first | trivial | rfl)
      · have ht : tgtM k n h = [] := if_neg c
        have htl : ([] : List UInt8).length ≤ 4194304 := by simp
        try refine gr ?_
        have hm : mbrM h k n d1 = ⟨nameM h k n, k, h.mode, (numbM n.uid h.uid).1, (numbM n.gid h.gid).1, (numbM n.time h.time).1, [], d1⟩ := by unfold mbrM; rw [ht]
        rw [hm] at hq
        clear hm
        generalize nameM h k n = pth at hq hnl ⊢
        refine cl (tnumber_ok n.uid h.uid) ?_
        refine gr ?_
        generalize numbM n.uid h.uid = u at hq ⊢
        obtain ⟨u1, u2⟩ := u
        dsimp only at hq ⊢
        refine br (fun c1 => ?_) (fun c1 => ?_)
        · rw [if_pos c1] at hq
          subst hq
          try refine gr ?_
          refine outP [] (fun i => if i = 0 then 80 else i) ?_ ?_ ?_
          all_goals first | trivial | (refine gr ?_; first | trivial | rfl)
        · rw [if_neg c1] at hq
          try refine gr ?_
          refine cl (tnumber_ok n.gid h.gid) ?_
          refine gr ?_
          generalize numbM n.gid h.gid = g at hq ⊢
          obtain ⟨g1, g2⟩ := g
          dsimp only at hq ⊢
          refine br (fun c2 => ?_) (fun c2 => ?_)
          · rw [if_pos c2] at hq
            subst hq
            try refine gr ?_
            refine outP [] (fun i => if i = 0 then 80 else i) ?_ ?_ ?_
            all_goals first | trivial | (refine gr ?_; first | trivial | rfl)
          · rw [if_neg c2] at hq
            try refine gr ?_
            refine cl (tnumber_ok n.time h.time) ?_
            refine gr ?_
            generalize numbM n.time h.time = t at hq ⊢
            obtain ⟨t1, t2⟩ := t
            dsimp only at hq ⊢
            refine br (fun c3 => ?_) (fun c3 => ?_)
            · rw [if_pos c3] at hq
              subst hq
              try refine gr ?_
              refine outP [] (fun i => if i = 0 then 80 else i) ?_ ?_ ?_
              all_goals first | trivial | (refine gr ?_; first | trivial | rfl)
            · rw [if_neg c3] at hq
              try refine gr ?_
              refine cl (tcheck_ok ⟨pth, k, h.mode, u1, g1, t1, [], d1⟩ ⟨by dsimp only; omega, by dsimp only; omega, by dsimp only; omega⟩) ?_
              refine gr ?_
              unfold putR at hq
              generalize hmm : (⟨pth, k, h.mode, u1, g1, t1, [], d1⟩ : Mbr) = m at hq ⊢
              refine br (fun c4 => ?_) (fun c4 => ?_)
              · rw [if_pos c4] at hq
                subst hq
                try refine gr ?_
                refine outP [] (fun i => if i = 0 then 80 else i) ?_ ?_ ?_
                all_goals first | trivial | (refine gr ?_; first | trivial | rfl)
              · rw [if_neg c4] at hq
                try refine gr ?_
                refine br (fun c5 => ?_) (fun c5 => ?_)
                · rw [if_pos (by omega)] at hq
                  subst hq
                  try refine gr ?_
                  refine outP [] (fun i => if i = 0 then 80 else i) ?_ ?_ ?_
                  all_goals first | trivial | (refine gr ?_; first | trivial | rfl)
                · rw [if_neg (by omega)] at hq
                  try refine gr ?_
                  refine .inr ?_
                  subst hmm
                  subst hq
                  try refine gr ?_
                  refine outP [] (fun i => if i = 0 then 116 else i) ?_ ?_ ?_
                  all_goals first | trivial | (refine gr ?_; first | trivial | rfl)
end Go.Proofs.YtikmkgoeepgbkaaGreatDoor.Ev
