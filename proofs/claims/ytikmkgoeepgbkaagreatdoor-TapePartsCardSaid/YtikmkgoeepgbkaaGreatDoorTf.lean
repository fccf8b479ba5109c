/- Archives: records that count, blocks that are read. -/
import Derived.Test.YtikmkgoeepgbkaaGreatDoorTe
set_option linter.all false
namespace Go.Proofs.YtikmkgoeepgbkaaGreatDoor.Ev
open Go.RowKit
open Go.Proofs.YtikmkgoeepgbkaaGreatDoor.Mem
set_option linter.unusedVariables false
set_option linter.unusedSimpArgs false
set_option maxRecDepth 100000
structure Nt where
  text : List UInt8
  is : Bool
structure Nts where
  path : Nt
  target : Nt
  size : Nt
  uid : Nt
  gid : Nt
  time : Nt
def dNt : Nt := ⟨[], false⟩
def dNts : Nts := ⟨dNt, dNt, dNt, dNt, dNt, dNt⟩
def eNt (n : Nt) : V := .ag [.s n.text, .b n.is]
def eNts (n : Nts) : V := .ag [.s n.path.text, .b n.path.is, .s n.target.text, .b n.target.is, .s n.size.text, .b n.size.is, .s n.uid.text, .b n.uid.is, .s n.gid.text, .b n.gid.is, .s n.time.text, .b n.time.is]
theorem eNtd : (∀ n, eNt n = .ag [.s n.text, .b n.is]) ∧ (∀ n, eNts n = .ag [.s n.path.text, .b n.path.is, .s n.target.text, .b n.target.is, .s n.size.text, .b n.size.is, .s n.uid.text, .b n.uid.is, .s n.gid.text, .b n.gid.is, .s n.time.text, .b n.time.is]) := ⟨fun _ => rfl, fun _ => rfl⟩
structure Rdr where
  text : List UInt8
  pos : Nat
  all : Nts
  next : List Pr
  has : Bool
  mem : List Mbr
def bkN (n : Nts) : Bk := .cells 51 [.s n.path.text, .b n.path.is, .s n.target.text, .b n.target.is, .s n.size.text, .b n.size.is, .s n.uid.text, .b n.uid.is, .s n.gid.text, .b n.gid.is, .s n.time.text, .b n.time.is]
def bkR (r : Rdr) (q : Nat) : Bk := .cells 54 [.s r.text, .n .i64 (r.pos : Int), .s r.all.path.text, .b r.all.path.is, .s r.all.target.text, .b r.all.target.is, .s r.all.size.text, .b r.all.size.is, .s r.all.uid.text, .b r.all.uid.is, .s r.all.gid.text, .b r.all.gid.is, .s r.all.time.text, .b r.all.time.is, .sl 2 Pr dPr r.next ePr, .b r.has, .ow q r.mem.length]
theorem bkTd : (∀ n, bkN n = .cells 51 [.s n.path.text, .b n.path.is, .s n.target.text, .b n.target.is, .s n.size.text, .b n.size.is, .s n.uid.text, .b n.uid.is, .s n.gid.text, .b n.gid.is, .s n.time.text, .b n.time.is]) ∧
    (∀ r q, bkR r q = .cells 54 [.s r.text, .n .i64 (r.pos : Int), .s r.all.path.text, .b r.all.path.is, .s r.all.target.text, .b r.all.target.is, .s r.all.size.text, .b r.all.size.is, .s r.all.uid.text, .b r.all.uid.is, .s r.all.gid.text, .b r.all.gid.is, .s r.all.time.text, .b r.all.time.is, .sl 2 Pr dPr r.next ePr, .b r.has, .ow q r.mem.length]) := ⟨fun _ => rfl, fun _ _ => rfl⟩
theorem gr {p q : Prop} (hq : q) (h : p ↔ q := by simp (config := { maxSteps := 10000000 }) (disch := omega) only [eNtd, bkTd, fxE, cBd, epw, edr, eod, false_and, and_false, fxM, cSd, wrc, eRd, eEd, eMd, eBd, eEE, rDs, eok, true_implies, eo5, ev5, Nat.mul_one, Nat.zero_mul, Nat.one_mul, Nat.add_zero, lenl, bne_self_eq_false, Int.reduceLT, Int.reduceLE, Int.reduceEq, Int.reduceNe, Int.reduceAdd, Int.reduceSub, Int.reduceMul, Int.reduceNeg, ebr, wr64, sdl, ler, true_or, or_true, rng, List.length_map, List.length_range, List.length_append, List.length_replicate, List.length_set, List.length_take, List.length_drop, List.not_mem_nil, false_implies, implies_true, ↓ec, ↓eg, ↓eo, ↓eox, ↓es, ↓et1, em, emR, efz, enl, ebx, ebt, et, ev, List.drop_nil, Option.some.injEq, Option.isSome_none, Int.reduceToNat, List.replicate_zero, Bool.or_self, ez, ef, ebd, et2, Int.toNat_natCast, Option.map_none, Option.map_some, List.all_cons, List.all_nil, Bool.and_self, List.cons_append, List.nil_append, List.append_nil, List.append_assoc, ep, ew, Option.isSome_some, id_eq, Nat.reduceLT, Nat.reduceSub, Bool.false_or, Bool.true_or, Bool.or_true, Bool.true_and, Bool.and_true, reduceCtorEq, Nat.reduceBEq, Bool.true_eq_false, Bool.false_eq_true, List.map_cons, List.map_nil, List.take_succ_cons, List.take_zero, List.drop_succ_cons, List.drop_zero, List.length_cons, List.length_nil, Nat.zero_add, Nat.reduceAdd, Nat.reduceLeDiff, Bool.not_true, Bool.not_false, List.getElem?_cons_succ, List.getElem?_cons_zero, Option.bind_some, ne_eq, not_false_eq_true, ↓eh1, eh, en, List.getD_cons_zero, List.getD_cons_succ, Nat.reduceEqDiff, ↓reduceIte, cond_true, cond_false, Bool.or_false, decide_true, decide_false, true_and, and_true, decide_eq_true_eq, decide_eq_false_iff_not, Bool.not_eq_true', Bool.not_eq_false', not_true_eq_false, Decidable.not_not]; exact Iff.rfl) : p := h.2 hq
def ofM (n : Nt) (l : List Pr) (k : List UInt8) : Nt := if (lastM l k).2 = true then ⟨(lastM l k).1, true⟩ else n
theorem tof_ok (n : Nt) (l : List Pr) (k : List UInt8) (hl : l.length ≤ 100000000000000) : Spec Tryz.prog LL 119 [eNt n, .sl 2 Pr dPr l ePr, .s k] (eNt (ofM n l k)) := by
  refine spec_of (C := ⟨Tryz.prog, LL, EE, []⟩) (rl := [eNt (ofM n l k)]) (rs := [.cell 6 49]) CCx LLs Tryz.func119 rfl (by kernel_rfl) rfl (by kernel_rfl) (Nat.le_of_ble_eq_true rfl) (fun i => rfl) (fun i => by first | rfl | exact (Bool.or_false _).trans (eSd_men _ _)) rfl (by decide) ?_
  refine gr ?_
  refine cl (plast_ok l k hl) ?_
  refine gr ?_
  unfold ofM
  refine br (fun a => ?_) (fun a => ?_)
  · rw [if_pos a]
    try refine gr ?_
    trivial
  · rw [if_neg a]
    try refine gr ?_
    trivial
def kSize : List UInt8 := [115, 105, 122, 101]
def kUid : List UInt8 := [117, 105, 100]
def kGid : List UInt8 := [103, 105, 100]
def kTime : List UInt8 := [109, 116, 105, 109, 101]
def takM (n : Nts) (l : List Pr) : Nts := ⟨ofM n.path l kPath, ofM n.target l kLink, ofM n.size l kSize, ofM n.uid l kUid, ofM n.gid l kGid, ofM n.time l kTime⟩
theorem ttake_ok (n : Nts) (l : List Pr) (hl : l.length ≤ 100000000000000) : SpecP Tryz.prog LL 89 [.p 1000000000 0, .sl 2 Pr dPr l ePr] [(1000000000, bkN n)] (.tp []) [(1000000000, bkN (takM n l))] := by
  refine spec_ofP' (C := ⟨Tryz.prog, LL, EE, []⟩) (rl := []) (rs := []) CCx LLs Tryz.func89 rfl (by kernel_rfl) rfl (by kernel_rfl) (Nat.le_of_ble_eq_true rfl) rfl rfl rfl rfl rfl rfl rfl rfl (by decide) ?_
  refine gr ?_
  refine cl (tof_ok n.path l kPath hl) ?_
  refine gr ?_
  refine cl (tof_ok n.target l kLink hl) ?_
  refine gr ?_
  refine cl (tof_ok n.size l kSize hl) ?_
  refine gr ?_
  refine cl (tof_ok n.uid l kUid hl) ?_
  refine gr ?_
  refine cl (tof_ok n.gid l kGid hl) ?_
  refine gr ?_
  refine cl (tof_ok n.time l kTime hl) ?_
  refine gr ?_
  refine outP [] (id) (gr ?_) (gr ?_) (gr ?_)
  all_goals first | trivial | rfl
theorem ttake2_ok (r : Rdr) (l : List Pr) (hl : l.length ≤ 100000000000000) : SpecP Tryz.prog LL 89 [.p 1000000000 2, .sl 2 Pr dPr l ePr] [(1000000000, bkR r 0), (0, rE r.mem)] (.tp []) [(1000000000, bkR { r with all := takM r.all l } 0), (0, rE r.mem)] := by
  refine spec_ofP' (C := ⟨Tryz.prog, LL, EE, []⟩) (rl := []) (rs := []) CCx LLs Tryz.func89 rfl (by kernel_rfl) rfl (by kernel_rfl) (Nat.le_of_ble_eq_true rfl) rfl rfl rfl rfl rfl rfl rfl rfl (by decide) ?_
  refine gr ?_
  refine cl (tof_ok r.all.path l kPath hl) ?_
  refine gr ?_
  refine cl (tof_ok r.all.target l kLink hl) ?_
  refine gr ?_
  refine cl (tof_ok r.all.size l kSize hl) ?_
  refine gr ?_
  refine cl (tof_ok r.all.uid l kUid hl) ?_
  refine gr ?_
  refine cl (tof_ok r.all.gid l kGid hl) ?_
  refine gr ?_
  refine cl (tof_ok r.all.time l kTime hl) ?_
  refine gr ?_
  refine outP [] (id) (gr ?_) (gr ?_) (gr ?_)
  all_goals first | trivial | rfl
def dgsM : List UInt8 → Nat → Int × Int
  | [], a => ((a : Int), 0)
  | b :: r, a => if b.toNat < 48 ∨ 57 < b.toNat then (0, 2) else dgsM r (a * 10 + (b.toNat - 48))
def numbM (n : Nt) (o : Int) : Int × Int := if n.is = false then (o, 0) else if n.text.length < 1 ∨ 18 < n.text.length then (0, 2) else dgsM n.text 0
theorem tnumber_ok (n : Nt) (o : Int) : Spec Tryz.prog LL 94 [eNt n, .n .i64 o] (.tp [.n .i64 (numbM n o).1, .n .i64 (numbM n o).2]) := by
  refine spec_of (C := ⟨Tryz.prog, LL, EE, []⟩) (rl := [.n .i64 (numbM n o).1, .n .i64 (numbM n o).2]) (rs := [.tmp 4, .tmp 5]) CCx LLs Tryz.func94 rfl (by kernel_rfl) rfl (by kernel_rfl) (Nat.le_of_ble_eq_true rfl) (fun i => rfl) (fun i => by first | rfl | exact (Bool.or_false _).trans (eSd_men _ _)) rfl (by decide) ?_
  refine gr ?_
  obtain ⟨r, hr⟩ : ∃ r, r = numbM n o := ⟨_, rfl⟩
  rw [← hr]
  unfold numbM at hr
  refine br (fun a => ?_) (fun a => ?_)
  · rw [if_pos a] at hr
    try refine gr ?_
    subst hr
    exact ⟨rfl, rfl⟩
  · rw [if_neg a] at hr
    try refine gr ?_
    refine br (fun b => ?_) (fun b => ?_)
    · try refine gr ?_
      refine br (fun c => ?_) (fun c => ?_)
      · rw [if_pos (by omega)] at hr
        try refine gr ?_
        subst hr
        exact ⟨rfl, rfl⟩
      · rw [if_neg (by omega)] at hr
        try refine gr ?_
        refine lp_hd [2] [2] (fun x : Nat × Nat => [(6, .n .i64 (x.2 : Int)), (7, .n .i64 (x.1 : Int))]) (fun x : Nat × Nat => []) (fun x : Nat × Nat => x.1 ≤ n.text.length ∧ r = dgsM (n.text.drop x.1) x.2 ∧ x.2 < 10 ^ x.1) (fun x : Nat × Nat => n.text.length - x.1) ((0, 0)) id (id) ⟨Nat.zero_le _, hr, by decide⟩ (fits_of (gr ?_) (gr ?_) (gr ?_) (gr ?_) (gr ?_)) ?_
        · first | exact True.intro | exact ⟨rfl, rfl⟩ | exact ⟨rfl, rfl, rfl⟩ | rfl | exact rowc (List.map_id _) | trivial
        · first | exact True.intro | exact ⟨rfl, rfl⟩ | exact ⟨rfl, rfl, rfl⟩ | rfl | exact rowc (List.map_id _) | trivial
        · first | exact True.intro | exact ⟨rfl, rfl⟩ | exact ⟨rfl, rfl, rfl⟩ | rfl | exact rowc (List.map_id _) | trivial
        · first | exact True.intro | exact ⟨rfl, rfl⟩ | exact ⟨rfl, rfl, rfl⟩ | rfl | exact rowc (List.map_id _) | trivial
        · first | exact True.intro | exact ⟨rfl, rfl⟩ | exact ⟨rfl, rfl, rfl⟩ | rfl | exact rowc (List.map_id _) | trivial
        clear hr
        rintro ⟨i, q⟩ ⟨hi, hr, hq⟩
        dsimp only at hi hr hq ⊢
        try refine gr ?_
        refine br (fun e => ?_) (fun e => ?_)
        · rw [drop_at n.text i 0 (by omega), dgsM] at hr
          have hy : (n.text.getD i 0).toNat = by' n.text i := rfl
          rw [hy] at hr
          have hyl := by_lt n.text i
          have hp : 10 ^ (i + 1) ≤ 10 ^ 18 := Nat.pow_le_pow_right (by omega) (by omega)
          have hp18 : (10 : Nat) ^ 18 = 1000000000000000000 := by decide
          rw [Nat.pow_succ] at hp
          try refine gr ?_
          refine br (fun f => ?_) (fun f => ?_)
          · try refine gr ?_
            refine br (fun g => ?_) (fun g => ?_)
            · rw [if_pos (by omega)] at hr
              try refine gr ?_
              subst hr
              exact ⟨rfl, rfl⟩
            · rw [if_neg (by omega)] at hr
              have hq2 : q * 10 + 10 ≤ 10 ^ (i + 1) := by
                rw [Nat.pow_succ]
                generalize 10 ^ i = T at hq
                omega
              have hq3 : q * 10 + 10 ≤ 1000000000000000000 := by
                rw [Nat.pow_succ] at hq2
                rw [hp18] at hp
                generalize 10 ^ i = T at hq2 hp
                omega
              clear hp
              have hw : IntKind.u8.wrap ((by' n.text i : Int) - 48) = ((by' n.text i - 48 : Nat) : Int) := by simp [IntKind.wrap, IntKind.bits, IntKind.signed]; omega
              try refine gr ?_
              refine ⟨(i + 1, q * 10 + (by' n.text i - 48)), ⟨by dsimp only; omega, hr, by dsimp only; omega⟩, (by dsimp only; omega), fits_of (gr ?_) (gr ?_) (gr ?_) (gr ?_) (gr ?_)⟩
              · first | exact True.intro | exact ⟨rfl, rfl⟩ | exact ⟨rfl, rfl, rfl⟩ | rfl | exact rowc (List.map_id _) | trivial
              · (rw [hw, show (q : Int) * 10 + ((by' n.text i - 48 : Nat) : Int) = ((q * 10 + (by' n.text i - 48) : Nat) : Int) by omega]; exact ⟨rfl, rfl⟩)
              · first | exact True.intro | exact ⟨rfl, rfl⟩ | exact ⟨rfl, rfl, rfl⟩ | rfl | exact rowc (List.map_id _) | trivial
              · first | exact True.intro | exact ⟨rfl, rfl⟩ | exact ⟨rfl, rfl, rfl⟩ | rfl | exact rowc (List.map_id _) | trivial
              · first | exact True.intro | exact ⟨rfl, rfl⟩ | exact ⟨rfl, rfl, rfl⟩ | rfl | exact rowc (List.map_id _) | trivial
          · rw [if_pos (by omega)] at hr
            try refine gr ?_
            subst hr
            exact ⟨rfl, rfl⟩
        · rw [List.drop_eq_nil_of_le (by omega), dgsM] at hr
          try refine gr ?_
          subst hr
          exact ⟨rfl, rfl⟩
    · rw [if_pos (by omega)] at hr
      try refine gr ?_
      subst hr
      exact ⟨rfl, rfl⟩
def orM (n : Nt) (w : List UInt8) : List UInt8 := if n.is = true then n.text else w
theorem tor_ok (n : Nt) (w : List UInt8) : Spec Tryz.prog LL 93 [eNt n, .s w] (.s (orM n w)) := by
  refine spec_of (C := ⟨Tryz.prog, LL, EE, []⟩) (rl := [.s (orM n w)]) (rs := [.tmp 4]) CCx LLs Tryz.func93 rfl (by kernel_rfl) rfl (by kernel_rfl) (Nat.le_of_ble_eq_true rfl) (fun i => rfl) (fun i => by first | rfl | exact (Bool.or_false _).trans (eSd_men _ _)) rfl (by decide) ?_
  refine gr ?_
  unfold orM
  refine br (fun a => ?_) (fun a => ?_)
  · rw [if_pos a]
    try refine gr ?_
    trivial
  · rw [if_neg a]
    try refine gr ?_
    trivial
def kindM (c : UInt8) : Int × Int := if c.toNat = 48 ∨ c.toNat = 0 then (1, 0) else if c.toNat = 49 then (4, 0) else if c.toNat = 50 then (3, 0) else if c.toNat = 53 then (2, 0) else (0, 2)
theorem tkind_ok (c : UInt8) : Spec Tryz.prog LL 90 [.n .u8 (c.toNat : Int)] (.tp [.n .i64 (kindM c).1, .n .i64 (kindM c).2]) := by
  refine spec_of (C := ⟨Tryz.prog, LL, EE, []⟩) (rl := [.n .i64 (kindM c).1, .n .i64 (kindM c).2]) (rs := [.tmp 2, .tmp 3]) CCx LLs Tryz.func90 rfl (by kernel_rfl) rfl (by kernel_rfl) (Nat.le_of_ble_eq_true rfl) (fun i => rfl) (fun i => by first | rfl | exact (Bool.or_false _).trans (eSd_men _ _)) rfl (by decide) ?_
  refine gr ?_
  obtain ⟨r, hr⟩ : ∃ r, r = kindM c := ⟨_, rfl⟩
  rw [← hr]
  unfold kindM at hr
  have h8 := c.toNat_lt
  repeat' (first | exact True.intro | ((exfalso; omega)) | ((rw [hr, if_pos (by omega)]; exact ⟨rfl, rfl⟩)) | ((rw [hr, if_neg (by omega), if_pos (by omega)]; exact ⟨rfl, rfl⟩)) | ((rw [hr, if_neg (by omega), if_neg (by omega), if_pos (by omega)]; exact ⟨rfl, rfl⟩)) | ((rw [hr, if_neg (by omega), if_neg (by omega), if_neg (by omega), if_pos (by omega)]; exact ⟨rfl, rfl⟩)) | ((rw [hr, if_neg (by omega), if_neg (by omega), if_neg (by omega), if_neg (by omega)]; exact ⟨rfl, rfl⟩)) | refine br (fun h => ?_) (fun h => ?_) | refine gr ?_)
def blankZ (s : List UInt8) : Bool := decide (Lib.trimB s 0 = [])
theorem tblank_ok (s : List UInt8) (hs : s.length ≤ 9223372036854775807) : Spec Tryz.prog LL 83 [.s s] (.b (blankZ s)) := by
  refine spec_of (C := ⟨Tryz.prog, LL, EE, []⟩) (rl := [.b (blankZ s)]) (rs := [.tmp 2]) CCx LLs Tryz.func83 rfl (by kernel_rfl) rfl (by kernel_rfl) (Nat.le_of_ble_eq_true rfl) (fun i => rfl) (fun i => by first | rfl | exact (Bool.or_false _).trans (eSd_men _ _)) rfl (by decide) ?_
  refine gr ?_
  refine cl (trim_ok s 0 (by decide) hs) ?_
  refine gr ?_
  rfl
end Go.Proofs.YtikmkgoeepgbkaaGreatDoor.Ev
