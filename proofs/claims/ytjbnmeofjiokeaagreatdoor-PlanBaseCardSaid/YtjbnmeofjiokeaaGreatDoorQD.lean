/- Plans: what is asked on the way. -/
import Derived.Test.YtjbnmeofjiokeaaGreatDoorPC
import Derived.Test.YtjbnmeofjiokeaaGreatDoorNA
import Derived.Test.YtjbnmeofjiokeaaGreatDoorKD
import Derived.Test.YtjbnmeofjiokeaaGreatDoorPB
set_option linter.all false
namespace Go.Proofs.YtjbnmeofjiokeaaGreatDoor.Ev
open Go.RowKit
open Go.Proofs.YtjbnmeofjiokeaaGreatDoor.Mem
set_option linter.unusedVariables false
set_option linter.unusedSimpArgs false
set_option maxRecDepth 100000
theorem sum_ok (s : List UInt8) (hs : s.length ≤ 140737488355328) : Spec Tryz.prog LL 72 [.s s] (.s (Sha.sha (tx s))) := by
  refine Spec.of (fn := Tryz.f72) Tryz.func72 (by kernel_rfl) (by kernel_rfl) (fun _ => rfl) fun S W xs hL hz hx _ => ?_
  rw [ag1 hz hx rfl]
  exact (Sha.sum_any (tx s) W (by rw [tx_size]; exact hs) hL.2).mono fun e W' h => ⟨_, h.1, h.2, .s _ _⟩
/-- A plan in the making: what it looks at. -/
structure Mak where
  base : Bas
  tree : List Stt
  old : Man
  next : Man
def bkQ (q : Mak) (a n b k : Nat) : Bk := .cells 65 [.sl 5 Man dMn q.base.packs eMan, .sl 3 Shr dS q.base.dirs eShr, .sl 8 Stt dT q.tree eStt, .s q.old.name, .s q.old.ver, .sl 3 Rul dR q.old.needs eRul, .sl 3 Rul dR q.old.clashes eRul, .sl 5 Ent dE q.old.ents eEnt, .s q.next.name, .s q.next.ver, .sl 3 Rul dR q.next.needs eRul, .sl 3 Rul dR q.next.clashes eRul, .sl 5 Ent dE q.next.ents eEnt, .ow a n, .ow b k]
theorem bkQd : ∀ (q : Mak) (a n b k : Nat), bkQ q a n b k = .cells 65 [.sl 5 Man dMn q.base.packs eMan, .sl 3 Shr dS q.base.dirs eShr, .sl 8 Stt dT q.tree eStt, .s q.old.name, .s q.old.ver, .sl 3 Rul dR q.old.needs eRul, .sl 3 Rul dR q.old.clashes eRul, .sl 5 Ent dE q.old.ents eEnt, .s q.next.name, .s q.next.ver, .sl 3 Rul dR q.next.needs eRul, .sl 3 Rul dR q.next.clashes eRul, .sl 5 Ent dE q.next.ents eEnt, .ow a n, .ow b k] := fun _ _ _ _ _ => rfl
theorem gp {p q : Prop} (hq : q) (h : p ↔ q := by simp (config := { maxSteps := 10000000 }) (disch := omega) only [fxP, rPd, eokP, cPd, eTd, eBrd, ePd, bkQd, edr, eod, false_and, and_false, epw, eokO, cSo, rDo, eSh, eBsd, evw, fxM, cSd, wrc, eRd, eEd, eMd, eBd, eEE, rDs, eok, true_implies, eo5, ev5, Nat.mul_one, Nat.zero_mul, Nat.one_mul, Nat.add_zero, lenl, bne_self_eq_false, Int.reduceLT, Int.reduceLE, Int.reduceEq, Int.reduceNe, Int.reduceAdd, Int.reduceSub, Int.reduceMul, Int.reduceNeg, ebr, wr64, sdl, ler, true_or, or_true, rng, List.length_map, List.length_range, List.length_append, List.length_replicate, List.length_set, List.length_take, List.length_drop, List.not_mem_nil, false_implies, implies_true, ↓ec, ↓eg, ↓eo, ↓eox, ↓es, ↓et1, em, emR, efz, enl, ebx, ebt, et, ev, List.drop_nil, Option.some.injEq, Option.isSome_none, Int.reduceToNat, List.replicate_zero, Bool.or_self, ez, ef, ebd, et2, Int.toNat_natCast, Option.map_none, Option.map_some, List.all_cons, List.all_nil, Bool.and_self, List.cons_append, List.nil_append, List.append_nil, List.append_assoc, ep, ew, Option.isSome_some, id_eq, Nat.reduceLT, Nat.reduceSub, Bool.false_or, Bool.true_or, Bool.or_true, Bool.true_and, Bool.and_true, reduceCtorEq, Nat.reduceBEq, Bool.true_eq_false, Bool.false_eq_true, List.map_cons, List.map_nil, List.take_succ_cons, List.take_zero, List.drop_succ_cons, List.drop_zero, List.length_cons, List.length_nil, Nat.zero_add, Nat.reduceAdd, Nat.reduceLeDiff, Bool.not_true, Bool.not_false, List.getElem?_cons_succ, List.getElem?_cons_zero, Option.bind_some, ne_eq, not_false_eq_true, ↓eh1, eh, en, List.getD_cons_zero, List.getD_cons_succ, Nat.reduceEqDiff, ↓reduceIte, cond_true, cond_false, Bool.or_false, decide_true, decide_false, true_and, and_true, decide_eq_true_eq, decide_eq_false_iff_not, Bool.not_eq_true', Bool.not_eq_false', not_true_eq_false, Decidable.not_not]; exact Iff.rfl) : p := h.2 hq
theorem leave_ok (a b : List UInt8) : Spec Tryz.prog LL 71 [.s a, .s b] (.b (decide (¬ b = a))) := by
  refine spec_of (C := ⟨Tryz.prog, LL, EE, []⟩) (rl := [.b (decide (¬ b = a))]) (rs := [.tmp 4]) CCx LLs Tryz.func71 rfl (by kernel_rfl) rfl (by kernel_rfl) (Nat.le_of_ble_eq_true rfl) (fun i => rfl) (fun i => by first | rfl | exact (Bool.or_false _).trans (eSd_men _ _)) rfl (by decide) ?_
  refine gp ?_
  trivial
theorem csave_ok (w : List UInt8) (hw : w.length ≤ 281474976710656) : Spec Tryz.prog LL 73 [.s w] (.s (w ++ [46, 115, 97, 118, 101])) := by
  refine spec_of (C := ⟨Tryz.prog, LL, EE, []⟩) (rl := [.s (w ++ [46, 115, 97, 118, 101])]) (rs := [.tmp 2]) CCx LLs Tryz.func73 rfl (by kernel_rfl) rfl (by kernel_rfl) (Nat.le_of_ble_eq_true rfl) (fun i => rfl) (fun i => by first | rfl | exact (Bool.or_false _).trans (eSd_men _ _)) rfl (by decide) ?_
  refine gp ?_
  trivial
theorem cnew_ok (w : List UInt8) (hw : w.length ≤ 281474976710656) : Spec Tryz.prog LL 87 [.s w] (.s (w ++ [46, 110, 101, 119])) := by
  refine spec_of (C := ⟨Tryz.prog, LL, EE, []⟩) (rl := [.s (w ++ [46, 110, 101, 119])]) (rs := [.tmp 2]) CCx LLs Tryz.func87 rfl (by kernel_rfl) rfl (by kernel_rfl) (Nat.le_of_ble_eq_true rfl) (fun i => rfl) (fun i => by first | rfl | exact (Bool.or_false _).trans (eSd_men _ _)) rfl (by decide) ?_
  refine gp ?_
  trivial
def decM (orig now next : List UInt8) : Int := if now = orig then 1 else if next = orig ∨ next = now then 2 else 3
theorem decide_ok (a b c : List UInt8) : Spec Tryz.prog LL 86 [.s a, .s b, .s c] (.n .i64 (decM a b c)) := by
  refine spec_of (C := ⟨Tryz.prog, LL, EE, []⟩) (rl := [.n .i64 (decM a b c)]) (rs := [.tmp 6]) CCx LLs Tryz.func86 rfl (by kernel_rfl) rfl (by kernel_rfl) (Nat.le_of_ble_eq_true rfl) (fun i => rfl) (fun i => by first | rfl | exact (Bool.or_false _).trans (eSd_men _ _)) rfl (by decide) ?_
  refine gp ?_
  unfold decM
  repeat' (first | exact True.intro | ((simp_all; done)) | refine br (fun h => ?_) (fun h => ?_) | refine gp ?_)
def atM : List Stt → List UInt8 → Stt × Bool
  | [], _ => (dT, false)
  | s :: r, w => if s.path = w then (s, true) else atM r w
theorem at_ok (l : List Stt) (w : List UInt8) (hl : l.length ≤ 100000000000000) : Spec Tryz.prog LL 46 [.sl 8 Stt dT l eStt, .s w] (.tp [eStt (atM l w).1, .b (atM l w).2]) := by
  refine spec_of (C := ⟨Tryz.prog, LL, EE, []⟩) (rl := [eStt (atM l w).1, .b (atM l w).2]) (rs := [.cell 4 55, .tmp 5]) CCx LLs Tryz.func46 rfl (by kernel_rfl) rfl (by kernel_rfl) (Nat.le_of_ble_eq_true rfl) (fun i => rfl) (fun i => by first | rfl | exact (Bool.or_false _).trans (eSd_men _ _)) rfl (by decide) ?_
  refine gp ?_
  refine lp_hd [1, 4, 8, 9] [4] (fun i : Nat => [(10, .n .i64 (i : Int))]) (fun i : Nat => []) (fun i : Nat => i ≤ l.length ∧ atM l w = atM (l.drop i) w) (fun i : Nat => l.length - i) (0) id (id) ⟨Nat.zero_le _, rfl⟩ (fits_of (gp ?_) (gp ?_) (gp ?_) (gp ?_) (gp ?_)) ?_
  · first | exact True.intro | exact ⟨rfl, rfl⟩ | exact ⟨rfl, rfl, rfl⟩ | rfl | exact rowc (List.map_id _) | trivial
  · first | exact True.intro | exact ⟨rfl, rfl⟩ | exact ⟨rfl, rfl, rfl⟩ | rfl | exact rowc (List.map_id _) | trivial
  · first | exact True.intro | exact ⟨rfl, rfl⟩ | exact ⟨rfl, rfl, rfl⟩ | rfl | exact rowc (List.map_id _) | trivial
  · first | exact True.intro | exact ⟨rfl, rfl⟩ | exact ⟨rfl, rfl, rfl⟩ | rfl | exact rowc (List.map_id _) | trivial
  · first | exact True.intro | exact ⟨rfl, rfl⟩ | exact ⟨rfl, rfl, rfl⟩ | rfl | exact rowc (List.map_id _) | trivial
  rintro i ⟨hi, hr⟩
  try refine gp ?_
  refine br (fun e => ?_) (fun e => ?_)
  · rw [drop_at l i dT (by omega), atM] at hr
    try refine gp ?_
    generalize l.getD i dT = x at hr
    refine br (fun c => ?_) (fun c => ?_)
    · rw [if_pos c] at hr
      try refine gp ?_
      rw [hr]
      exact ⟨le_refl _, rfl⟩
    · rw [if_neg c] at hr
      try refine gp ?_
      refine ⟨i + 1, ⟨by omega, hr⟩, (by omega), fits_of (gp ?_) (gp ?_) (gp ?_) (gp ?_) (gp ?_)⟩
      · first | exact True.intro | exact ⟨rfl, rfl⟩ | exact ⟨rfl, rfl, rfl⟩ | rfl | exact rowc (List.map_id _) | trivial
      · first | exact True.intro | exact ⟨rfl, rfl⟩ | exact ⟨rfl, rfl, rfl⟩ | rfl | exact rowc (List.map_id _) | trivial
      · first | exact True.intro | exact ⟨rfl, rfl⟩ | exact ⟨rfl, rfl, rfl⟩ | rfl | exact rowc (List.map_id _) | trivial
      · first | exact True.intro | exact ⟨rfl, rfl⟩ | exact ⟨rfl, rfl, rfl⟩ | rfl | exact rowc (List.map_id _) | trivial
      · first | exact True.intro | exact ⟨rfl, rfl⟩ | exact ⟨rfl, rfl, rfl⟩ | rfl | exact rowc (List.map_id _) | trivial
  · try refine gp ?_
    rw [hr, List.drop_eq_nil_of_le (by omega)]
    exact ⟨le_refl _, rfl⟩
theorem pshared_ok (b : Bas) (w : List UInt8) (hb : b.Big) : Spec Tryz.prog LL 51 [eBas b, .s w] (.b (dirIx b.dirs w)) := by
  refine spec_of (C := ⟨Tryz.prog, LL, EE, []⟩) (rl := [.b (dirIx b.dirs w)]) (rs := [.tmp 4]) CCx LLs Tryz.func51 rfl (by kernel_rfl) rfl (by kernel_rfl) (Nat.le_of_ble_eq_true rfl) (fun i => rfl) (fun i => by first | rfl | exact (Bool.or_false _).trans (eSd_men _ _)) rfl (by decide) ?_
  refine gp ?_
  have hbd := hb.d
  refine lp_hd [1, 8, 9] [] (fun i : Nat => [(10, .n .i64 (i : Int))]) (fun i : Nat => []) (fun i : Nat => i ≤ b.dirs.length ∧ dirIx b.dirs w = dirIx (b.dirs.drop i) w) (fun i : Nat => b.dirs.length - i) (0) id (id) ⟨Nat.zero_le _, rfl⟩ (fits_of (gp ?_) (gp ?_) (gp ?_) (gp ?_) (gp ?_)) ?_
  · first | exact True.intro | exact ⟨rfl, rfl⟩ | exact ⟨rfl, rfl, rfl⟩ | rfl | exact rowc (List.map_id _) | trivial
  · first | exact True.intro | exact ⟨rfl, rfl⟩ | exact ⟨rfl, rfl, rfl⟩ | rfl | exact rowc (List.map_id _) | trivial
  · first | exact True.intro | exact ⟨rfl, rfl⟩ | exact ⟨rfl, rfl, rfl⟩ | rfl | exact rowc (List.map_id _) | trivial
  · first | exact True.intro | exact ⟨rfl, rfl⟩ | exact ⟨rfl, rfl, rfl⟩ | rfl | exact rowc (List.map_id _) | trivial
  · first | exact True.intro | exact ⟨rfl, rfl⟩ | exact ⟨rfl, rfl, rfl⟩ | rfl | exact rowc (List.map_id _) | trivial
  rintro i ⟨hi, hr⟩
  try refine gp ?_
  refine br (fun e => ?_) (fun e => ?_)
  · rw [drop_at b.dirs i dS (by omega), show ∀ (d : Shr) (l : List Shr), dirIx (d :: l) w = (decide (d.path = w) || dirIx l w) from fun d l => by unfold dirIx; rw [List.any_cons]] at hr
    try refine gp ?_
    generalize b.dirs.getD i dS = x at hr
    refine br (fun c => ?_) (fun c => ?_)
    · rw [decide_eq_true c, Bool.true_or] at hr
      try refine gp ?_
      rw [hr]
    · rw [decide_eq_false c, Bool.false_or] at hr
      try refine gp ?_
      refine ⟨i + 1, ⟨by omega, hr⟩, (by omega), fits_of (gp ?_) (gp ?_) (gp ?_) (gp ?_) (gp ?_)⟩
      · first | exact True.intro | exact ⟨rfl, rfl⟩ | exact ⟨rfl, rfl, rfl⟩ | rfl | exact rowc (List.map_id _) | trivial
      · first | exact True.intro | exact ⟨rfl, rfl⟩ | exact ⟨rfl, rfl, rfl⟩ | rfl | exact rowc (List.map_id _) | trivial
      · first | exact True.intro | exact ⟨rfl, rfl⟩ | exact ⟨rfl, rfl, rfl⟩ | rfl | exact rowc (List.map_id _) | trivial
      · first | exact True.intro | exact ⟨rfl, rfl⟩ | exact ⟨rfl, rfl, rfl⟩ | rfl | exact rowc (List.map_id _) | trivial
      · first | exact True.intro | exact ⟨rfl, rfl⟩ | exact ⟨rfl, rfl, rfl⟩ | rfl | exact rowc (List.map_id _) | trivial
  · try refine gp ?_
    rw [hr, List.drop_eq_nil_of_le (by omega)]
    rfl
def chgM (x : Ent) (s : Stt) : Bool := decide (x.kind = 5) && (decide (s.kind = 1) && decide (¬ Sha.sha (tx s.data) = x.sum))
theorem chg_ok (x : Ent) (s : Stt) (hs : s.data.length ≤ 140737488355328) : Spec Tryz.prog LL 47 [eEnt x, eStt s] (.b (chgM x s)) := by
  refine spec_of (C := ⟨Tryz.prog, LL, EE, []⟩) (rl := [.b (chgM x s)]) (rs := [.tmp 4]) CCx LLs Tryz.func47 rfl (by kernel_rfl) rfl (by kernel_rfl) (Nat.le_of_ble_eq_true rfl) (fun i => rfl) (fun i => by first | rfl | exact (Bool.or_false _).trans (eSd_men _ _)) rfl (by decide) ?_
  refine gp ?_
  unfold chgM
  refine br (fun c => ?_) (fun c => ?_)
  · rw [decide_eq_true c, Bool.true_and]
    try refine gp ?_
    refine br (fun c2 => ?_) (fun c2 => ?_)
    · rw [decide_eq_true c2, Bool.true_and]
      try refine gp ?_
      refine cd (sum_ok s.data hs) ?_
      refine gp ?_
      refine cd (leave_ok x.sum (Sha.sha (tx s.data))) ?_
      refine gp ?_
      trivial
    · rw [decide_eq_false c2, Bool.false_and]
      try refine gp ?_
  · rw [decide_eq_false c, Bool.false_and]
    try refine gp ?_
theorem padd_ok (q : Mak) (s : List Stp) (md : List (List UInt8)) (x : Stp) (hl : s.length ≤ 1000000) : SpecP Tryz.prog LL 52 [.p 1000000000 0, eStp x] [(1000000000, bkQ q 0 s.length 1 md.length), (0, rP s), (1, rS md)] (.tp []) [(1000000000, bkQ q 0 (s ++ [x]).length 1 md.length), (0, rP (s ++ [x])), (1, rS md)] := by
  refine spec_ofP' (C := ⟨Tryz.prog, LL, EE, []⟩) (rl := []) (rs := []) CCx LLs Tryz.func52 rfl (by kernel_rfl) rfl (by kernel_rfl) (Nat.le_of_ble_eq_true rfl) rfl rfl rfl rfl rfl rfl rfl rfl (by decide) ?_
  refine gp ?_
  refine .inr ?_
  try refine gp ?_
  refine outP [] (fun i => if i = 0 then 11 else i) (gp ?_) (gp ?_) (gp ?_)
  all_goals trivial
end Go.Proofs.YtjbnmeofjiokeaaGreatDoor.Ev
namespace Go.Proofs.YtjbnmeofjiokeaaGreatDoor.Ev
open Go.RowKit
open Go.Proofs.YtjbnmeofjiokeaaGreatDoor.Mem
set_option linter.unusedVariables false
set_option linter.unusedSimpArgs false
set_option maxRecDepth 100000
def bringS (w : List UInt8) (x : Ent) (m : Mbr) : Stp := if x.kind = 2 then ⟨1, w, x.mode, m.uid, m.gid, m.time, m.data, []⟩ else if x.kind = 3 then ⟨3, w, x.mode, m.uid, m.gid, m.time, m.data, x.target⟩ else ⟨2, w, x.mode, m.uid, m.gid, m.time, m.data, []⟩
def cutS (w : List UInt8) : Stp := ⟨4, w, 0, 0, 0, 0, [], []⟩
theorem pcut_ok (q : Mak) (s : List Stp) (md : List (List UInt8)) (w : List UInt8) (hl : s.length ≤ 1000000) : SpecP Tryz.prog LL 48 [.p 1000000000 0, .s w] [(1000000000, bkQ q 0 s.length 1 md.length), (0, rP s), (1, rS md)] (.tp []) [(1000000000, bkQ q 0 (s ++ [cutS w]).length 1 md.length), (0, rP (s ++ [cutS w])), (1, rS md)] := by
  refine spec_ofP' (C := ⟨Tryz.prog, LL, EE, []⟩) (rl := []) (rs := []) CCx LLs Tryz.func48 rfl (by kernel_rfl) rfl (by kernel_rfl) (Nat.le_of_ble_eq_true rfl) rfl rfl rfl rfl rfl rfl rfl rfl (by decide) ?_
  refine gp ?_
  refine cp (fun i => i) (fun i => if i = 0 then 20 else if i = 1 then 21 else i) (padd_ok q s md (cutS w) hl) (gp ?_) (gp ?_) (gp ?_) (gp ?_) (gp ?_) ?_
  · first | trivial | exact ⟨rfl, rfl⟩ | exact ⟨rfl, rfl, rfl⟩ | exact le_refl _
  · first | trivial | exact ⟨rfl, rfl⟩ | exact ⟨rfl, rfl, rfl⟩ | exact le_refl _
  · first | trivial | exact ⟨rfl, rfl⟩ | exact ⟨rfl, rfl, rfl⟩ | exact le_refl _
  · first | trivial | exact ⟨rfl, rfl⟩ | exact ⟨rfl, rfl, rfl⟩ | exact le_refl _
  · first | trivial | exact ⟨rfl, rfl⟩ | exact ⟨rfl, rfl, rfl⟩ | exact le_refl _
  refine gp ?_
  refine outP [] (fun i => if i = 0 then 20 else if i = 1 then 21 else i) (gp ?_) (gp ?_) (gp ?_)
  all_goals trivial
theorem pbring_ok (q : Mak) (s : List Stp) (md : List (List UInt8)) (w : List UInt8) (x : Ent) (m : Mbr) (hl : s.length ≤ 1000000) : SpecP Tryz.prog LL 65 [.p 1000000000 0, .s w, eEnt x, eMbr m] [(1000000000, bkQ q 0 s.length 1 md.length), (0, rP s), (1, rS md)] (.tp []) [(1000000000, bkQ q 0 (s ++ [bringS w x m]).length 1 md.length), (0, rP (s ++ [bringS w x m])), (1, rS md)] := by
  refine spec_ofP' (C := ⟨Tryz.prog, LL, EE, []⟩) (rl := []) (rs := []) CCx LLs Tryz.func65 rfl (by kernel_rfl) rfl (by kernel_rfl) (Nat.le_of_ble_eq_true rfl) rfl rfl rfl rfl rfl rfl rfl rfl (by decide) ?_
  refine gp ?_
  refine br (fun c => ?_) (fun c => ?_)
  · have hs : bringS w x m = ⟨1, w, x.mode, m.uid, m.gid, m.time, m.data, []⟩ := by unfold bringS; rw [if_pos c]
    rw [hs]
    try refine gp ?_
    refine cp (fun i => i) (fun i => if i = 0 then 40 else if i = 1 then 41 else i) (padd_ok q s md ⟨1, w, x.mode, m.uid, m.gid, m.time, m.data, []⟩ hl) (gp ?_) (gp ?_) (gp ?_) (gp ?_) (gp ?_) ?_
    · first | trivial | exact ⟨rfl, rfl⟩ | exact ⟨rfl, rfl, rfl⟩ | exact le_refl _
    · first | trivial | exact ⟨rfl, rfl⟩ | exact ⟨rfl, rfl, rfl⟩ | exact le_refl _
    · first | trivial | exact ⟨rfl, rfl⟩ | exact ⟨rfl, rfl, rfl⟩ | exact le_refl _
    · first | trivial | exact ⟨rfl, rfl⟩ | exact ⟨rfl, rfl, rfl⟩ | exact le_refl _
    · first | trivial | exact ⟨rfl, rfl⟩ | exact ⟨rfl, rfl, rfl⟩ | exact le_refl _
    refine gp ?_
    refine outP [] (fun i => if i = 0 then 40 else if i = 1 then 41 else i) (gp ?_) (gp ?_) (gp ?_)
    all_goals trivial
  · try refine gp ?_
    refine br (fun c3 => ?_) (fun c3 => ?_)
    · have hs : bringS w x m = ⟨3, w, x.mode, m.uid, m.gid, m.time, m.data, x.target⟩ := by unfold bringS; rw [if_neg c, if_pos c3]
      rw [hs]
      try refine gp ?_
      refine cp (fun i => i) (fun i => if i = 0 then 40 else if i = 1 then 41 else i) (padd_ok q s md ⟨3, w, x.mode, m.uid, m.gid, m.time, m.data, x.target⟩ hl) (gp ?_) (gp ?_) (gp ?_) (gp ?_) (gp ?_) ?_
      · first | trivial | exact ⟨rfl, rfl⟩ | exact ⟨rfl, rfl, rfl⟩ | exact le_refl _
      · first | trivial | exact ⟨rfl, rfl⟩ | exact ⟨rfl, rfl, rfl⟩ | exact le_refl _
      · first | trivial | exact ⟨rfl, rfl⟩ | exact ⟨rfl, rfl, rfl⟩ | exact le_refl _
      · first | trivial | exact ⟨rfl, rfl⟩ | exact ⟨rfl, rfl, rfl⟩ | exact le_refl _
      · first | trivial | exact ⟨rfl, rfl⟩ | exact ⟨rfl, rfl, rfl⟩ | exact le_refl _
      refine gp ?_
      refine outP [] (fun i => if i = 0 then 40 else if i = 1 then 41 else i) (gp ?_) (gp ?_) (gp ?_)
      all_goals trivial
    · have hs : bringS w x m = ⟨2, w, x.mode, m.uid, m.gid, m.time, m.data, []⟩ := by unfold bringS; rw [if_neg c, if_neg c3]
      rw [hs]
      try refine gp ?_
      refine cp (fun i => i) (fun i => if i = 0 then 40 else if i = 1 then 41 else i) (padd_ok q s md ⟨2, w, x.mode, m.uid, m.gid, m.time, m.data, []⟩ hl) (gp ?_) (gp ?_) (gp ?_) (gp ?_) (gp ?_) ?_
      · first | trivial | exact ⟨rfl, rfl⟩ | exact ⟨rfl, rfl, rfl⟩ | exact le_refl _
      · first | trivial | exact ⟨rfl, rfl⟩ | exact ⟨rfl, rfl, rfl⟩ | exact le_refl _
      · first | trivial | exact ⟨rfl, rfl⟩ | exact ⟨rfl, rfl, rfl⟩ | exact le_refl _
      · first | trivial | exact ⟨rfl, rfl⟩ | exact ⟨rfl, rfl, rfl⟩ | exact le_refl _
      · first | trivial | exact ⟨rfl, rfl⟩ | exact ⟨rfl, rfl, rfl⟩ | exact le_refl _
      refine gp ?_
      refine outP [] (fun i => if i = 0 then 40 else if i = 1 then 41 else i) (gp ?_) (gp ?_) (gp ?_)
      all_goals trivial
def spareM (q : Mak) (w : List UInt8) : Int := if ¬ (partsM w).2 = 0 then (partsM w).2 else if (ownM q.base.packs w).2 = true ∨ (hasM q.next.ents w).2 = true then 14 else if (atM q.tree w).2 = true ∧ ¬ (atM q.tree w).1.kind = 1 then 7 else 0
/-- What a plan looks at has room. -/
structure Mak.Big (q : Mak) : Prop where
  b : q.base.Big
  t : q.tree.length ≤ 100000000000000
  td : ∀ s ∈ q.tree, s.data.length ≤ 140737488355328
  o : q.old.ents.length ≤ 100000000000000
  n : q.next.ents.length ≤ 100000000000000
  op : ∀ x ∈ q.old.ents, x.path.length ≤ 140737488355328
  np : ∀ x ∈ q.next.ents, x.path.length ≤ 140737488355328
theorem pspare_ok (q : Mak) (s : List Stp) (md : List (List UInt8)) (w : List UInt8) (hq : q.Big) (hw : w.length ≤ 281474976710656) : SpecP Tryz.prog LL 74 [.p 1000000000 0, .s w] [(1000000000, bkQ q 0 s.length 1 md.length), (0, rP s), (1, rS md)] (.n .i64 (spareM q w)) [(1000000000, bkQ q 0 s.length 1 md.length), (0, rP s), (1, rS md)] := by
  refine spec_ofP' (C := ⟨Tryz.prog, LL, EE, []⟩) (rl := [.n .i64 (spareM q w)]) (rs := [.tmp 4]) CCx LLs Tryz.func74 rfl (by kernel_rfl) rfl (by kernel_rfl) (Nat.le_of_ble_eq_true rfl) rfl rfl rfl rfl rfl rfl rfl rfl (by decide) ?_
  refine gp ?_
  have hqb := hq.b
  have hqt := hq.t
  have hqn := hq.n
  refine cl (parts2_ok w hw) ?_
  refine gp ?_
  unfold spareM
  refine br (fun e => ?_) (fun e => ?_)
  · rw [if_pos e]
    try refine gp ?_
    refine outP [] (id) (gp ?_) (gp ?_) (gp ?_)
    all_goals trivial
  · rw [if_neg e]
    try refine gp ?_
    refine cl (owner_ok q.base w hqb) ?_
    refine gp ?_
    refine cl (has_ok q.next w hqn) ?_
    refine gp ?_
    generalize ownM q.base.packs w = o
    generalize hasM q.next.ents w = h
    obtain ⟨o1, o2⟩ := o
    obtain ⟨h1, h2⟩ := h
    dsimp only
    cases o2 with
    | true =>
      rw [if_pos (.inl rfl)]
      try refine gp ?_
      refine outP [] (id) (gp ?_) (gp ?_) (gp ?_)
      all_goals trivial
    | false =>
      cases h2 with
      | true =>
        rw [if_pos (.inr rfl)]
        try refine gp ?_
        refine outP [] (id) (gp ?_) (gp ?_) (gp ?_)
        all_goals trivial
      | false =>
        rw [if_neg (by simp)]
        try refine gp ?_
        refine cl (at_ok q.tree w hqt) ?_
        refine gp ?_
        generalize atM q.tree w = t
        obtain ⟨t1, t2⟩ := t
        dsimp only
        cases t2 with
        | false =>
          rw [if_neg (by simp)]
          try refine gp ?_
          refine outP [] (id) (gp ?_) (gp ?_) (gp ?_)
          all_goals trivial
        | true =>
          try refine gp ?_
          refine br (fun k => ?_) (fun k => ?_)
          · rw [if_pos k]
            try refine gp ?_
            refine outP [] (id) (gp ?_) (gp ?_) (gp ?_)
            all_goals trivial
          · rw [if_neg k]
            try refine gp ?_
            refine outP [] (id) (gp ?_) (gp ?_) (gp ?_)
            all_goals trivial
def saveS (w : List UInt8) : Stp := ⟨6, w, 0, 0, 0, 0, [], w ++ [46, 115, 97, 118, 101]⟩
def saveM (q : Mak) (s : List Stp) (w : List UInt8) : Int × List Stp :=
  if ¬ spareM q (w ++ [46, 115, 97, 118, 101]) = 0 then (spareM q (w ++ [46, 115, 97, 118, 101]), s) else (0, (if (atM q.tree (w ++ [46, 115, 97, 118, 101])).2 = true then s ++ [cutS (w ++ [46, 115, 97, 118, 101])] else s) ++ [saveS w])
theorem psave_ok (q : Mak) (s : List Stp) (md : List (List UInt8)) (w : List UInt8) (hq : q.Big) (hw : w.length ≤ 140737488355328) (hl : s.length ≤ 900000) : SpecP Tryz.prog LL 49 [.p 1000000000 0, .s w] [(1000000000, bkQ q 0 s.length 1 md.length), (0, rP s), (1, rS md)] (.n .i64 (saveM q s w).1) [(1000000000, bkQ q 0 (saveM q s w).2.length 1 md.length), (0, rP (saveM q s w).2), (1, rS md)] := by
  refine spec_ofP' (C := ⟨Tryz.prog, LL, EE, []⟩) (rl := [.n .i64 (saveM q s w).1]) (rs := [.tmp 4]) CCx LLs Tryz.func49 rfl (by kernel_rfl) rfl (by kernel_rfl) (Nat.le_of_ble_eq_true rfl) rfl rfl rfl rfl rfl rfl rfl rfl (by decide) ?_
  refine gp ?_
  have hqt := hq.t
  refine cl (csave_ok w (by omega)) ?_
  refine gp ?_
  generalize hto : w ++ [46, 115, 97, 118, 101] = tw
  have htl : tw.length ≤ 281474976710656 := by rw [← hto]; simp; omega
  refine cp (fun i => i) (fun i => if i = 0 then 50 else if i = 1 then 51 else i) (pspare_ok q s md tw hq htl) (gp ?_) (gp ?_) (gp ?_) (gp ?_) (gp ?_) ?_
  · first | trivial | exact ⟨rfl, rfl⟩ | exact ⟨rfl, rfl, rfl⟩ | exact le_refl _
  · first | trivial | exact ⟨rfl, rfl⟩ | exact ⟨rfl, rfl, rfl⟩ | exact le_refl _
  · first | trivial | exact ⟨rfl, rfl⟩ | exact ⟨rfl, rfl, rfl⟩ | exact le_refl _
  · first | trivial | exact ⟨rfl, rfl⟩ | exact ⟨rfl, rfl, rfl⟩ | exact le_refl _
  · first | trivial | exact ⟨rfl, rfl⟩ | exact ⟨rfl, rfl, rfl⟩ | exact le_refl _
  refine gp ?_
  have hm : saveM q s w = if ¬ spareM q tw = 0 then (spareM q tw, s) else (0, (if (atM q.tree tw).2 = true then s ++ [cutS tw] else s) ++ [⟨6, w, 0, 0, 0, 0, [], tw⟩]) := by unfold saveM saveS; rw [hto]
  generalize saveM q s w = o at hm ⊢
  refine br (fun c => ?_) (fun c => ?_)
  · rw [if_pos c] at hm
    subst hm
    try refine gp ?_
    refine outP [] (fun i => if i = 0 then 50 else if i = 1 then 51 else i) (gp ?_) (gp ?_) (gp ?_)
    all_goals trivial
  · rw [if_neg c] at hm
    try refine gp ?_
    refine cl (at_ok q.tree tw hqt) ?_
    refine gp ?_
    refine br (fun k => ?_) (fun k => ?_)
    · rw [if_pos k] at hm
      subst hm
      try refine gp ?_
      refine cp (fun i => if i = 0 then 50 else if i = 1 then 51 else i) (fun i => if i = 0 then 52 else if i = 1 then 53 else i) (pcut_ok q s md tw (by omega)) (gp ?_) (gp ?_) (gp ?_) (gp ?_) (gp ?_) ?_
      · first | trivial | exact ⟨rfl, rfl⟩ | exact ⟨rfl, rfl, rfl⟩ | exact le_refl _
      · first | trivial | exact ⟨rfl, rfl⟩ | exact ⟨rfl, rfl, rfl⟩ | exact le_refl _
      · first | trivial | exact ⟨rfl, rfl⟩ | exact ⟨rfl, rfl, rfl⟩ | exact le_refl _
      · first | trivial | exact ⟨rfl, rfl⟩ | exact ⟨rfl, rfl, rfl⟩ | exact le_refl _
      · first | trivial | exact ⟨rfl, rfl⟩ | exact ⟨rfl, rfl, rfl⟩ | exact le_refl _
      refine gp ?_
      refine cp (fun i => if i = 0 then 52 else if i = 1 then 53 else i) (fun i => if i = 0 then 54 else if i = 1 then 55 else i) (padd_ok q (s ++ [cutS tw]) md ⟨6, w, 0, 0, 0, 0, [], tw⟩ (by simp; omega)) (gp ?_) (gp ?_) (gp ?_) (gp ?_) (gp ?_) ?_
      · first | trivial | exact ⟨rfl, rfl⟩ | exact ⟨rfl, rfl, rfl⟩ | exact le_refl _
      · first | trivial | exact ⟨rfl, rfl⟩ | exact ⟨rfl, rfl, rfl⟩ | exact le_refl _
      · first | trivial | exact ⟨rfl, rfl⟩ | exact ⟨rfl, rfl, rfl⟩ | exact le_refl _
      · first | trivial | exact ⟨rfl, rfl⟩ | exact ⟨rfl, rfl, rfl⟩ | exact le_refl _
      · first | trivial | exact ⟨rfl, rfl⟩ | exact ⟨rfl, rfl, rfl⟩ | exact le_refl _
      refine gp ?_
      refine outP [] (fun i => if i = 0 then 54 else if i = 1 then 55 else i) (gp ?_) (gp ?_) (gp ?_)
      all_goals trivial
    · rw [if_neg k] at hm
      subst hm
      try refine gp ?_
      refine cp (fun i => if i = 0 then 50 else if i = 1 then 51 else i) (fun i => if i = 0 then 54 else if i = 1 then 55 else i) (padd_ok q s md ⟨6, w, 0, 0, 0, 0, [], tw⟩ (by omega)) (gp ?_) (gp ?_) (gp ?_) (gp ?_) (gp ?_) ?_
      · first | trivial | exact ⟨rfl, rfl⟩ | exact ⟨rfl, rfl, rfl⟩ | exact le_refl _
      · first | trivial | exact ⟨rfl, rfl⟩ | exact ⟨rfl, rfl, rfl⟩ | exact le_refl _
      · first | trivial | exact ⟨rfl, rfl⟩ | exact ⟨rfl, rfl, rfl⟩ | exact le_refl _
      · first | trivial | exact ⟨rfl, rfl⟩ | exact ⟨rfl, rfl, rfl⟩ | exact le_refl _
      · first | trivial | exact ⟨rfl, rfl⟩ | exact ⟨rfl, rfl, rfl⟩ | exact le_refl _
      refine gp ?_
      refine outP [] (fun i => if i = 0 then 54 else if i = 1 then 55 else i) (gp ?_) (gp ?_) (gp ?_)
      all_goals trivial
end Go.Proofs.YtjbnmeofjiokeaaGreatDoor.Ev
namespace Go.Proofs.YtjbnmeofjiokeaaGreatDoor.Ev
open Go.RowKit
open Go.Proofs.YtjbnmeofjiokeaaGreatDoor.Mem
set_option linter.unusedVariables false
set_option linter.unusedSimpArgs false
def pdirM (q : Mak) (x : Ent) (m : Mbr) (s : List Stp) (md : List (List UInt8)) : Int × List Stp × List (List UInt8) :=
  if (hasM q.old.ents x.path).2 = true ∧ ¬ (hasM q.old.ents x.path).1.kind = 2 then (7, s, md)
  else if (ownM q.base.packs x.path).2 = true ∨ ((atM q.tree x.path).2 = true ∧ ¬ (atM q.tree x.path).1.kind = 2) then (14, s, md)
  else if (atM q.tree x.path).2 = true then (0, s, md) else (0, s ++ [bringS x.path x m], md ++ [x.path])
def pconfM (q : Mak) (was : Ent) (t : Stt) (x : Ent) (m : Mbr) (s : List Stp) : Int × List Stp :=
  if decM was.sum (Sha.sha (tx t.data)) x.sum = 1 then (0, s ++ [bringS x.path x m])
  else if decM was.sum (Sha.sha (tx t.data)) x.sum = 3 then (if ¬ spareM q (x.path ++ [46, 110, 101, 119]) = 0 then (spareM q (x.path ++ [46, 110, 101, 119]), s) else (0, s ++ [bringS (x.path ++ [46, 110, 101, 119]) x m]))
  else (0, s)
def pthingM (q : Mak) (x : Ent) (m : Mbr) (s : List Stp) : Int × List Stp :=
  if (ownM q.base.packs x.path).2 = true ∧ ¬ (ownM q.base.packs x.path).1 = q.old.name then (14, s)
  else if (hasM q.old.ents x.path).2 = true ∧ (hasM q.old.ents x.path).1.kind = 2 then (7, s)
  else if dirIx q.base.dirs x.path = true then (14, s)
  else if ¬ (atM q.tree x.path).2 = true then (0, s ++ [bringS x.path x m])
  else if ¬ (hasM q.old.ents x.path).2 = true then (14, s)
  else if (atM q.tree x.path).1.kind = 2 then (7, s)
  else if (hasM q.old.ents x.path).1.kind = 5 ∧ x.kind = 5 ∧ (atM q.tree x.path).1.kind = 1 then pconfM q (hasM q.old.ents x.path).1 (atM q.tree x.path).1 x m s
  else (0, (if (atM q.tree x.path).1.kind = 3 ∨ x.kind = 3 then s ++ [cutS x.path] else s) ++ [bringS x.path x m])
/-- One entry that comes. -/
def pentM (q : Mak) (x : Ent) (m : Mbr) (s : List Stp) (md : List (List UInt8)) : Int × List Stp × List (List UInt8) :=
  if x.kind = 2 then pdirM q x m s md else ((pthingM q x m s).1, (pthingM q x m s).2, md)
def pcomesL (q : Mak) (ms : List Mbr) : List Ent → Nat → List Stp → List (List UInt8) → Int × List Stp × List (List UInt8)
  | [], _, s, md => (0, s, md)
  | x :: r, i, s, md => if (pentM q x (ms.getD i dMb) s md).1 = 0 then pcomesL q ms r (i + 1) (pentM q x (ms.getD i dMb) s md).2.1 (pentM q x (ms.getD i dMb) s md).2.2 else pentM q x (ms.getD i dMb) s md
def pcomesM (q : Mak) (ms : List Mbr) (s : List Stp) (md : List (List UInt8)) : Int × List Stp × List (List UInt8) :=
  if ¬ ms.length = q.next.ents.length then (1, s, md) else pcomesL q ms q.next.ents 0 s md
open Classical in
noncomputable def installM (b : Bas) (l : List Stt) (m : Man) (ms : List Mbr) : List Stp × Bas × Int :=
  if ¬ BasOk b then ([], ⟨[], []⟩, 1) else if (findM b.packs m.name).2 = true then ([], ⟨[], []⟩, 17) else if 32 ≤ b.packs.length then ([], ⟨[], []⟩, 3)
  else if ¬ (pcomesM ⟨b, l, dMn, m⟩ ms [] []).1 = 0 then ([], ⟨[], []⟩, (pcomesM ⟨b, l, dMn, m⟩ ms [] []).1)
  else ((pcomesM ⟨b, l, dMn, m⟩ ms [] []).2.1, addB b m (fun p => decide (p ∈ (pcomesM ⟨b, l, dMn, m⟩ ms [] []).2.2)), 0)
/-- What is made of entries that aren't there. -/
def makesL (l : List Stt) (ms : List Mbr) : List Ent → Nat → List Stp
  | [], _ => []
  | x :: r, i => (if (atM l x.path).2 = true then [] else [bringS x.path x (ms.getD i dMb)]) ++ makesL l ms r (i + 1)
theorem hasM_nil (w : List UInt8) : hasM dMn.ents w = (dE, false) := rfl
theorem ent_new {b : Bas} {l : List Stt} {n : Man} {x : Ent} {m : Mbr} {s : List Stp} {md : List (List UInt8)} (h : (pentM ⟨b, l, dMn, n⟩ x m s md).1 = 0) :
    (pentM ⟨b, l, dMn, n⟩ x m s md).2.1 = s ++ (if (atM l x.path).2 = true then [] else [bringS x.path x m]) ∧ ((atM l x.path).2 = true → x.kind = 2) := by
  unfold pentM at h ⊢
  by_cases hk : x.kind = 2
  · rw [if_pos hk] at h ⊢
    refine ⟨?_, fun _ => hk⟩
    unfold pdirM at h ⊢
    dsimp only at h ⊢
    rw [hasM_nil] at h ⊢
    rw [if_neg (by simp)] at h ⊢
    split at h
    · simp at h
    · rename_i h1
      rw [if_neg h1]
      by_cases h2 : (atM l x.path).2 = true
      · rw [if_pos h2, if_pos h2]; simp
      · rw [if_neg h2, if_neg h2]
  · rw [if_neg hk] at h ⊢
    dsimp only at h ⊢
    unfold pthingM at h ⊢
    dsimp only at h ⊢
    rw [hasM_nil] at h ⊢
    split at h
    · simp at h
    · rename_i h1
      rw [if_neg h1]
      rw [if_neg (by simp)] at h ⊢
      split at h
      · simp at h
      · rename_i h2
        rw [if_neg h2]
        split at h
        · rename_i h3
          rw [if_pos h3, if_neg h3]
          exact ⟨rfl, fun h4 => absurd h4 h3⟩
        · simp at h
theorem comes_new {b : Bas} {l : List Stt} {n : Man} {ms : List Mbr} : ∀ (E : List Ent) (i : Nat) (s : List Stp) (md : List (List UInt8)), (pcomesL ⟨b, l, dMn, n⟩ ms E i s md).1 = 0 →
    (pcomesL ⟨b, l, dMn, n⟩ ms E i s md).2.1 = s ++ makesL l ms E i ∧ ∀ x ∈ E, (atM l x.path).2 = true → x.kind = 2
  | [], i, s, md, h => ⟨by simp [pcomesL, makesL], fun x hx => by simp at hx⟩
  | x :: r, i, s, md, h => by
    unfold pcomesL at h ⊢
    split at h
    · rename_i h1
      rw [if_pos h1]
      obtain ⟨e1, e2⟩ := ent_new h1
      obtain ⟨e3, e4⟩ := comes_new r (i + 1) _ _ h
      refine ⟨?_, fun y hy => ?_⟩
      · rw [e3, e1, makesL, List.append_assoc]
      · rcases List.mem_cons.1 hy with rfl | hy
        · exact e2
        · exact e4 y hy
    · rename_i h1
      exact absurd h h1
theorem bringS_kind (w : List UInt8) (x : Ent) (m : Mbr) : (bringS w x m).path = w ∧ (bringS w x m).kind = if x.kind = 3 then 3 else if x.kind = 2 then 1 else 2 := by
  unfold bringS
  by_cases h2 : x.kind = 2
  · rw [if_pos h2, if_neg (by omega), if_pos h2]; exact ⟨rfl, rfl⟩
  · rw [if_neg h2, if_neg h2]
    by_cases h3 : x.kind = 3
    · rw [if_pos h3, if_pos h3]; exact ⟨rfl, rfl⟩
    · rw [if_neg h3, if_neg h3]; exact ⟨rfl, rfl⟩
end Go.Proofs.YtjbnmeofjiokeaaGreatDoor.Ev
namespace Go.Proofs.YtjbnmeofjiokeaaGreatDoor.Ev
open Go.RowKit
open Go.Proofs.YtjbnmeofjiokeaaGreatDoor.Mem
set_option linter.unusedVariables false
set_option linter.unusedSimpArgs false
set_option maxRecDepth 100000
theorem pdir_ok (q : Mak) (s : List Stp) (md : List (List UInt8)) (x : Ent) (m : Mbr) (hq : q.Big) (hl : s.length ≤ 900000) (hml : md.length ≤ 900000) : SpecP Tryz.prog LL 38 [.p 1000000000 0, eEnt x, eMbr m] [(1000000000, bkQ q 0 s.length 1 md.length), (0, rP s), (1, rS md)] (.n .i64 (pdirM q x m s md).1) [(1000000000, bkQ q 0 (pdirM q x m s md).2.1.length 1 (pdirM q x m s md).2.2.length), (0, rP (pdirM q x m s md).2.1), (1, rS (pdirM q x m s md).2.2)] := by
  refine spec_ofP' (C := ⟨Tryz.prog, LL, EE, []⟩) (rl := [.n .i64 (pdirM q x m s md).1]) (rs := [.tmp 6]) CCx LLs Tryz.func38 rfl (by kernel_rfl) rfl (by kernel_rfl) (Nat.le_of_ble_eq_true rfl) rfl rfl rfl rfl rfl rfl rfl rfl (by decide) ?_
  refine gp ?_
  have hqb := hq.b
  have hqt := hq.t
  have hqo := hq.o
  obtain ⟨r, hr⟩ : ∃ r, r = pdirM q x m s md := ⟨_, rfl⟩
  rw [← hr]
  unfold pdirM at hr
  refine cd (has_ok q.old x.path hqo) ?_
  refine gp ?_
  generalize hasM q.old.ents x.path = h at hr ⊢
  obtain ⟨h1, h2⟩ := h
  dsimp only at hr ⊢
  cases h2 with
  | true =>
    try refine gp ?_
    refine br (fun k => ?_) (fun k => ?_)
    · rw [if_pos ⟨rfl, k⟩] at hr
      subst hr
      try refine gp ?_
      refine outP [] (id) (gp ?_) (gp ?_) (gp ?_)
      all_goals trivial
    · rw [if_neg (fun h => k h.2)] at hr
      try refine gp ?_
      refine cd (owner_ok q.base x.path hqb) ?_
      refine gp ?_
      generalize ownM q.base.packs x.path = o at hr ⊢
      obtain ⟨o1, o2⟩ := o
      dsimp only at hr ⊢
      refine cd (at_ok q.tree x.path hqt) ?_
      refine gp ?_
      generalize atM q.tree x.path = t at hr ⊢
      obtain ⟨t1, t2⟩ := t
      dsimp only at hr ⊢
      cases o2 with
      | true =>
        rw [if_pos (.inl rfl)] at hr
        subst hr
        try refine gp ?_
        refine outP [] (id) (gp ?_) (gp ?_) (gp ?_)
        all_goals trivial
      | false =>
        cases t2 with
        | true =>
          try refine gp ?_
          refine br (fun k2 => ?_) (fun k2 => ?_)
          · rw [if_pos (.inr ⟨rfl, k2⟩)] at hr
            subst hr
            try refine gp ?_
            refine outP [] (id) (gp ?_) (gp ?_) (gp ?_)
            all_goals trivial
          · rw [if_neg (by rintro (h | h) <;> simp_all), if_pos rfl] at hr
            subst hr
            try refine gp ?_
            refine outP [] (id) (gp ?_) (gp ?_) (gp ?_)
            all_goals trivial
        | false =>
          rw [if_neg (by simp), if_neg (by simp)] at hr
          subst hr
          try refine gp ?_
          refine cp (fun i => i) (fun i => if i = 0 then 80 else if i = 1 then 81 else i) (pbring_ok q s md x.path x m (by omega)) (gp ?_) (gp ?_) (gp ?_) (gp ?_) (gp ?_) ?_
          · first | trivial | exact ⟨rfl, rfl⟩ | exact ⟨rfl, rfl, rfl⟩ | exact le_refl _
          · first | trivial | exact ⟨rfl, rfl⟩ | exact ⟨rfl, rfl, rfl⟩ | exact le_refl _
          · first | trivial | exact ⟨rfl, rfl⟩ | exact ⟨rfl, rfl, rfl⟩ | exact le_refl _
          · first | trivial | exact ⟨rfl, rfl⟩ | exact ⟨rfl, rfl, rfl⟩ | exact le_refl _
          · first | trivial | exact ⟨rfl, rfl⟩ | exact ⟨rfl, rfl, rfl⟩ | exact le_refl _
          refine gp ?_
          refine .inr ?_
          try refine gp ?_
          refine outP [] (fun i => if i = 0 then 80 else if i = 1 then 74 else i) (gp ?_) (gp ?_) (gp ?_)
          all_goals trivial
  | false =>
    rw [if_neg (by simp)] at hr
    try refine gp ?_
    refine cd (owner_ok q.base x.path hqb) ?_
    refine gp ?_
    generalize ownM q.base.packs x.path = o at hr ⊢
    obtain ⟨o1, o2⟩ := o
    dsimp only at hr ⊢
    refine cd (at_ok q.tree x.path hqt) ?_
    refine gp ?_
    generalize atM q.tree x.path = t at hr ⊢
    obtain ⟨t1, t2⟩ := t
    dsimp only at hr ⊢
    cases o2 with
    | true =>
      rw [if_pos (.inl rfl)] at hr
      subst hr
      try refine gp ?_
      refine outP [] (id) (gp ?_) (gp ?_) (gp ?_)
      all_goals trivial
    | false =>
      cases t2 with
      | true =>
        try refine gp ?_
        refine br (fun k2 => ?_) (fun k2 => ?_)
        · rw [if_pos (.inr ⟨rfl, k2⟩)] at hr
          subst hr
          try refine gp ?_
          refine outP [] (id) (gp ?_) (gp ?_) (gp ?_)
          all_goals trivial
        · rw [if_neg (by rintro (h | h) <;> simp_all), if_pos rfl] at hr
          subst hr
          try refine gp ?_
          refine outP [] (id) (gp ?_) (gp ?_) (gp ?_)
          all_goals trivial
      | false =>
        rw [if_neg (by simp), if_neg (by simp)] at hr
        subst hr
        try refine gp ?_
        refine cp (fun i => i) (fun i => if i = 0 then 80 else if i = 1 then 81 else i) (pbring_ok q s md x.path x m (by omega)) (gp ?_) (gp ?_) (gp ?_) (gp ?_) (gp ?_) ?_
        · first | trivial | exact ⟨rfl, rfl⟩ | exact ⟨rfl, rfl, rfl⟩ | exact le_refl _
        · first | trivial | exact ⟨rfl, rfl⟩ | exact ⟨rfl, rfl, rfl⟩ | exact le_refl _
        · first | trivial | exact ⟨rfl, rfl⟩ | exact ⟨rfl, rfl, rfl⟩ | exact le_refl _
        · first | trivial | exact ⟨rfl, rfl⟩ | exact ⟨rfl, rfl, rfl⟩ | exact le_refl _
        · first | trivial | exact ⟨rfl, rfl⟩ | exact ⟨rfl, rfl, rfl⟩ | exact le_refl _
        refine gp ?_
        refine .inr ?_
        try refine gp ?_
        refine outP [] (fun i => if i = 0 then 80 else if i = 1 then 74 else i) (gp ?_) (gp ?_) (gp ?_)
        all_goals trivial
theorem pconf_ok (q : Mak) (s : List Stp) (md : List (List UInt8)) (was : Ent) (t : Stt) (x : Ent) (m : Mbr) (hq : q.Big) (hx : x.path.length ≤ 140737488355328) (ht : t.data.length ≤ 140737488355328) (hl : s.length ≤ 900000) : SpecP Tryz.prog LL 66 [.p 1000000000 0, eEnt was, eStt t, eEnt x, eMbr m] [(1000000000, bkQ q 0 s.length 1 md.length), (0, rP s), (1, rS md)] (.n .i64 (pconfM q was t x m s).1) [(1000000000, bkQ q 0 (pconfM q was t x m s).2.length 1 md.length), (0, rP (pconfM q was t x m s).2), (1, rS md)] := by
  refine spec_ofP' (C := ⟨Tryz.prog, LL, EE, []⟩) (rl := [.n .i64 (pconfM q was t x m s).1]) (rs := [.tmp 10]) CCx LLs Tryz.func66 rfl (by kernel_rfl) rfl (by kernel_rfl) (Nat.le_of_ble_eq_true rfl) rfl rfl rfl rfl rfl rfl rfl rfl (by decide) ?_
  refine gp ?_
  obtain ⟨r, hr⟩ : ∃ r, r = pconfM q was t x m s := ⟨_, rfl⟩
  rw [← hr]
  unfold pconfM at hr
  refine cd (sum_ok t.data ht) ?_
  refine gp ?_
  refine cd (decide_ok was.sum (Sha.sha (tx t.data)) x.sum) ?_
  refine gp ?_
  generalize decM was.sum (Sha.sha (tx t.data)) x.sum = d at hr ⊢
  refine br (fun c => ?_) (fun c => ?_)
  · rw [if_pos c] at hr
    subst hr
    try refine gp ?_
    refine cp (fun i => i) (fun i => if i = 0 then 80 else if i = 1 then 81 else i) (pbring_ok q s md x.path x m (by omega)) (gp ?_) (gp ?_) (gp ?_) (gp ?_) (gp ?_) ?_
    · first | trivial | exact ⟨rfl, rfl⟩ | exact ⟨rfl, rfl, rfl⟩ | exact le_refl _
    · first | trivial | exact ⟨rfl, rfl⟩ | exact ⟨rfl, rfl, rfl⟩ | exact le_refl _
    · first | trivial | exact ⟨rfl, rfl⟩ | exact ⟨rfl, rfl, rfl⟩ | exact le_refl _
    · first | trivial | exact ⟨rfl, rfl⟩ | exact ⟨rfl, rfl, rfl⟩ | exact le_refl _
    · first | trivial | exact ⟨rfl, rfl⟩ | exact ⟨rfl, rfl, rfl⟩ | exact le_refl _
    refine gp ?_
    refine outP [] (fun i => if i = 0 then 80 else if i = 1 then 81 else i) (gp ?_) (gp ?_) (gp ?_)
    all_goals trivial
  · rw [if_neg c] at hr
    try refine gp ?_
    refine br (fun c3 => ?_) (fun c3 => ?_)
    · rw [if_pos c3] at hr
      try refine gp ?_
      refine cl (cnew_ok x.path (by omega)) ?_
      refine gp ?_
      generalize hto : x.path ++ [46, 110, 101, 119] = tw at hr ⊢
      have htl : tw.length ≤ 281474976710656 := by rw [← hto]; simp; omega
      refine cp (fun i => i) (fun i => if i = 0 then 80 else if i = 1 then 81 else i) (pspare_ok q s md tw hq htl) (gp ?_) (gp ?_) (gp ?_) (gp ?_) (gp ?_) ?_
      · first | trivial | exact ⟨rfl, rfl⟩ | exact ⟨rfl, rfl, rfl⟩ | exact le_refl _
      · first | trivial | exact ⟨rfl, rfl⟩ | exact ⟨rfl, rfl, rfl⟩ | exact le_refl _
      · first | trivial | exact ⟨rfl, rfl⟩ | exact ⟨rfl, rfl, rfl⟩ | exact le_refl _
      · first | trivial | exact ⟨rfl, rfl⟩ | exact ⟨rfl, rfl, rfl⟩ | exact le_refl _
      · first | trivial | exact ⟨rfl, rfl⟩ | exact ⟨rfl, rfl, rfl⟩ | exact le_refl _
      refine gp ?_
      refine br (fun e => ?_) (fun e => ?_)
      · rw [if_pos e] at hr
        subst hr
        try refine gp ?_
        refine outP [] (fun i => if i = 0 then 80 else if i = 1 then 81 else i) (gp ?_) (gp ?_) (gp ?_)
        all_goals trivial
      · rw [if_neg e] at hr
        subst hr
        try refine gp ?_
        refine cp (fun i => if i = 0 then 80 else if i = 1 then 81 else i) (fun i => if i = 0 then 82 else if i = 1 then 83 else i) (pbring_ok q s md tw x m (by omega)) (gp ?_) (gp ?_) (gp ?_) (gp ?_) (gp ?_) ?_
        · first | trivial | exact ⟨rfl, rfl⟩ | exact ⟨rfl, rfl, rfl⟩ | exact le_refl _
        · first | trivial | exact ⟨rfl, rfl⟩ | exact ⟨rfl, rfl, rfl⟩ | exact le_refl _
        · first | trivial | exact ⟨rfl, rfl⟩ | exact ⟨rfl, rfl, rfl⟩ | exact le_refl _
        · first | trivial | exact ⟨rfl, rfl⟩ | exact ⟨rfl, rfl, rfl⟩ | exact le_refl _
        · first | trivial | exact ⟨rfl, rfl⟩ | exact ⟨rfl, rfl, rfl⟩ | exact le_refl _
        refine gp ?_
        refine outP [] (fun i => if i = 0 then 82 else if i = 1 then 83 else i) (gp ?_) (gp ?_) (gp ?_)
        all_goals trivial
    · rw [if_neg c3] at hr
      subst hr
      try refine gp ?_
      refine outP [] (id) (gp ?_) (gp ?_) (gp ?_)
      all_goals trivial
end Go.Proofs.YtjbnmeofjiokeaaGreatDoor.Ev
