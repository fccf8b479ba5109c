/- Databases: a package more, whatever the database. -/
import Derived.Test.YtjbnmeofjiokeaaGreatDoorQA
import Derived.Test.YtjbnmeofjiokeaaGreatDoorPG
import Derived.Test.YtjbnmeofjiokeaaGreatDoorPC
import Derived.Test.YtjbnmeofjiokeaaGreatDoorKD
set_option linter.all false
namespace Go.Proofs.YtjbnmeofjiokeaaGreatDoor.Ev
open Go.RowKit
open Go.Proofs.YtjbnmeofjiokeaaGreatDoor.Mem
set_option linter.unusedVariables false
set_option linter.unusedSimpArgs false
set_option maxRecDepth 100000
theorem gdd {p q : Prop} (hq : q) (h : p ↔ q := by simp (config := { maxSteps := 10000000 }) (disch := omega) only [edr, eod, false_and, and_false, epw, eokO, cSo, rDo, eSh, eBsd, evw, fxM, cSd, wrc, eRd, eEd, eMd, eBd, eEE, rDs, eok, true_implies, eo5, ev5, Nat.mul_one, Nat.zero_mul, Nat.one_mul, Nat.add_zero, lenl, bne_self_eq_false, Int.reduceLT, Int.reduceLE, Int.reduceEq, Int.reduceNe, Int.reduceAdd, Int.reduceSub, Int.reduceMul, Int.reduceNeg, ebr, wr64, sdl, ler, true_or, or_true, rng, List.length_map, List.length_range, List.length_append, List.length_replicate, List.length_set, List.length_take, List.length_drop, List.not_mem_nil, false_implies, implies_true, ↓ec, ↓eg, ↓eo, ↓eox, ↓es, ↓et1, em, emR, efz, enl, ebx, ebt, et, ev, List.drop_nil, Option.some.injEq, Option.isSome_none, Int.reduceToNat, List.replicate_zero, Bool.or_self, ez, ef, ebd, et2, Int.toNat_natCast, Option.map_none, Option.map_some, List.all_cons, List.all_nil, Bool.and_self, List.cons_append, List.nil_append, List.append_nil, List.append_assoc, ep, ew, Option.isSome_some, id_eq, Nat.reduceLT, Nat.reduceSub, Bool.false_or, Bool.true_or, Bool.or_true, Bool.true_and, Bool.and_true, reduceCtorEq, Nat.reduceBEq, Bool.true_eq_false, Bool.false_eq_true, List.map_cons, List.map_nil, List.take_succ_cons, List.take_zero, List.drop_succ_cons, List.drop_zero, List.length_cons, List.length_nil, Nat.zero_add, Nat.reduceAdd, Nat.reduceLeDiff, Bool.not_true, Bool.not_false, List.getElem?_cons_succ, List.getElem?_cons_zero, Option.bind_some, ne_eq, not_false_eq_true, ↓eh1, eh, en, List.getD_cons_zero, List.getD_cons_succ, Nat.reduceEqDiff, ↓reduceIte, cond_true, cond_false, Bool.or_false, decide_true, decide_false, true_and, and_true, decide_eq_true_eq, decide_eq_false_iff_not, Bool.not_eq_true', Bool.not_eq_false', not_true_eq_false, Decidable.not_not]; exact Iff.rfl) : p := h.2 hq
theorem insS_ok (l : List Shr) (d : Shr) (i : Nat) (hi : i ≤ l.length) (hl : l.length ≤ 100000000000) : SpecP Tryz.prog LL 69 [.ow 0 l.length, .n .i64 (i : Int), .sl 3 Shr dS [d] eShr] [(0, rSh l)] (.ow 0 (l.length + 1)) [(0, rSh (l.take i ++ d :: l.drop i))] :=
  spec_ins dS eShr cShr Tryz.func69 rfl (by kernel_rfl) insS_ins l d i hi (by omega) fun x _ y hy => by
    have hy : y ∈ [V.s x.path, V.n .i64 x.refs, V.b x.made] := hy
    simp only [List.mem_cons, List.not_mem_nil, or_false] at hy
    rcases hy with rfl | rfl | rfl <;> rfl
theorem insM_ok (l : List Man) (d : Man) (i : Nat) (hi : i ≤ l.length) (hl : l.length ≤ 100000000000) : SpecP Tryz.prog LL 40 [.ow 0 l.length, .n .i64 (i : Int), .sl 5 Man dMn [d] eMan] [(0, rM l)] (.ow 0 (l.length + 1)) [(0, rM (l.take i ++ d :: l.drop i))] :=
  spec_ins dMn eMan cMan Tryz.func40 rfl (by kernel_rfl) insM_ins l d i hi (by omega) fun x _ y hy => by
    have hy : y ∈ [V.s x.name, V.s x.ver, V.sl 3 Rul dR x.needs eRul, V.sl 3 Rul dR x.clashes eRul, V.sl 5 Ent dE x.ents eEnt] := hy
    simp only [List.mem_cons, List.not_mem_nil, or_false] at hy
    rcases hy with rfl | rfl | rfl | rfl | rfl <;> rfl
theorem cloneO_ok (l : List Shr) (hl : l.length ≤ 100000000000) : SpecO Tryz.prog LL 42 [.sl 3 Shr dS l eShr] (.ow 0 l.length) [rSh l] := by
  refine spec_ofOW (C := ⟨Tryz.prog, LL, EE, []⟩) (rl := [.ow 0 l.length]) (rs := [.tmp 2]) CCx LLs Tryz.func42 rfl (by kernel_rfl) rfl (by kernel_rfl) (Nat.le_of_ble_eq_true rfl) (fun i => rfl) (fun i h => by simp [menL, men] at h; simp; omega) (fun b h => by simp at h; first | (subst h; trivial) | (rcases h with rfl | rfl <;> trivial) | (rcases h with rfl | rfl | rfl <;> trivial)) rfl (by decide) ?_
  refine gb ?_
  refine ⟨?_, fun h0 => ?_⟩
  · try refine gb ?_
    refine .inl (lto ?_)
    try refine gb ?_
    rw [show List.map (fun v : Shr => (⟨v.path, v.refs, v.made⟩ : Shr)) l = l from List.map_id _]
    refine wk_out [7] (gb ?_) (by decide) (gb ?_) <;> trivial
  · subst h0
    try refine gb ?_
    refine wk_nil 2 61 hSh rfl rfl ?_
    refine wk_out [2] (gb ?_) (by decide) (gb ?_)
    · trivial
    · rfl
theorem all_ok (l : List Man) (hl : l.length ≤ 100000000) (hb : ∀ m ∈ l, m.Big) : SpecO Tryz.prog LL 41 [.sl 5 Man dMn l eMan] (.ow 0 l.length) [rM l] := by
  refine spec_ofOW (C := ⟨Tryz.prog, LL, EE, []⟩) (rl := [.ow 0 l.length]) (rs := [.tmp 2]) CCx LLs Tryz.func41 rfl (by kernel_rfl) rfl (by kernel_rfl) (Nat.le_of_ble_eq_true rfl) (fun i => rfl) (fun i h => by simp [menL, men] at h; simp; omega) (fun b h => by simp at h; first | (subst h; trivial) | (rcases h with rfl | rfl <;> trivial) | (rcases h with rfl | rfl | rfl <;> trivial)) rfl (by decide) ?_
  refine gb ?_
  refine lp_nil 3 30 hMa rfl rfl ?_
  refine lp_hr [6, 7] [] (fun x : Nat × List Man => [(8, .n .i64 (x.1 : Int)), (3, .ow 3 x.2.length)]) (fun x : Nat × List Man => [(3, rM x.2)]) (fun x : Nat × List Man => x.1 ≤ l.length ∧ x.2 = l.take x.1) (fun x : Nat × List Man => l.length - x.1) ((0, [])) id ⟨Nat.zero_le _, rfl⟩ (fits_of (gb ?_) (gb ?_) (gb ?_) (gb ?_) (gb ?_)) ?_
  · first | exact True.intro | exact ⟨rfl, rfl⟩ | exact ⟨rfl, rfl, rfl⟩ | rfl | exact rowc (List.map_id _) | trivial
  · first | exact True.intro | exact ⟨rfl, rfl⟩ | exact ⟨rfl, rfl, rfl⟩ | rfl | exact rowc (List.map_id _) | trivial
  · first | exact True.intro | exact ⟨rfl, rfl⟩ | exact ⟨rfl, rfl, rfl⟩ | rfl | exact rowc (List.map_id _) | trivial
  · first | exact True.intro | exact ⟨rfl, rfl⟩ | exact ⟨rfl, rfl, rfl⟩ | rfl | exact rowc (List.map_id _) | trivial
  · first | exact True.intro | exact ⟨rfl, rfl⟩ | exact ⟨rfl, rfl, rfl⟩ | rfl | exact rowc (List.map_id _) | trivial
  rintro ⟨i, out⟩ ⟨hi, ho⟩
  dsimp only at hi ho ⊢
  have hlen : out.length = i := by rw [ho, List.length_take]; omega
  try refine gb ?_
  refine br (fun e => ?_) (fun e => ?_)
  · have hm := hb _ (getD_mem (x := dMn) (show i < l.length by omega))
    have htk := take_at l i dMn (by omega)
    rw [← ho] at htk
    try refine gb ?_
    generalize l.getD i dMn = x at hm htk
    refine cl (copied_ok x hm) ?_
    refine gb ?_
    refine .inr ?_
    refine ⟨(i + 1, out ++ [x]), fun i => if i = 3 then 16 else i, ⟨by dsimp only; omega, htk.symm⟩, (by dsimp only; omega), fits_of (gb ?_) (gb ?_) (gb ?_) (gb ?_) (gb ?_)⟩
    · first | exact True.intro | exact ⟨rfl, rfl⟩ | exact ⟨rfl, rfl, rfl⟩ | rfl | exact rowc (List.map_id _) | trivial
    · first | exact True.intro | exact ⟨rfl, rfl⟩ | exact ⟨rfl, rfl, rfl⟩ | rfl | exact rowc (List.map_id _) | trivial
    · first | exact True.intro | exact ⟨rfl, rfl⟩ | exact ⟨rfl, rfl, rfl⟩ | rfl | exact rowc (List.map_id _) | trivial
    · (first | trivial | exact ⟨rfl, rfl⟩ | exact ⟨rfl, rfl, rfl⟩ | simp)
    · first | exact True.intro | exact ⟨rfl, rfl⟩ | exact ⟨rfl, rfl, rfl⟩ | rfl | exact rowc (List.map_id _) | trivial
  · try refine gb ?_
    have e2 : out = l := by rw [ho, List.take_of_length_le (by omega)]
    subst e2
    refine wk_out [3] (gb ?_) (by decide) (gb ?_) <;> trivial
theorem bump_set (l : List Shr) (w : List UInt8) (i : Nat) (hi : i < l.length) (h : bump l w = l.take i ++ bump (l.drop i) w) (hp : (l.getD i dS).path = w) : bump l w = l.set i ⟨(l.getD i dS).path, (l.getD i dS).refs + 1, (l.getD i dS).made⟩ := by
  rw [h, drop_at l i dS hi, bump, if_pos hp, List.set_eq_take_append_cons_drop, if_pos hi]
theorem insS_len (l : List Shr) (d : Shr) : (insS l d).length = l.length + 1 := by
  induction l with
  | nil => rfl
  | cons e r ih =>
    unfold insS
    split
    · simp [ih]
    · simp
theorem dirIx_cons (d : Shr) (l : List Shr) (w : List UInt8) : dirIx (d :: l) w = (decide (d.path = w) || dirIx l w) := by unfold dirIx; rw [List.any_cons]
theorem djoin_ok (l : List Shr) (w : List UInt8) (mk : Bool) (hl : l.length ≤ 100000000) (hr : ∀ d ∈ l, -4611686018427387904 ≤ d.refs ∧ d.refs ≤ 4611686018427387904) : SpecP Tryz.prog LL 43 [.ow 0 l.length, .s w, .b mk] [(0, rSh l)] (.ow 0 (joinM l w mk).length) [(0, rSh (joinM l w mk))] := by
  refine spec_ofP' (C := ⟨Tryz.prog, LL, EE, []⟩) (rl := [.ow 0 (joinM l w mk).length]) (rs := [.tmp 6]) CCx LLs Tryz.func43 rfl (by kernel_rfl) rfl (by kernel_rfl) (Nat.le_of_ble_eq_true rfl) rfl rfl rfl rfl rfl rfl rfl rfl (by decide) (gb ?_)
  refine lp_hd [0, 1, 2, 10] [0] (fun i : Nat => [(11, .n .i64 (i : Int))]) (fun i : Nat => []) (fun i : Nat => i ≤ l.length ∧ dirIx l w = dirIx (l.drop i) w ∧ bump l w = l.take i ++ bump (l.drop i) w) (fun i : Nat => l.length - i) (0) id (id) ⟨Nat.zero_le _, rfl, rfl⟩ (fits_of (gb ?_) (gb ?_) (gb ?_) (gb ?_) (gb ?_)) ?_
  · first | exact True.intro | exact ⟨rfl, rfl⟩ | exact ⟨rfl, rfl, rfl⟩ | rfl | exact rowc (List.map_id _) | trivial
  · first | exact True.intro | exact ⟨rfl, rfl⟩ | exact ⟨rfl, rfl, rfl⟩ | rfl | exact rowc (List.map_id _) | trivial
  · first | exact True.intro | exact ⟨rfl, rfl⟩ | exact ⟨rfl, rfl, rfl⟩ | rfl | exact rowc (List.map_id _) | trivial
  · first | exact True.intro | exact ⟨rfl, rfl⟩ | exact ⟨rfl, rfl, rfl⟩ | rfl | exact rowc (List.map_id _) | trivial
  · first | exact True.intro | exact ⟨rfl, rfl⟩ | exact ⟨rfl, rfl, rfl⟩ | rfl | exact rowc (List.map_id _) | trivial
  rintro i ⟨hi, h1, h2⟩
  try refine gb ?_
  refine br (fun e => ?_) (fun e => ?_)
  · have hm := hr _ (getD_mem (x := dS) (show i < l.length by omega))
    have hb := bump_set l w i (by omega) h2
    have hd := drop_at l i dS (by omega)
    rw [hd, dirIx_cons] at h1
    rw [hd, bump] at h2
    try refine gb ?_
    refine br (fun c => ?_) (fun c => ?_)
    · have hb := hb c
      rw [decide_eq_true c, Bool.true_or] at h1
      have hj : joinM l w mk = l.set i ⟨(l.getD i dS).path, (l.getD i dS).refs + 1, (l.getD i dS).made⟩ := by unfold joinM; rw [if_pos h1, hb]
      rw [hj, List.length_set]
      try refine gb ?_
      refine outP [] id (gb ?_) (gb ?_) (gb ?_) <;> trivial
    · rw [decide_eq_false c, Bool.false_or] at h1
      rw [if_neg c] at h2
      try refine gb ?_
      refine ⟨i + 1, ⟨by omega, h1, by rw [h2, take_at l i dS (by omega)]; simp⟩, (by omega), fits_of (gb ?_) (gb ?_) (gb ?_) (gb ?_) (gb ?_)⟩
      · first | exact True.intro | exact ⟨rfl, rfl⟩ | exact ⟨rfl, rfl, rfl⟩ | rfl | exact rowc (List.map_id _) | trivial
      · first | exact True.intro | exact ⟨rfl, rfl⟩ | exact ⟨rfl, rfl, rfl⟩ | rfl | exact rowc (List.map_id _) | trivial
      · first | exact True.intro | exact ⟨rfl, rfl⟩ | exact ⟨rfl, rfl, rfl⟩ | rfl | exact rowc (List.map_id _) | trivial
      · first | exact True.intro | exact ⟨rfl, rfl⟩ | exact ⟨rfl, rfl, rfl⟩ | rfl | exact rowc (List.map_id _) | trivial
      · first | exact True.intro | exact ⟨rfl, rfl⟩ | exact ⟨rfl, rfl, rfl⟩ | rfl | exact rowc (List.map_id _) | trivial
  · rw [List.drop_eq_nil_of_le (by omega), show dirIx [] w = false from rfl] at h1
    have hj : joinM l w mk = insS l ⟨w, 1, mk⟩ := by unfold joinM; rw [if_neg (by rw [h1]; decide)]
    rw [hj, insS_len]
    clear h1 h2 hj
    try refine gb ?_
    refine lp_hd [0, 1, 2] [0] (fun i : Nat => [(8, .n .i64 (i : Int))]) (fun i : Nat => []) (fun i : Nat => i ≤ l.length ∧ insS l ⟨w, 1, mk⟩ = l.take i ++ insS (l.drop i) ⟨w, 1, mk⟩) (fun i : Nat => l.length - i) (0) id (id) ⟨Nat.zero_le _, rfl⟩ (fits_of (gb ?_) (gb ?_) (gb ?_) (gb ?_) (gb ?_)) ?_
    · first | exact True.intro | exact ⟨rfl, rfl⟩ | exact ⟨rfl, rfl, rfl⟩ | rfl | exact rowc (List.map_id _) | trivial
    · first | exact True.intro | exact ⟨rfl, rfl⟩ | exact ⟨rfl, rfl, rfl⟩ | rfl | exact rowc (List.map_id _) | trivial
    · first | exact True.intro | exact ⟨rfl, rfl⟩ | exact ⟨rfl, rfl, rfl⟩ | rfl | exact rowc (List.map_id _) | trivial
    · first | exact True.intro | exact ⟨rfl, rfl⟩ | exact ⟨rfl, rfl, rfl⟩ | rfl | exact rowc (List.map_id _) | trivial
    · first | exact True.intro | exact ⟨rfl, rfl⟩ | exact ⟨rfl, rfl, rfl⟩ | rfl | exact rowc (List.map_id _) | trivial
    rintro i ⟨hi, h2⟩
    try refine gb ?_
    refine br (fun e2 => ?_) (fun e2 => ?_)
    · rw [drop_at l i dS (by omega), insS] at h2
      try refine gb ?_
      refine br (fun c => ?_) (fun c => ?_)
      · rw [if_pos c] at h2
        try refine gb ?_
        refine ⟨i + 1, ⟨by omega, by rw [h2, take_at l i dS (by omega)]; simp⟩, (by omega), fits_of (gb ?_) (gb ?_) (gb ?_) (gb ?_) (gb ?_)⟩
        · first | exact True.intro | exact ⟨rfl, rfl⟩ | exact ⟨rfl, rfl, rfl⟩ | rfl | exact rowc (List.map_id _) | trivial
        · first | exact True.intro | exact ⟨rfl, rfl⟩ | exact ⟨rfl, rfl, rfl⟩ | rfl | exact rowc (List.map_id _) | trivial
        · first | exact True.intro | exact ⟨rfl, rfl⟩ | exact ⟨rfl, rfl, rfl⟩ | rfl | exact rowc (List.map_id _) | trivial
        · first | exact True.intro | exact ⟨rfl, rfl⟩ | exact ⟨rfl, rfl, rfl⟩ | rfl | exact rowc (List.map_id _) | trivial
        · first | exact True.intro | exact ⟨rfl, rfl⟩ | exact ⟨rfl, rfl, rfl⟩ | rfl | exact rowc (List.map_id _) | trivial
      · rw [if_neg c] at h2
        rw [h2, ← drop_at l i dS (by omega)]
        try refine gb ?_
        refine .inr ?_
        try refine gb ?_
        refine cp (fun i => i) (fun _ => 52) (insS_ok l ⟨w, 1, mk⟩ i hi (by omega)) (gb ?_) (gb ?_) (gb ?_) (gb ?_) (gb ?_) ?_
        · first | trivial | exact ⟨rfl, rfl⟩ | exact ⟨rfl, rfl, rfl⟩ | exact le_refl _
        · first | trivial | exact ⟨rfl, rfl⟩ | exact ⟨rfl, rfl, rfl⟩ | exact le_refl _
        · first | trivial | exact ⟨rfl, rfl⟩ | exact ⟨rfl, rfl, rfl⟩ | exact le_refl _
        · first | trivial | exact ⟨rfl, rfl⟩ | exact ⟨rfl, rfl, rfl⟩ | exact le_refl _
        · first | trivial | exact ⟨rfl, rfl⟩ | exact ⟨rfl, rfl, rfl⟩ | exact le_refl _
        refine gb ?_
        refine outP [] (fun _ => 52) (gb ?_) (gb ?_) (gb ?_) <;> trivial
    · rw [List.drop_eq_nil_of_le (by omega), insS] at h2
      rw [h2, show ([⟨w, 1, mk⟩] : List Shr) = ⟨w, 1, mk⟩ :: l.drop i by rw [List.drop_eq_nil_of_le (by omega)]]
      try refine gb ?_
      refine .inr ?_
      try refine gb ?_
      refine cp (fun i => i) (fun _ => 52) (insS_ok l ⟨w, 1, mk⟩ i hi (by omega)) (gb ?_) (gb ?_) (gb ?_) (gb ?_) (gb ?_) ?_
      · first | trivial | exact ⟨rfl, rfl⟩ | exact ⟨rfl, rfl, rfl⟩ | exact le_refl _
      · first | trivial | exact ⟨rfl, rfl⟩ | exact ⟨rfl, rfl, rfl⟩ | exact le_refl _
      · first | trivial | exact ⟨rfl, rfl⟩ | exact ⟨rfl, rfl, rfl⟩ | exact le_refl _
      · first | trivial | exact ⟨rfl, rfl⟩ | exact ⟨rfl, rfl, rfl⟩ | exact le_refl _
      · first | trivial | exact ⟨rfl, rfl⟩ | exact ⟨rfl, rfl, rfl⟩ | exact le_refl _
      refine gb ?_
      refine outP [] (fun _ => 52) (gb ?_) (gb ?_) (gb ?_) <;> trivial
end Go.Proofs.YtjbnmeofjiokeaaGreatDoor.Ev
namespace Go.Proofs.YtjbnmeofjiokeaaGreatDoor.Ev
open Go.RowKit
open Go.Proofs.YtjbnmeofjiokeaaGreatDoor.Mem
set_option linter.unusedVariables false
set_option linter.unusedSimpArgs false
set_option maxRecDepth 100000
theorem insM_at (l : List Man) (m : Man) (i : Nat) (hi : i ≤ l.length) (h : insM l m = l.take i ++ insM (l.drop i) m) (hc : i = l.length ∨ (i < l.length ∧ ¬ lt' (l.getD i dMn).name m.name = true)) : insM l m = l.take i ++ m :: l.drop i := by
  rcases hc with hc | ⟨h1, h2⟩
  · rw [h, List.drop_eq_nil_of_le (by omega)]; rfl
  · rw [h, drop_at l i dMn h1, insM, if_neg h2]
theorem joinM_len (l : List Shr) (p : List UInt8) (mk : Bool) : (joinM l p mk).length ≤ l.length + 1 := by
  unfold joinM
  split
  · have := congrArg List.length (bump_paths l p)
    rw [List.length_map, List.length_map] at this
    omega
  · rw [insS_len]; exact Nat.le_refl _
theorem insS_in {l : List Shr} {d x : Shr} (h : x ∈ insS l d) : x = d ∨ x ∈ l := insS_mem.1 h
theorem bump_in : ∀ {l : List Shr} {p : List UInt8} {x : Shr}, x ∈ bump l p → x ∈ l ∨ ∃ d ∈ l, x.refs = d.refs + 1
  | [], _, _, h => (by cases h)
  | d :: r, p, x, h => by
    unfold bump at h
    split at h
    · rcases List.mem_cons.1 h with rfl | h
      · exact .inr ⟨d, by simp, rfl⟩
      · exact .inl (by simp [h])
    · rcases List.mem_cons.1 h with rfl | h
      · exact .inl (by simp)
      · rcases bump_in h with h | ⟨e, he, h2⟩
        · exact .inl (by simp [h])
        · exact .inr ⟨e, by simp [he], h2⟩
theorem joinM_refs {l : List Shr} {p : List UInt8} (mk : Bool) {lo hi : Int} (h : ∀ d ∈ l, lo ≤ d.refs ∧ d.refs ≤ hi) (h1 : lo ≤ 1) (h2 : 0 ≤ hi) : ∀ d ∈ joinM l p mk, lo ≤ d.refs ∧ d.refs ≤ hi + 1 := by
  intro d hd
  unfold joinM at hd
  split at hd
  · rcases bump_in hd with hd | ⟨e, he, hr⟩
    · have := h d hd; omega
    · have := h e he; omega
  · rcases insS_in hd with rfl | hd
    · exact ⟨h1, by show (1 : Int) ≤ _; omega⟩
    · have := h d hd; omega
set_option maxHeartbeats 4000000 in
theorem oadd_ok (b : Bas) (m : Man) (mk : List (List UInt8)) (hp : b.packs.length ≤ 1000) (hd : b.dirs.length ≤ 100000) (he : m.ents.length ≤ 1000) (hbig : ∀ x ∈ b.packs, x.Big) (hm : m.Big) (hk : mk.length ≤ 100000000000000) (hr : ∀ d ∈ b.dirs, -4611686018427387904 ≤ d.refs ∧ d.refs ≤ 4000000000) : Spec Tryz.prog LL 21 [eBas b, eMan m, .sl 1 (List UInt8) [] mk .s] (eBas (addB b m fun p => decide (p ∈ mk))) := by
  refine spec_of (C := ⟨Tryz.prog, LL, EE, [1000004, 1000009, 2000000+40, 2000000+41, 2000000+42, 2000000+43]⟩) (rl := [eBas (addB b m fun p => decide (p ∈ mk))]) (rs := [.cell 6 25]) CCx LLs Tryz.func21 rfl (by kernel_rfl) rfl (by kernel_rfl) (Nat.le_of_ble_eq_true rfl) (fun i => rfl) (fun i => by first | rfl | exact (Bool.or_false _).trans (eSd_men _ _)) rfl (by decide) ?_
  refine gdd ?_
  have h0 : addB b m (fun p => decide (p ∈ mk)) = ⟨insM b.packs m, addDirs (fun p => decide (p ∈ mk)) m.ents b.dirs⟩ := rfl
  rw [h0]
  obtain ⟨f, hf⟩ : ∃ f : List UInt8 → Bool, f = fun p => decide (p ∈ mk) := ⟨_, rfl⟩
  rw [← hf]
  clear h0
  refine lp_hd [2, 3, 4, 6] [3, 4, 6] (fun i : Nat => [(7, .n .i64 (i : Int))]) (fun i : Nat => []) (fun i : Nat => i ≤ b.packs.length ∧ insM b.packs m = b.packs.take i ++ insM (b.packs.drop i) m) (fun i : Nat => b.packs.length - i) (0) id (id) ⟨Nat.zero_le _, rfl⟩ (fits_of (gdd ?_) (gdd ?_) (gdd ?_) (gdd ?_) (gdd ?_)) ?_
  · first | exact True.intro | exact ⟨rfl, rfl⟩ | exact ⟨rfl, rfl, rfl⟩ | rfl | exact rowc (List.map_id _) | trivial
  · first | exact True.intro | exact ⟨rfl, rfl⟩ | exact ⟨rfl, rfl, rfl⟩ | rfl | exact rowc (List.map_id _) | trivial
  · first | exact True.intro | exact ⟨rfl, rfl⟩ | exact ⟨rfl, rfl, rfl⟩ | rfl | exact rowc (List.map_id _) | trivial
  · first | exact True.intro | exact ⟨rfl, rfl⟩ | exact ⟨rfl, rfl, rfl⟩ | rfl | exact rowc (List.map_id _) | trivial
  · first | exact True.intro | exact ⟨rfl, rfl⟩ | exact ⟨rfl, rfl, rfl⟩ | rfl | exact rowc (List.map_id _) | trivial
  rintro i ⟨hi, h1⟩
  try refine gdd ?_
  refine br (fun e => ?_) (fun e => ?_)
  · try refine gdd ?_
    refine br (fun c => ?_) (fun c => ?_)
    · try refine gdd ?_
      refine ⟨i + 1, ⟨by omega, by rw [h1, drop_at b.packs i dMn (by omega), insM, if_pos c, take_at b.packs i dMn (by omega)]; simp⟩, (by omega), fits_of (gdd ?_) (gdd ?_) (gdd ?_) (gdd ?_) (gdd ?_)⟩
      · first | exact True.intro | exact ⟨rfl, rfl⟩ | exact ⟨rfl, rfl, rfl⟩ | rfl | exact rowc (List.map_id _) | trivial
      · first | exact True.intro | exact ⟨rfl, rfl⟩ | exact ⟨rfl, rfl, rfl⟩ | rfl | exact rowc (List.map_id _) | trivial
      · first | exact True.intro | exact ⟨rfl, rfl⟩ | exact ⟨rfl, rfl, rfl⟩ | rfl | exact rowc (List.map_id _) | trivial
      · first | exact True.intro | exact ⟨rfl, rfl⟩ | exact ⟨rfl, rfl, rfl⟩ | rfl | exact rowc (List.map_id _) | trivial
      · first | exact True.intro | exact ⟨rfl, rfl⟩ | exact ⟨rfl, rfl, rfl⟩ | rfl | exact rowc (List.map_id _) | trivial
    · have h1 := insM_at b.packs m i hi h1 (.inr ⟨by omega, c⟩)
      try refine gdd ?_
      refine ⟨by kernel_rfl, ?_⟩
      refine dqO [401] (all_ok b.packs (by omega) hbig) (gdd ?_) rfl rfl (gdd ?_) (gdd ?_)
      · trivial
      · trivial
      refine cd (copied_ok m hm) ?_
      refine gdd ?_
      refine .inr ?_
      try refine gdd ?_
      refine dqP (fun _ => 401) (fun _ => 402) (insM_ok b.packs m i hi (by omega)) (gdd ?_) (gdd ?_) (gdd ?_) (gdd ?_) (gdd ?_) (gdd ?_)
      · trivial
      · trivial
      · trivial
      · trivial
      · trivial
      refine dqO [403] (cloneO_ok b.dirs (by omega)) (gdd ?_) rfl rfl (gdd ?_) (gdd ?_)
      · trivial
      · trivial
      refine lp_hr [2, 6, 42, 43] [6, 402] (fun x : Nat × List Shr => [(8, .p 8 0), (44, .n .i64 (x.1 : Int))]) (fun x : Nat × List Shr => [(8, .cells 25 [.ow 402 (b.packs.length + 1), .ow 403 x.2.length]), (403, rSh x.2)]) (fun x : Nat × List Shr => x.1 ≤ m.ents.length ∧ x.2.length ≤ b.dirs.length + x.1 ∧ (∀ d ∈ x.2, -4611686018427387904 ≤ d.refs ∧ d.refs ≤ 4000000000 + x.1) ∧ addDirs f m.ents b.dirs = addDirs f (m.ents.drop x.1) x.2) (fun x : Nat × List Shr => m.ents.length - x.1) ((0, b.dirs)) id ⟨Nat.zero_le _, Nat.le_refl _, fun d h => by have := hr d h; dsimp only; omega, rfl⟩ (fits_of (gdd ?_) (gdd ?_) (gdd ?_) (gdd ?_) (gdd ?_)) ?_
      · first | exact True.intro | exact ⟨rfl, rfl⟩ | exact ⟨rfl, rfl, rfl⟩ | rfl | exact rowc (List.map_id _) | trivial
      · first | exact True.intro | exact ⟨rfl, rfl⟩ | exact ⟨rfl, rfl, rfl⟩ | rfl | exact rowc (List.map_id _) | trivial
      · first | exact True.intro | exact ⟨rfl, rfl⟩ | exact ⟨rfl, rfl, rfl⟩ | rfl | exact rowc (List.map_id _) | trivial
      · first | exact True.intro | exact ⟨rfl, rfl⟩ | exact ⟨rfl, rfl, rfl⟩ | rfl | exact rowc (List.map_id _) | trivial
      · first | exact True.intro | exact ⟨rfl, rfl⟩ | exact ⟨rfl, rfl, rfl⟩ | rfl | exact rowc (List.map_id _) | trivial
      rintro ⟨j, cur⟩ ⟨hj, hl, hr, h2⟩
      dsimp only at hj hl hr h2 ⊢
      try refine gdd ?_
      refine br (fun e => ?_) (fun e => ?_)
      · rw [drop_at m.ents j dE (by omega), addDirs] at h2
        try refine gdd ?_
        generalize m.ents.getD j dE = x at h2
        refine br (fun c => ?_) (fun c => ?_)
        · rw [if_pos c] at h2
          try refine gdd ?_
          refine ⟨by kernel_rfl, ?_⟩
          refine cd (contains_ok mk x.path (by omega)) ?_
          refine gdd ?_
          rw [show decide (x.path ∈ mk) = f x.path by rw [hf]]
          refine dqP (fun _ => 403) (fun _ => 404) (djoin_ok cur x.path (f x.path) (by omega) (fun d h => by have := hr d h; omega)) (gdd ?_) (gdd ?_) (gdd ?_) (gdd ?_) (gdd ?_) (gdd ?_)
          · trivial
          · trivial
          · trivial
          · trivial
          · trivial
          have hl2 := joinM_len cur x.path (f x.path)
          refine ⟨(j + 1, joinM cur x.path (f x.path)), fun i => if i = 403 then 404 else i, ⟨by dsimp only; omega, by dsimp only; omega, fun d h => by have := joinM_refs (f x.path) hr (by decide) (by omega) d h; dsimp only at this ⊢; omega, h2⟩, (by dsimp only; omega), fits_of (gdd ?_) (gdd ?_) (gdd ?_) (gdd ?_) (gdd ?_)⟩
          · first | exact True.intro | exact ⟨rfl, rfl⟩ | exact ⟨rfl, rfl, rfl⟩ | rfl | exact rowc (List.map_id _) | trivial
          · first | exact True.intro | exact ⟨rfl, rfl⟩ | exact ⟨rfl, rfl, rfl⟩ | rfl | exact rowc (List.map_id _) | trivial
          · first | exact True.intro | exact ⟨rfl, rfl⟩ | exact ⟨rfl, rfl, rfl⟩ | rfl | exact rowc (List.map_id _) | trivial
          · (first | trivial | exact ⟨rfl, rfl⟩ | exact ⟨rfl, rfl, rfl⟩ | simp)
          · first | exact True.intro | exact ⟨rfl, rfl⟩ | exact ⟨rfl, rfl, rfl⟩ | rfl | exact rowc (List.map_id _) | trivial
        · rw [if_neg c] at h2
          try refine gdd ?_
          refine ⟨(j + 1, cur), id, ⟨by dsimp only; omega, by dsimp only; omega, fun d h => by have := hr d h; dsimp only; omega, h2⟩, (by dsimp only; omega), fits_of (gdd ?_) (gdd ?_) (gdd ?_) (gdd ?_) (gdd ?_)⟩
          · first | exact True.intro | exact ⟨rfl, rfl⟩ | exact ⟨rfl, rfl, rfl⟩ | rfl | exact rowc (List.map_id _) | trivial
          · first | exact True.intro | exact ⟨rfl, rfl⟩ | exact ⟨rfl, rfl, rfl⟩ | rfl | exact rowc (List.map_id _) | trivial
          · first | exact True.intro | exact ⟨rfl, rfl⟩ | exact ⟨rfl, rfl, rfl⟩ | rfl | exact rowc (List.map_id _) | trivial
          · first | exact True.intro | exact ⟨rfl, rfl⟩ | exact ⟨rfl, rfl, rfl⟩ | rfl | exact rowc (List.map_id _) | trivial
          · first | exact True.intro | exact ⟨rfl, rfl⟩ | exact ⟨rfl, rfl, rfl⟩ | rfl | exact rowc (List.map_id _) | trivial
      · rw [List.drop_eq_nil_of_le (by omega), addDirs] at h2
        rw [h1, h2]
        try refine gdd ?_
        rw [if_pos (by omega)]
        exact le_refl _
  · have h1 := insM_at b.packs m i hi h1 (.inl (by omega))
    try refine gdd ?_
    refine ⟨by kernel_rfl, ?_⟩
    refine dqO [401] (all_ok b.packs (by omega) hbig) (gdd ?_) rfl rfl (gdd ?_) (gdd ?_)
    · trivial
    · trivial
    refine cd (copied_ok m hm) ?_
    refine gdd ?_
    refine .inr ?_
    try refine gdd ?_
    refine dqP (fun _ => 401) (fun _ => 402) (insM_ok b.packs m i hi (by omega)) (gdd ?_) (gdd ?_) (gdd ?_) (gdd ?_) (gdd ?_) (gdd ?_)
    · trivial
    · trivial
    · trivial
    · trivial
    · trivial
    refine dqO [403] (cloneO_ok b.dirs (by omega)) (gdd ?_) rfl rfl (gdd ?_) (gdd ?_)
    · trivial
    · trivial
    refine lp_hr [2, 6, 42, 43] [6, 402] (fun x : Nat × List Shr => [(8, .p 8 0), (44, .n .i64 (x.1 : Int))]) (fun x : Nat × List Shr => [(8, .cells 25 [.ow 402 (b.packs.length + 1), .ow 403 x.2.length]), (403, rSh x.2)]) (fun x : Nat × List Shr => x.1 ≤ m.ents.length ∧ x.2.length ≤ b.dirs.length + x.1 ∧ (∀ d ∈ x.2, -4611686018427387904 ≤ d.refs ∧ d.refs ≤ 4000000000 + x.1) ∧ addDirs f m.ents b.dirs = addDirs f (m.ents.drop x.1) x.2) (fun x : Nat × List Shr => m.ents.length - x.1) ((0, b.dirs)) id ⟨Nat.zero_le _, Nat.le_refl _, fun d h => by have := hr d h; dsimp only; omega, rfl⟩ (fits_of (gdd ?_) (gdd ?_) (gdd ?_) (gdd ?_) (gdd ?_)) ?_
    · first | exact True.intro | exact ⟨rfl, rfl⟩ | exact ⟨rfl, rfl, rfl⟩ | rfl | exact rowc (List.map_id _) | trivial
    · first | exact True.intro | exact ⟨rfl, rfl⟩ | exact ⟨rfl, rfl, rfl⟩ | rfl | exact rowc (List.map_id _) | trivial
    · first | exact True.intro | exact ⟨rfl, rfl⟩ | exact ⟨rfl, rfl, rfl⟩ | rfl | exact rowc (List.map_id _) | trivial
    · first | exact True.intro | exact ⟨rfl, rfl⟩ | exact ⟨rfl, rfl, rfl⟩ | rfl | exact rowc (List.map_id _) | trivial
    · first | exact True.intro | exact ⟨rfl, rfl⟩ | exact ⟨rfl, rfl, rfl⟩ | rfl | exact rowc (List.map_id _) | trivial
    rintro ⟨j, cur⟩ ⟨hj, hl, hr, h2⟩
    dsimp only at hj hl hr h2 ⊢
    try refine gdd ?_
    refine br (fun e => ?_) (fun e => ?_)
    · rw [drop_at m.ents j dE (by omega), addDirs] at h2
      try refine gdd ?_
      generalize m.ents.getD j dE = x at h2
      refine br (fun c => ?_) (fun c => ?_)
      · rw [if_pos c] at h2
        try refine gdd ?_
        refine ⟨by kernel_rfl, ?_⟩
        refine cd (contains_ok mk x.path (by omega)) ?_
        refine gdd ?_
        rw [show decide (x.path ∈ mk) = f x.path by rw [hf]]
        refine dqP (fun _ => 403) (fun _ => 404) (djoin_ok cur x.path (f x.path) (by omega) (fun d h => by have := hr d h; omega)) (gdd ?_) (gdd ?_) (gdd ?_) (gdd ?_) (gdd ?_) (gdd ?_)
        · trivial
        · trivial
        · trivial
        · trivial
        · trivial
        have hl2 := joinM_len cur x.path (f x.path)
        refine ⟨(j + 1, joinM cur x.path (f x.path)), fun i => if i = 403 then 404 else i, ⟨by dsimp only; omega, by dsimp only; omega, fun d h => by have := joinM_refs (f x.path) hr (by decide) (by omega) d h; dsimp only at this ⊢; omega, h2⟩, (by dsimp only; omega), fits_of (gdd ?_) (gdd ?_) (gdd ?_) (gdd ?_) (gdd ?_)⟩
        · first | exact True.intro | exact ⟨rfl, rfl⟩ | exact ⟨rfl, rfl, rfl⟩ | rfl | exact rowc (List.map_id _) | trivial
        · first | exact True.intro | exact ⟨rfl, rfl⟩ | exact ⟨rfl, rfl, rfl⟩ | rfl | exact rowc (List.map_id _) | trivial
        · first | exact True.intro | exact ⟨rfl, rfl⟩ | exact ⟨rfl, rfl, rfl⟩ | rfl | exact rowc (List.map_id _) | trivial
        · (first | trivial | exact ⟨rfl, rfl⟩ | exact ⟨rfl, rfl, rfl⟩ | simp)
        · first | exact True.intro | exact ⟨rfl, rfl⟩ | exact ⟨rfl, rfl, rfl⟩ | rfl | exact rowc (List.map_id _) | trivial
      · rw [if_neg c] at h2
        try refine gdd ?_
        refine ⟨(j + 1, cur), id, ⟨by dsimp only; omega, by dsimp only; omega, fun d h => by have := hr d h; dsimp only; omega, h2⟩, (by dsimp only; omega), fits_of (gdd ?_) (gdd ?_) (gdd ?_) (gdd ?_) (gdd ?_)⟩
        · first | exact True.intro | exact ⟨rfl, rfl⟩ | exact ⟨rfl, rfl, rfl⟩ | rfl | exact rowc (List.map_id _) | trivial
        · first | exact True.intro | exact ⟨rfl, rfl⟩ | exact ⟨rfl, rfl, rfl⟩ | rfl | exact rowc (List.map_id _) | trivial
        · first | exact True.intro | exact ⟨rfl, rfl⟩ | exact ⟨rfl, rfl, rfl⟩ | rfl | exact rowc (List.map_id _) | trivial
        · first | exact True.intro | exact ⟨rfl, rfl⟩ | exact ⟨rfl, rfl, rfl⟩ | rfl | exact rowc (List.map_id _) | trivial
        · first | exact True.intro | exact ⟨rfl, rfl⟩ | exact ⟨rfl, rfl, rfl⟩ | rfl | exact rowc (List.map_id _) | trivial
    · rw [List.drop_eq_nil_of_le (by omega), addDirs] at h2
      rw [h1, h2]
      try refine gdd ?_
      rw [if_pos (by omega)]
      exact le_refl _
end Go.Proofs.YtjbnmeofjiokeaaGreatDoor.Ev
