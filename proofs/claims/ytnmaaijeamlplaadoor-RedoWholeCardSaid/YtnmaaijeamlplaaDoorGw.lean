/- The laws of redo: a commit is there whole, or not at all. -/
import Derived.Test.YtnmaaijeamlplaaDoorGk
import Derived.Test.YtnmaaijeamlplaaDoorKI
import Derived.Test.YtnmaaijeamlplaaDoorKH
set_option linter.all false
namespace Go.Proofs.YtnmaaijeamlplaaDoor.Ev
open Go.ChangeShapes Go.WideShapes Go.ChangeAt Go.RowKit Go.ChangeMaps
open Go.Proofs.YtnmaaijeamlplaaDoor.Mem
set_option linter.unusedVariables false
set_option linter.unusedSimpArgs false
set_option maxRecDepth 100000
theorem eWsd2 (w : List Wr) : eWs w = .sl 2 Wr ⟨0, []⟩ w eWr := rfl
theorem okWide_array {P : Program} {w : World} {r : Reach} {base n : Nat} {e t : TypeId} {v : Value} (ht : P.underlying t = some (.array n e)) (h : Value.okWide P w r base t v) : ∃ cs, v = .agg cs ∧ cs.size = P.cellsOf t := by
  simp only [Value.okWide, ht] at h
  obtain ⟨cs, h1, h2, _⟩ := h
  exact ⟨cs, h1, h2⟩
theorem arr_open {R : Nat} {P : Program} {T e : TypeId} {n : Nat} (ht : P.underlying T = some (.array n e)) {H : Type} {enc : TypeId × Value → H} {W : World} {base : Nat} {held : Bool} {m : Nat} {cs : List Value} {x : DataW H × List MemPlace} (h : DataW.trod enc P W base (fun _ => true) held m T cs = some x) (hs : Mem.Small R P T x.1) :
    cs.length = P.cellsOf T ∧ ∃ q, ∀ i, i < n → ∃ y, DataW.trod enc P W base (fun _ => true) held q e ((cs.drop (i * P.cellsOf e)).take (P.cellsOf e)) = some y ∧ Mem.Small R P e y.1 := by
  obtain ⟨xs, q, _, hx, hl, hlen, hel⟩ := DataW.trod_array ht h
  refine ⟨hl, q, fun i hi => ?_⟩
  have h1 := hel i hi
  rw [List.getElem?_eq_getElem (by omega)] at h1
  refine ⟨_, h1, fun w hw => hs w ?_⟩
  rw [hx]
  unfold DataW.weights
  simp only [ht]
  exact weights_all (List.mem_map.2 ⟨_, List.getElem_mem _, rfl⟩) w hw
theorem o_two {R : Nat} : OpV R Tryd.prog 40 2 (fun y : List Wr × List Wr => V.ag [eWs y.1, eWs y.2]) (fun y => y.1.length * 24 ≤ R ∧ y.2.length * 24 ≤ R) := by
  intro H enc W base held m c x h hs
  obtain ⟨hl, n, hf⟩ := arr_open Tryd.underlying40 h hs
  obtain ⟨y0, k0, r0⟩ := opv_field (off := 0) o_Ws (by kernel_rfl) (hf 0 (by omega))
  obtain ⟨y1, k1, r1⟩ := opv_field (off := 1) o_Ws (by kernel_rfl) (hf 1 (by omega))
  exact ⟨⟨y0, y1⟩, ⟨k0, k1⟩, hl.trans (by kernel_rfl), by have r := reps_cons (off := 0) r0 rfl (reps_cons (off := 1) r1 rfl (reps_nil W _)); rw [List.drop_zero] at r; exact r⟩
theorem fx5 : sz Tryd.prog 40 = some 2 ∧ agT Tryd.prog 40 = true ∧ (Tryd.prog.underlying 40).isSome = true ∧ bys Tryd.prog 40 = some 48 ∧ zc Tryd.prog 40 = some [.nl, .nl] ∧ arT Tryd.prog 40 = some (2, 23) :=
  ⟨by kernel_rfl, by kernel_rfl, by kernel_rfl, by kernel_rfl, by kernel_rfl, by kernel_rfl⟩
theorem gw {p q : Prop} (hq : q) (h : p ↔ q := by simp (config := { maxSteps := 10000000 }) (disch := omega) only [eWsd2, fx5, fx3, eFd, bl4, ebd2, wrc, tmn, nb_len, sha_len, cSd, tdq, cDd, true_implies, Nat.mul_one, Nat.zero_mul, Nat.one_mul, Nat.add_zero, lenl, bne_self_eq_false, Int.reduceLT, Int.reduceLE, Int.reduceEq, Int.reduceNe, Int.reduceAdd, Int.reduceSub, Int.reduceMul, Int.reduceNeg, ebr, wr64, sdl, ler, true_or, or_true, rng, eok, List.length_map, List.length_range, List.length_append, List.length_replicate, List.length_set, List.length_take, List.length_drop, List.not_mem_nil, false_implies, implies_true, ↓ec, ↓eg, ↓eo, ↓eox, ↓es, ↓et1, em, emR, efz, enl, ebt, et, ev, fx, fx2, dk, ewr, odk, eBd, List.drop_nil, eEE, Option.some.injEq, Option.isSome_none, Int.reduceToNat, List.replicate_zero, Bool.or_self, rSd, rWd, ez, ef, ebd, et2, Int.toNat_natCast, Option.map_none, Option.map_some, List.all_cons, List.all_nil, Bool.and_self, List.cons_append, List.nil_append, List.append_nil, List.append_assoc, ep, ew, Option.isSome_some, id_eq, Nat.reduceLT, Nat.reduceSub, Bool.false_or, Bool.true_or, Bool.or_true, Bool.true_and, Bool.and_true, reduceCtorEq, Nat.reduceBEq, Bool.true_eq_false, Bool.false_eq_true, List.map_cons, List.map_nil, List.take_succ_cons, List.take_zero, List.drop_succ_cons, List.drop_zero, List.length_cons, List.length_nil, Nat.zero_add, Nat.reduceAdd, Nat.reduceLeDiff, Bool.not_true, Bool.not_false, List.getElem?_cons_succ, List.getElem?_cons_zero, Option.bind_some, ne_eq, not_false_eq_true, ↓eh1, eh, en, List.getD_cons_zero, List.getD_cons_succ, Nat.reduceEqDiff, ↓reduceIte, cond_true, cond_false, Bool.or_false, decide_true, decide_false, true_and, and_true, decide_eq_true_eq, decide_eq_false_iff_not, Bool.not_eq_true', Bool.not_eq_false', not_true_eq_false, Decidable.not_not]; exact Iff.rfl) : p := h.2 hq
def fdef (all : List Fall) : Fall := all.getD 0 ⟨0, []⟩
set_option maxHeartbeats 4000000 in
theorem whole_ok (n : UInt8) (two : List Wr × List Wr) (all : List Fall) (h1 : two.1.length ≤ 100000000000000) (h2 : two.2.length ≤ 100000000000000) (h3 : ∀ x ∈ all, x.fuse < 65536) (h4 : all.length ≤ 100000000000000) : Spec Tryd.prog LL 5 [.n .u8 (n.toNat : Int), .ag [eWs two.1, eWs two.2], .sl 2 Fall ⟨0, []⟩ all eFall] (.b true) := by
  refine spec_of (C := ⟨Tryd.prog, LL, EE, [5]⟩) (rl := [.b true]) (rs := [.tmp 6]) CCx LLs Tryd.func5 rfl (by kernel_rfl) rfl (by kernel_rfl) (Nat.le_of_ble_eq_true rfl) (fun i => rfl) (fun i => rfl) rfl (by decide) ?_
  refine gw ?_
  refine ct_hd [0] [4] (fun x : Fall × List Fall => [(4, .p 4 0), (7, .p 7 0), (8, .sl 2 Fall ⟨0, []⟩ x.2 eFall)]) (fun x : Fall × List Fall => [(7, .cells 45 [.n .u16 (x.1.fuse : Int), .sl 1 UInt8 0 x.1.fates eB])]) (fun x : Fall × List Fall => x.1.fuse < 65536 ∧ (∀ f ∈ x.2, f.fuse < 65536) ∧ x.2.length ≤ 100000000000000) (gw ?_) ?_
  · refine br (fun a1 => ?_) (fun a1 => ?_)
    · refine gw ?_
      refine wk_fit ((all.getD 0 ⟨0, []⟩, all.drop 1)) (id) (⟨h3 _ (getD_mem (by omega)), fun f hf => h3 f (List.mem_of_mem_drop hf), by simp; omega⟩) (fits_of (gw ?_) (gw ?_) (gw ?_) (gw ?_) (gw ?_))
      · first | exact True.intro | exact ⟨rfl, rfl⟩ | exact ⟨rfl, rfl, rfl⟩ | rfl | exact rowc (List.map_id _) | trivial
      · first | exact True.intro | exact ⟨rfl, rfl⟩ | exact ⟨rfl, rfl, rfl⟩ | rfl | exact rowc (List.map_id _) | trivial
      · first | exact True.intro | exact ⟨rfl, rfl⟩ | exact ⟨rfl, rfl, rfl⟩ | rfl | exact rowc (List.map_id _) | trivial
      · first | exact True.intro | exact ⟨rfl, rfl⟩ | exact ⟨rfl, rfl, rfl⟩ | rfl | exact rowc (List.map_id _) | trivial
      · first | exact True.intro | exact ⟨rfl, rfl⟩ | exact ⟨rfl, rfl, rfl⟩ | rfl | exact rowc (List.map_id _) | trivial
    · refine gw ?_
      refine wk_le 8 (.sl 2 Fall ⟨0, []⟩ [] eFall) (gw ?_) (fun i => rfl) ?_
      · first | trivial | exact le_nl
      refine wk_leB 7 ([.n .u16 0, .sl 1 UInt8 0 [] eB]) rfl ?_ ?_ ?_
      · refine gw ?_; first | trivial | simp only [leL, le_nl, ler, and_self]
      · intro k; simp [menL, men]
      refine wk_fit ((⟨0, []⟩, [])) (id) (⟨by decide, fun f hf => (by cases hf), by simp⟩) (fits_of (gw ?_) (gw ?_) (gw ?_) (gw ?_) (gw ?_))
      · first | exact True.intro | exact ⟨rfl, rfl⟩ | exact ⟨rfl, rfl, rfl⟩ | rfl | exact rowc (List.map_id _) | trivial
      · first | exact True.intro | exact ⟨rfl, rfl⟩ | exact ⟨rfl, rfl, rfl⟩ | rfl | exact rowc (List.map_id _) | trivial
      · first | exact True.intro | exact ⟨rfl, rfl⟩ | exact ⟨rfl, rfl, rfl⟩ | rfl | exact rowc (List.map_id _) | trivial
      · first | exact True.intro | exact ⟨rfl, rfl⟩ | exact ⟨rfl, rfl, rfl⟩ | rfl | exact rowc (List.map_id _) | trivial
      · first | exact True.intro | exact ⟨rfl, rfl⟩ | exact ⟨rfl, rfl, rfl⟩ | rfl | exact rowc (List.map_id _) | trivial
  · rintro ⟨fall, falls⟩ ⟨g1, g2, g3⟩
    dsimp only at g1 g2 g3 ⊢
    obtain ⟨s, e, r1, r2, r3, r4⟩ := ready_clean n.toNat two.1
    refine gw ?_
    refine cl (ready_ok' n two.1 h1) ?_
    refine gw ?_
    rw [r1]
    dsimp only
    have hcl := r2.fuse fall.fuse
    dsimp only at hcl
    have hsm : Small ⟨s, [], fall.fuse, false⟩ := by unfold Small; dsimp only; omega
    obtain ⟨c1, c2⟩ := commit_small ⟨s, [], fall.fuse, false⟩ two.2 hsm
    dsimp only at c2
    simp only [List.length_nil] at c2
    refine gw ?_
    refine cl (home_ok ⟨s, [], -1, false⟩ (by simp) (ready0 r2.u.1 r2.u.2.1) r2.u.1) ?_
    refine gw ?_
    refine cl (commit_ok ⟨s, [], fall.fuse, false⟩ two.2 (by simp) hsm (by dsimp only; omega) h2) ?_
    refine gw ?_
    rcases whole_math hcl (by omega) two.2 fall.fates (falls.take 20) with ⟨k, hk, q1⟩ | ⟨k, s', y, D⟩
    · rw [q1]
      dsimp only
      rcases hk with rfl | rfl
      · refine gw ?_
        refine cl (awake_ok) ?_
        refine gw ?_
        refine cl (samed_ok ⟨s, [], fall.fuse, false⟩ (by simp) (by dsimp only; omega)) ?_
        refine gw ?_
        trivial
      · refine gw ?_
        refine cl (awake_ok) ?_
        refine gw ?_
        refine cl (samed_ok ⟨s, [], fall.fuse, false⟩ (by simp) (by dsimp only; omega)) ?_
        refine gw ?_
        trivial
    · have hkk := D.kk
      obtain ⟨cm, hmid⟩ := D.mid
      rw [D.cm]
      have hy := D.len
      obtain ⟨ey, hcy⟩ := D.cl
      have hI : ∀ d, Mid cm d → d.loose = [] ∧ d.safe.length ≤ 2048 ∧ Small d := fun d hd => by
        have := hd.len
        obtain ⟨t, rfl, _⟩ := hd
        exact ⟨rfl, by omega, by unfold Small; dsimp only; omega⟩
      have hL : ∀ (d : Dk) (f : Fall), Mid cm d → f.fuse < 65536 → (recoverM { d with fuse := f.fuse }).1.loose.length ≤ 10000 := fun d f hd hf => by
        have h95 := hd.len
        obtain ⟨t, rfl, _⟩ := hd
        dsimp only at h95 ⊢
        have := (recover_small ⟨t, [], f.fuse, false⟩ (by unfold Small; dsimp only; omega)).2
        dsimp only [List.length_nil] at this
        omega
      have qh : ∀ t : List (List UInt8), homes ⟨t, [], -1, false⟩ = (List.range (t.length - t.length / 4)).map fun i => got ⟨t, [], -1, false⟩ (((t.length / 4 : Nat) : Int) + (i : Nat)) := fun t => rfl
      have hls := homes_len ⟨s, [], -1, false⟩
      have hly := homes_len ⟨y, [], -1, false⟩
      unfold lg at hls hly
      dsimp only at hls hly
      have hh := D.h
      have hat := D.at_
      have hcr := D.cr
      have hri := D.ri
      clear D
      rw [← qh s]
      generalize homes ⟨s, [], -1, false⟩ = Hs at hls hh
      rcases hkk with rfl | rfl
      · refine gw ?_
        refine cl (crash_ok _ fall.fates (-1) (by omega)) ?_
        refine gw ?_
        rw [hcr]
        dsimp only
        refine cl (risen_ok (Mid cm) hI (fun d f hd => hd.step f) hL ⟨s', [], -1, false⟩ hmid falls g2 g3) ?_
        refine gw ?_
        rw [hri]
        dsimp only
        refine cl (home_ok ⟨y, [], -1, false⟩ (by simp) (ready0 hcy.u.1 hcy.u.2.1) hcy.u.1) ?_
        refine gw ?_
        rw [← qh y]
        generalize homes ⟨y, [], -1, false⟩ = Hy at hly hh
        refine .inl (lto (gw ?_))
        refine lp_hd [4, 10, 11, 14, 16, 17] [4] (fun i : Nat => [(18, .ow 85 Hs.length), (19, .n .i64 (i : Int))]) (fun i : Nat => [(85, rS (laid Hs (two.2.take i)))]) (fun i : Nat => i ≤ two.2.length) (fun i : Nat => two.2.length - i) (0) id (id) (Nat.zero_le _) (fits_of (gw ?_) (gw ?_) (gw ?_) (gw ?_) (gw ?_)) ?_
        · first | exact True.intro | exact ⟨rfl, rfl⟩ | exact ⟨rfl, rfl, rfl⟩ | rfl | exact rowc (List.map_id _) | trivial
        · first | exact True.intro | exact ⟨rfl, rfl⟩ | exact ⟨rfl, rfl, rfl⟩ | rfl | exact rowc (List.map_id _) | trivial
        · first | exact True.intro | exact ⟨rfl, rfl⟩ | exact ⟨rfl, rfl, rfl⟩ | rfl | exact rowc (List.map_id _) | trivial
        · first | exact True.intro | exact ⟨rfl, rfl⟩ | exact ⟨rfl, rfl, rfl⟩ | rfl | exact rowc (List.map_id _) | trivial
        · first | exact True.intro | exact ⟨rfl, rfl⟩ | exact ⟨rfl, rfl, rfl⟩ | rfl | exact rowc (List.map_id _) | trivial
        rintro i hi
        have hln : (laid Hs (two.2.take i)).length = Hs.length := laid_len _ _
        refine gw ?_
        refine br (fun b1 => ?_) (fun b1 => ?_)
        · have hw := hat _ (getD_mem (x := ⟨0, []⟩) (show i < two.2.length by omega))
          have htk : laid Hs (two.2.take (i + 1)) = (laid Hs (two.2.take i)).set (two.2.getD i ⟨0, []⟩).at_.toNat (two.2.getD i ⟨0, []⟩).data := by
            rw [take_at two.2 i ⟨0, []⟩ (by omega)]
            unfold laid
            rw [List.foldl_append]
            rfl
          refine gw ?_
          refine br (fun b2 => ?_) (fun b2 => ?_)
          · refine gw ?_
            rw [Int.tmod_eq_of_lt hw.1 (by omega)]
            refine gw ?_
            refine ⟨i + 1, (by omega), (by omega), fits_of (gw ?_) (gw ?_) (gw ?_) (gw ?_) (gw ?_)⟩
            · first | exact True.intro | exact ⟨rfl, rfl⟩ | exact ⟨rfl, rfl, rfl⟩ | rfl | exact rowc (List.map_id _) | trivial
            · rfl
            · first | exact True.intro | exact ⟨rfl, rfl⟩ | exact ⟨rfl, rfl, rfl⟩ | rfl | exact rowc (List.map_id _) | trivial
            · exact rowc (by rw [htk])
            · first | exact True.intro | exact ⟨rfl, rfl⟩ | exact ⟨rfl, rfl, rfl⟩ | rfl | exact rowc (List.map_id _) | trivial
          · exfalso; omega
        · have hti : two.2.take i = two.2 := List.take_of_length_le (by omega)
          refine cl (awake_ok) ?_
          refine gw ?_
          refine cv (sameL_ok Hy (laid Hs (two.2.take i)) (by omega)) rfl (gw ?_) ?_
          · rw [if_pos hln.symm]; exact le_refl _
          rw [hti]
          refine gw ?_
          have hh' : Hy = laid Hs two.2 := hh.resolve_right fun h => by omega
          refine br (fun m1 => ?_) (fun m1 => ?_)
          · exact absurd hh' m1
          · refine gw ?_
            trivial
      · refine gw ?_
        refine cl (crash_ok _ fall.fates (-1) (by omega)) ?_
        refine gw ?_
        rw [hcr]
        dsimp only
        refine cl (risen_ok (Mid cm) hI (fun d f hd => hd.step f) hL ⟨s', [], -1, false⟩ hmid falls g2 g3) ?_
        refine gw ?_
        rw [hri]
        dsimp only
        refine cl (home_ok ⟨y, [], -1, false⟩ (by simp) (ready0 hcy.u.1 hcy.u.2.1) hcy.u.1) ?_
        refine gw ?_
        rw [← qh y]
        generalize homes ⟨y, [], -1, false⟩ = Hy at hly hh
        refine .inl (lto (gw ?_))
        refine lp_hd [4, 10, 11, 14, 16, 17] [4] (fun i : Nat => [(18, .ow 85 Hs.length), (19, .n .i64 (i : Int))]) (fun i : Nat => [(85, rS (laid Hs (two.2.take i)))]) (fun i : Nat => i ≤ two.2.length) (fun i : Nat => two.2.length - i) (0) id (id) (Nat.zero_le _) (fits_of (gw ?_) (gw ?_) (gw ?_) (gw ?_) (gw ?_)) ?_
        · first | exact True.intro | exact ⟨rfl, rfl⟩ | exact ⟨rfl, rfl, rfl⟩ | rfl | exact rowc (List.map_id _) | trivial
        · first | exact True.intro | exact ⟨rfl, rfl⟩ | exact ⟨rfl, rfl, rfl⟩ | rfl | exact rowc (List.map_id _) | trivial
        · first | exact True.intro | exact ⟨rfl, rfl⟩ | exact ⟨rfl, rfl, rfl⟩ | rfl | exact rowc (List.map_id _) | trivial
        · first | exact True.intro | exact ⟨rfl, rfl⟩ | exact ⟨rfl, rfl, rfl⟩ | rfl | exact rowc (List.map_id _) | trivial
        · first | exact True.intro | exact ⟨rfl, rfl⟩ | exact ⟨rfl, rfl, rfl⟩ | rfl | exact rowc (List.map_id _) | trivial
        rintro i hi
        have hln : (laid Hs (two.2.take i)).length = Hs.length := laid_len _ _
        refine gw ?_
        refine br (fun b1 => ?_) (fun b1 => ?_)
        · have hw := hat _ (getD_mem (x := ⟨0, []⟩) (show i < two.2.length by omega))
          have htk : laid Hs (two.2.take (i + 1)) = (laid Hs (two.2.take i)).set (two.2.getD i ⟨0, []⟩).at_.toNat (two.2.getD i ⟨0, []⟩).data := by
            rw [take_at two.2 i ⟨0, []⟩ (by omega)]
            unfold laid
            rw [List.foldl_append]
            rfl
          refine gw ?_
          refine br (fun b2 => ?_) (fun b2 => ?_)
          · refine gw ?_
            rw [Int.tmod_eq_of_lt hw.1 (by omega)]
            refine gw ?_
            refine ⟨i + 1, (by omega), (by omega), fits_of (gw ?_) (gw ?_) (gw ?_) (gw ?_) (gw ?_)⟩
            · first | exact True.intro | exact ⟨rfl, rfl⟩ | exact ⟨rfl, rfl, rfl⟩ | rfl | exact rowc (List.map_id _) | trivial
            · rfl
            · first | exact True.intro | exact ⟨rfl, rfl⟩ | exact ⟨rfl, rfl, rfl⟩ | rfl | exact rowc (List.map_id _) | trivial
            · exact rowc (by rw [htk])
            · first | exact True.intro | exact ⟨rfl, rfl⟩ | exact ⟨rfl, rfl, rfl⟩ | rfl | exact rowc (List.map_id _) | trivial
          · exfalso; omega
        · have hti : two.2.take i = two.2 := List.take_of_length_le (by omega)
          refine cl (awake_ok) ?_
          refine gw ?_
          refine cv (sameL_ok Hy (laid Hs (two.2.take i)) (by omega)) rfl (gw ?_) ?_
          · rw [if_pos hln.symm]; exact le_refl _
          rw [hti]
          refine gw ?_
          refine br (fun m1 => ?_) (fun m1 => ?_)
          · have hh' : Hy = Hs := by rcases hh with h | ⟨_, h⟩; exact absurd h m1; exact h
            refine gw ?_
            refine cl (sameL_ok Hy Hs (by omega)) ?_
            refine gw ?_
            refine br (fun m2 => ?_) (fun m2 => absurd hh' m2)
            refine gw ?_
            exact True.intro
          · refine gw ?_
            trivial
end Go.Proofs.YtnmaaijeamlplaaDoor.Ev
