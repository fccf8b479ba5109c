import Derived.Test.YtnmaaijeamlplaaDoorReH
set_option linter.unusedVariables false
set_option linter.unusedSimpArgs false
set_option maxHeartbeats 4000000
set_option maxRecDepth 100000
namespace Go.Proofs.YtnmaaijeamlplaaDoor.Bk
open Go.RowKit Go.Proofs.YtnmaaijeamlplaaDoor.Mem
def wput (d : Dk) : List Wr → Dk × Int
 | [] => (d, 0)
 | x :: l => if (put_m d (log_m d + x.at_) x.data).2 = 0 then wput (put_m d (log_m d + x.at_) x.data).1 l else put_m d (log_m d + x.at_) x.data
def brought (epoch : Int) (r : Dk × Int) : Dk × Int :=
 if (flush_m r.1).2 = 0 then putfl_m (flush_m r.1).1 0 [beginning_m (epoch + 1)] else flush_m r.1
theorem bring_l (d : Dk) (epoch : Int) (l : List Wr) (a : List (List UInt8)) (b : List Wr) (f : Nat) (g : Bool) : ∀ k i s lo fu dn, l.length ≤ i + k → i ≤ l.length →
  fin (bring_m_l0 d epoch l (k + 1) (i, s, lo, fu, dn, a, b, f, g)) (fun r => r) (fun zz => bring_m_k0 d epoch l zz.1 zz.2.1 zz.2.2.1 zz.2.2.2.1 zz.2.2.2.2.1 zz.2.2.2.2.2.1 zz.2.2.2.2.2.2.1 zz.2.2.2.2.2.2.2.1 zz.2.2.2.2.2.2.2.2) = if (wput ⟨s, lo, fu, dn⟩ (l.drop i)).2 = 0 then brought epoch (wput ⟨s, lo, fu, dn⟩ (l.drop i)) else wput ⟨s, lo, fu, dn⟩ (l.drop i)
 | k, i, s, lo, fu, dn, h, hi => by
  have E : bring_m_l0 d epoch l (k + 1) (i, s, lo, fu, dn, a, b, f, g) = bring_m_b0 d epoch l (bring_m_l0 d epoch l k) i s lo fu dn a b f g := rfl
  rw [E]
  unfold bring_m_b0
  by_cases h1 : i < l.length
  ·rw [if_pos h1, getd_drop dWr l i h1]
   have W : wput ⟨s, lo, fu, dn⟩ (l.getD i dWr :: l.drop (i + 1)) = (if (put_m ⟨s, lo, fu, dn⟩ (log_m ⟨s, lo, fu, dn⟩ + (l.getD i dWr).at_) (l.getD i dWr).data).2 = 0 then wput (put_m ⟨s, lo, fu, dn⟩ (log_m ⟨s, lo, fu, dn⟩ + (l.getD i dWr).at_) (l.getD i dWr).data).1 (l.drop (i + 1)) else put_m ⟨s, lo, fu, dn⟩ (log_m ⟨s, lo, fu, dn⟩ + (l.getD i dWr).at_) (l.getD i dWr).data) := rfl
   rw [W]
   by_cases h2 : (put_m ⟨s, lo, fu, dn⟩ (log_m ⟨s, lo, fu, dn⟩ + (l.getD i dWr).at_) (l.getD i dWr).data).2 = 0
   ·rw [if_neg (fun c => c h2), if_pos h2]
    match k, h with
    | 0, h => omega
    | k + 1, h => exact bring_l d epoch l a b f g k (i + 1) _ _ _ _ (by omega) (by omega)
   rw [if_pos h2, if_neg h2, if_neg h2]
   rfl
  rw [if_neg h1, List.drop_eq_nil_of_le (by omega)]
  have W : wput ⟨s, lo, fu, dn⟩ [] = (⟨s, lo, fu, dn⟩, 0) := rfl
  rw [W, if_pos rfl]
  show bring_m_k0 d epoch l i s lo fu dn a b f g = _
  unfold bring_m_k0 brought
  by_cases h3 : (flush_m ⟨s, lo, fu, dn⟩).2 = 0
  ·rw [if_neg (fun c => c h3), if_pos h3]
  rw [if_pos h3, if_neg h3]
theorem bring_is (d : Dk) (epoch : Int) (l : List Wr) : bring_m d epoch l = if (wput d l).2 = 0 then brought epoch (wput d l) else wput d l := by
 have := bring_l d epoch l [] [] 0 false (l.length - 0) 0 d.safe d.loose d.fuse d.down (by omega) (Nat.zero_le _)
 rw [List.drop_zero] at this
 exact this
theorem near_trans {a b c : Dk} {m n : Nat} (h : near a b m) (k : near b c n) : near a c (m + n) :=
 ⟨k.1.trans h.1, by have x := h.2.1; have y := k.2.1; omega, fun q => k.2.2 (h.2.2 q)⟩
theorem near_refl (d : Dk) (n : Nat) : near d d n := ⟨rfl, by omega, id⟩
theorem near_le {a b : Dk} {m n : Nat} (h : near a b m) (k : m ≤ n) : near a b n := ⟨h.1, by have x := h.2.1; omega, h.2.2⟩
theorem wput_near : ∀ (l : List Wr) (d : Dk), near d (wput d l).1 l.length
 | [], d => near_refl d _
 | x :: l, d => by
  have h1 := put_near d (log_m d + x.at_) x.data
  unfold wput
  split
  ·have h3 := wput_near l (put_m d (log_m d + x.at_) x.data).1
   exact near_le (near_trans h1 h3) (by rw [List.length_cons]; omega)
  exact near_le h1 (by rw [List.length_cons]; omega)
theorem bring_near (d : Dk) (epoch : Int) (l : List Wr) : near d (bring_m d epoch l).1 (l.length + 1) := by
 have h1 := wput_near l d
 rw [bring_is]
 split
 ·have h2 := flush_near (wput d l).1
  unfold brought
  split
  ·exact near_le (near_trans (near_trans h1 h2) (putfl_near (flush_m (wput d l).1).1 0 [beginning_m (epoch + 1)])) (by simp)
  exact near_le (near_trans h1 h2) (by omega)
 exact near_le h1 (by omega)
theorem format_l (d : Dk) (n : Nat) (hn : (List.replicate ((log_m d).toNat) ([] : List UInt8)).length = n) : ∀ k i (l : List (List UInt8)), n ≤ i + k → i ≤ n → l.length = n → format_m_l0 d (k + 1) (i, l) = .inl (n, l.take i ++ List.replicate (n - i) (fill_m []))
 | k, i, l, h, hi, hl => by
  have E : format_m_l0 d (k + 1) (i, l) = format_m_b0 d (format_m_l0 d k) i l := rfl
  rw [E]
  unfold format_m_b0
  rw [hn]
  by_cases h1 : i < n
  ·rw [if_pos h1]
   match k, h with
   | 0, h => omega
   | k + 1, h =>
    rw [format_l d n hn k (i + 1) _ (by omega) (by omega) (by rw [List.length_set]; exact hl), show n - i = (n - (i + 1)) + 1 by omega, List.replicate_succ, List.set_eq_take_append_cons_drop, if_pos (by omega), List.take_append, List.take_take, List.length_take, show min (i + 1) i = i by omega, show i + 1 - min i l.length = 1 by omega]
    simp
  rw [if_neg h1, List.take_of_length_le (by omega), show n - i = 0 by omega, show i = n by omega]
  simp
theorem format_is (d : Dk) : format_m d = if right_m d = true then putfl_m d 0 ((List.replicate (log_m d).toNat (fill_m [])).set 0 (beginning_m 1)) else (d, 1) := by
 unfold format_m
 cases hr : right_m d with
 | false => rfl
 | true =>
  rw [if_neg (by decide), if_pos rfl]
  have h := format_l d (log_m d).toNat List.length_replicate ((List.replicate ((log_m d).toNat) ([] : List UInt8)).length - 0) 0 (List.replicate ((log_m d).toNat) ([] : List UInt8)) (by rw [List.length_replicate]; omega) (Nat.zero_le _) List.length_replicate
  rw [h]
  show format_m_k0 d (log_m d).toNat (List.take 0 (List.replicate ((log_m d).toNat) ([] : List UInt8)) ++ List.replicate ((log_m d).toNat - 0) (fill_m [])) = _
  unfold format_m_k0
  rw [List.take_zero, List.nil_append, Nat.sub_zero]
theorem rnew_fuse (n : Int) : (rnew_m n).1.fuse ≤ 9223372036854775807 := by
 rw [rnew_is]
 split
 ·exact (by decide)
 split
 ·exact (by decide)
 show (-1 : Int) ≤ 9223372036854775807
 decide
theorem format_near (d : Dk) : near d (format_m d).1 2048 := by
 rw [format_is]
 split
 ·next h =>
  have h1 := few_of (d := d) (by rw [h]; decide)
  refine near_le (putfl_near _ _ _) ?_
  rw [List.length_set, List.length_replicate, log_eq]
  omega
 exact near_refl d _
theorem commit_near (d : Dk) (l : List Wr) : near d (commit_m d l).1 8192 := by
 unfold commit_m
 split
 ·exact near_refl d _
 next h0 =>
 have h2 := few_of h0
 split
 ·exact near_refl d _
 split
 ·exact near_refl d _
 split
 ·exact near_refl d _
 split
 ·exact near_refl d _
 split
 ·exact near_refl d _
 next hf =>
 have hf := Classical.not_not.1 hf
 have hb := body_len (current_m d).1 l
 have n1 := putfl_near d 2 (body_m (current_m d).1 l)
 split
 ·exact near_le n1 (by omega)
 split
 ·exact near_le (near_trans n1 (putfl_near _ _ _)) (by rw [List.length_singleton]; omega)
 exact near_le (near_trans (near_trans n1 (putfl_near _ _ _)) (bring_near _ _ _)) (by rw [List.length_singleton]; omega)
end Go.Proofs.YtnmaaijeamlplaaDoor.Bk
namespace Go.Proofs.YtnmaaijeamlplaaDoor.Bk
open Go.RowKit
open Go.Proofs.YtnmaaijeamlplaaDoor.Sym Go.Proofs.YtnmaaijeamlplaaDoor.Mem
open Go.Proofs.YtnmaaijeamlplaaDoor.Sx hiding Mm m_alloc m_store m_call m_callx
attribute [local irreducible] right_m rright_m ready_m rready_m copied_m burn_m put_m get_m flush_m spent_m rput_m rget_m rflush_m blank_m rnew_m same_m
attribute [local irreducible] number_m value_m fill_m beginning_m log_m fits_m lists_m epoch_m
attribute [local irreducible] home_m putall_m
attribute [local irreducible] putfl_m body_m rise_m sized_m current_m join_m sum_m
attribute [local irreducible] format_m rend_m bring_m
attribute [local irreducible] commit_m
attribute [local irreducible] sector_m
attribute [local irreducible] wpList Oper.wp
abbrev awf := (format_m ((rnew_m 40).1))
abbrev awl := ([(Wr.mk 2 (sector_m (UInt8.ofNat 7))), (Wr.mk 5 (sector_m (UInt8.ofNat 8)))] : List Wr)
abbrev awc := (commit_m (awf.1) awl)
def awake_m : Bool :=
 if awf.2 = 0 then
  if awc.2 = 0 then
   if (home_m (awc.1)).2 = 0 then
    if ((home_m (awc.1)).1).length = 30 then
     if (((home_m (awc.1)).1).getD 2 []) = (sector_m (UInt8.ofNat 7)) then
      if (((home_m (awc.1)).1).getD 5 []) = (sector_m (UInt8.ofNat 8)) then
       if (epoch_m (awc.1)).1 = 2 then
        if ((epoch_m (awc.1)).2) = true then
         if (log_m (awc.1)) = 10 then
          if ((0 : Int) ≤ 7 ∧ (7 : Int) ≤ ((((awc.1).safe).length : Nat) : Int) ∧ ((7 : Int) + 60) / 61 + 7 + 2 ≤ ((((((awc.1).safe).length / 4 : Nat)) : Int))) then
           (decide (¬ (((0 : Int) ≤ 8 ∧ (8 : Int) ≤ ((((awc.1).safe).length : Nat) : Int) ∧ ((8 : Int) + 60) / 61 + 8 + 2 ≤ ((((((awc.1).safe).length / 4 : Nat)) : Int))))))
          else
           false
         else
          false
        else
         false
       else
        false
      else
       false
     else
      false
    else
     false
   else
    false
  else
   false
 else
  false
theorem awake_any (w : World)  (hT : Laid w)  : Calls Tryd.prog 12 #[] w (fun e w' => e = .returned (.bool (awake_m)) ∧ Below w.heap.size w w') := by
 go_enter Tryd.func12, Tryd.ntmps12
 have hm00 := Mm.nil none (fun _ => True) w
 have hm0 := hm00
 refine wk (fun K1 hK1 => (wq ?_))
 refine la 0 (.bool false) ?_
 simp only [nz1, nz2]
 refine wn (tj (hK1 _ _ (wk (fun K2 hK2 => (wq ?_)))))
 refine lst rfl (m_callx hm0 10 rfl (run_rnew rfl rfl) (rnew_any 40  (seeS []) _  ) (fun vv9 w3 hR10 hb11 hm4 => ?_))
 obtain ⟨v5, v6, rfl, hg12⟩ := hR10
 obtain ⟨F8, hm13⟩ : ∃ F8, Mm none (fun _ => True) w w3 [.see (DkR ((rnew_m 40).1) v5 v6) F8] := Mm.tookS hm0 hb11 hg12
 clear hm4 hg12 hb11
 have hf14 : (rnew_m 40).1.safe.length ≤ 2048 := (rnew_near 40).1
 have hf15 : (rnew_m 40).1.loose.length ≤ 0 := (rnew_near 40).2
 have hf16 : (rnew_m 40).1.fuse ≤ 9223372036854775807 := (rnew_fuse 40)
 simp only [nz]
 refine lm 9 (.tuple #[.agg #[v5, v6, J (((rnew_m 40).1).fuse), .bool (((rnew_m 40).1).down)], J ((rnew_m 40).2)]) ?_
 refine lw 11 (.agg #[v5, v6, J (((rnew_m 40).1).fuse), .bool (((rnew_m 40).1).down)]) (run_ex rfl rfl rfl) ?_
 refine lw 12 (J ((rnew_m 40).2)) (run_ex rfl rfl rfl) ?_
 simp only [nz]
 refine lst rfl (m_alloc (c := #[.slice none 0 0, .slice none 0 0, J 0, .bool false]) (T := 25) hm13 1 rfl (by unfold execOp; go_simp; try rfl) (fun g19 w17 hm18 => ?_))
 simp only [nz]
 have ho22 := (rd_one ((hm18.see 0 rfl).1))
 have ho23 := (rd_one ((hm18.see 0 rfl).2))
 refine lst rfl (m_store 1 25 _ _ 0 (.agg #[v5, v6, J (((rnew_m 40).1).fuse), .bool (((rnew_m 40).1).down)]) (old := #[.slice none 0 0, .slice none 0 0, J 0, .bool false]) (new := #[v5, v6, J (((rnew_m 40).1).fuse), .bool (((rnew_m 40).1).down)]) hm18 rfl rfl rfl rfl rfl (by exact sz_25) (show 0 + 4 ≤ 4 from by decide) a4 rfl (fun w20 hm21 => ?_))
 refine la 2 (J ((rnew_m 40).2)) ?_
 simp only [nz]
 refine wn (tj (hK2 _ _ (wk (fun K24 hK24 => (wq ?_)))))
 refine lw 14 (.agg #[v5, v6, J (((rnew_m 40).1).fuse), .bool (((rnew_m 40).1).down)]) (r_whole (hm21.at 1 rfl) Tryd.underlying25 rfl (by exact sz_25) rfl rfl) ?_
 simp only [nz]
 refine lst rfl (m_callx hm21 15 rfl (run_format rfl rfl) (format_any ((rnew_m 40).1) v5 v6 (seeS _) _ (hm21.from 0 rfl) (by omega) (by omega) (by omega)) (fun vv31 w25 hR32 hb33 hm26 => ?_))
 obtain ⟨v27, v28, rfl, hg34⟩ := hR32
 obtain ⟨F30, hm35⟩ : ∃ F30, Mm none (fun _ => True) w w25 [.see (DkR ((rnew_m 40).1) v5 v6) F8, .blk g19 #[v5, v6, J (((rnew_m 40).1).fuse), .bool (((rnew_m 40).1).down)] 25, .see (DkR awf.1 v27 v28) F30] := Mm.tookS hm21 hb33 hg34
 clear hm26 hg34 hb33
 have hf36 : awf.1.safe.length = ((rnew_m 40).1).safe.length := (format_near ((rnew_m 40).1)).1
 have hf37 : awf.1.loose.length ≤ ((rnew_m 40).1).loose.length + 2048 := (format_near ((rnew_m 40).1)).2.1
 have hf38 : awf.1.fuse ≤ 9223372036854775807 := (format_near ((rnew_m 40).1)).2.2 (show ((rnew_m 40).1).fuse ≤ 9223372036854775807 from (by omega))
 simp only [nz]
 refine lm 13 (.tuple #[.agg #[v27, v28, J (awf.1.fuse), .bool (awf.1.down)], J (awf.2)]) ?_
 refine lw 16 (.agg #[v27, v28, J (awf.1.fuse), .bool (awf.1.down)]) (run_ex rfl rfl rfl) ?_
 refine lw 17 (J (awf.2)) (run_ex rfl rfl rfl) ?_
 simp only [nz]
 have ho41 := (rd_one ((hm35.see 2 rfl).1))
 have ho42 := (rd_one ((hm35.see 2 rfl).2))
 refine lst rfl (m_store 1 25 _ _ 0 (.agg #[v27, v28, J (awf.1.fuse), .bool (awf.1.down)]) (old := #[v5, v6, J (((rnew_m 40).1).fuse), .bool (((rnew_m 40).1).down)]) (new := #[v27, v28, J (awf.1.fuse), .bool (awf.1.down)]) hm35 rfl rfl rfl rfl rfl (by exact sz_25) (show 0 + 4 ≤ 4 from by decide) a4 rfl (fun w39 hm40 => ?_))
 refine la 3 (J (awf.2)) ?_
 simp only [nz]
 refine wn (tj (hK24 _ _ (wk (fun K43 hK43 => ?_))))
 refine wp_mono (Q := fun e a' w' => e = Exit.normal ∧ ∃ (g52 : Nat) (v57 : Value) (v58 : Value) (F60 : Nat → Prop), a' = ⟨#[.bool false, Pp g19 0, J ((rnew_m 40).2), J (awf.2), J (awc.2), undef, undef, undef, undef, .tuple #[.agg #[v5, v6, J (((rnew_m 40).1).fuse), .bool (((rnew_m 40).1).down)], J ((rnew_m 40).2)], .tuple #[.agg #[v5, v6, J (((rnew_m 40).1).fuse), .bool (((rnew_m 40).1).down)], J ((rnew_m 40).2)], .agg #[v5, v6, J (((rnew_m 40).1).fuse), .bool (((rnew_m 40).1).down)], J ((rnew_m 40).2), .tuple #[.agg #[v27, v28, J (awf.1.fuse), .bool (awf.1.down)], J (awf.2)], .agg #[v5, v6, J (((rnew_m 40).1).fuse), .bool (((rnew_m 40).1).down)], .tuple #[.agg #[v27, v28, J (awf.1.fuse), .bool (awf.1.down)], J (awf.2)], .agg #[v27, v28, J (awf.1.fuse), .bool (awf.1.down)], J (awf.2), .tuple #[.agg #[v57, v58, J ((awc.1).fuse), .bool ((awc.1).down)], J (awc.2)], .agg #[v27, v28, J (awf.1.fuse), .bool (awf.1.down)], .string (tx (sector_m (UInt8.ofNat 7))), .agg #[J 2, .string (tx (sector_m (UInt8.ofNat 7)))], .string (tx (sector_m (UInt8.ofNat 8))), .agg #[J 5, .string (tx (sector_m (UInt8.ofNat 8)))], Sl g52 0 2 2, .tuple #[.agg #[v57, v58, J ((awc.1).fuse), .bool ((awc.1).down)], J (awc.2)], .agg #[v57, v58, J ((awc.1).fuse), .bool ((awc.1).down)], J (awc.2), undef, undef, undef, undef, undef, undef, undef, undef, undef, undef, undef, undef, undef, undef, undef, undef, undef, undef, undef, undef, undef, undef, undef, undef, undef, undef, undef, undef, undef, undef, undef, undef, undef, undef, undef, undef, undef, undef, undef, undef, undef, undef, undef, undef, undef, undef, undef, undef, undef, undef, undef, undef, undef, undef, undef, undef, undef, undef, undef, undef], []⟩ ∧ Mm none (fun _ => True) w w' [.see (DkR ((rnew_m 40).1) v5 v6) F8, .blk g19 #[v57, v58, J ((awc.1).fuse), .bool ((awc.1).down)] 25, .see (DkR awf.1 v27 v28) F30, .see (Rs eWr 2 awl (Sl g52 0 2 2)) (fp (Sl g52 0 2 2) (List.flatMap eWr awl)), .see (DkR (awc.1) v57 v58) F60]) ?_ ?_
 ·have hm44 := hm40.drew
  refine wp_region_held_drew (S := fun w' => True) (by kernel_rfl) (trivial) (fun _ => ?_)
  generalize w39.drew = w45 at *
  refine two_ready 0 1 (by kernel_rfl) ?_ ?_
  ·refine opd rfl rfl (w_value 19 (.agg #[v27, v28, J (awf.1.fuse), .bool (awf.1.down)]) rfl (r_whole (hm44.at 1 rfl) Tryd.underlying25 rfl (by exact sz_25) rfl rfl) ⟨trivial, ?_⟩)
   simp only [nz]
   refine one_ready 1 (by kernel_rfl) ?_
   refine opd rfl rfl (m_call hm44 20 (.string (tx (sector_m (UInt8.ofNat 7)))) rfl (run_sector rfl rfl) (sector_any (UInt8.ofNat 7)  _  ) (fun w46 hm47 => ?_))
   refine ⟨trivial, ?_⟩
   simp only [nz]
   refine tn 2 21 (.agg #[J 2, .string (tx (sector_m (UInt8.ofNat 7)))]) rfl rfl (fun _ hw => by unfold execOp; go_simp; try (first | rfl | (repeat' (first | rfl | apply And.intro)))) (trivial) ?_
   simp only [nz]
   refine one_ready 3 (by kernel_rfl) ?_
   refine opd rfl rfl (m_call hm47 22 (.string (tx (sector_m (UInt8.ofNat 8)))) rfl (run_sector rfl rfl) (sector_any (UInt8.ofNat 8)  _  ) (fun w48 hm49 => ?_))
   refine ⟨trivial, ?_⟩
   simp only [nz]
   refine tn 4 23 (.agg #[J 5, .string (tx (sector_m (UInt8.ofNat 8)))]) rfl rfl (fun _ hw => by unfold execOp; go_simp; try (first | rfl | (repeat' (first | rfl | apply And.intro)))) (trivial) ?_
   simp only [nz]
   refine one_ready 5 (by kernel_rfl) ?_
   refine opd rfl rfl (m_make (c := #[J 2, .string (tx (sector_m (UInt8.ofNat 7))), J 5, .string (tx (sector_m (UInt8.ofNat 8)))]) (T := 51) (fun g => Sl g 0 2 2) hm49 24 rfl (by unfold execOp; go_simp; try rfl) (fun g52 w50 hm51 => ?_))
   refine ⟨trivial, ?_⟩
   simp only [nz]
   refine one_ready 6 (by kernel_rfl) ?_
   have hm55 : Mm none (fun _ => True) w w50 [.see (DkR ((rnew_m 40).1) v5 v6) F8, .blk g19 #[v27, v28, J (awf.1.fuse), .bool (awf.1.down)] 25, .see (DkR awf.1 v27 v28) F30, .see (Rs eWr 2 awl (Sl g52 0 2 2)) (fp (Sl g52 0 2 2) (List.flatMap eWr awl))] := hm51.freezeB 3 rfl rfl rfl eWr_len
   refine opd rfl rfl (m_callx hm55 25 rfl (run_commit rfl rfl rfl) (commit_any awf.1 awl v27 v28 (Sl g52 0 2 2) (seeS _) _ (hm55.from 2 rfl) (hm55.from 3 rfl) (Laid.below hT hm55.below) (by omega) (by omega) (by omega) (by simp; done)) (fun vv61 w53 hR62 hb63 hm54 => ?_))
   obtain ⟨v57, v58, rfl, hg64⟩ := hR62
   obtain ⟨F60, hm65⟩ : ∃ F60, Mm none (fun _ => True) w w53 [.see (DkR ((rnew_m 40).1) v5 v6) F8, .blk g19 #[v27, v28, J (awf.1.fuse), .bool (awf.1.down)] 25, .see (DkR awf.1 v27 v28) F30, .see (Rs eWr 2 awl (Sl g52 0 2 2)) (fp (Sl g52 0 2 2) (List.flatMap eWr awl)), .see (DkR (awc.1) v57 v58) F60] := Mm.tookS hm55 hb63 hg64
   clear hm54 hg64 hb63
   have hf66 : awc.1.safe.length = awf.1.safe.length := (commit_near awf.1 awl).1
   have hf67 : awc.1.loose.length ≤ awf.1.loose.length + 8192 := (commit_near awf.1 awl).2.1
   have hf68 : awc.1.fuse ≤ 9223372036854775807 := (commit_near awf.1 awl).2.2 (show awf.1.fuse ≤ 9223372036854775807 from (by omega))
   refine ⟨trivial, ?_⟩
   simp only [nz]
   refine tn 7 18 (.tuple #[.agg #[v57, v58, J ((awc.1).fuse), .bool ((awc.1).down)], J (awc.2)]) rfl rfl (fun _ hw => run_mv rfl rfl) (trivial) ?_
   simp only [nz]
   refine tn 8 26 (.agg #[v57, v58, J ((awc.1).fuse), .bool ((awc.1).down)]) rfl rfl (fun _ hw => run_ex rfl rfl rfl) (trivial) ?_
   simp only [nz]
   refine tn 9 27 (J (awc.2)) rfl rfl (fun _ hw => run_ex rfl rfl rfl) (trivial) ?_
   simp only [nz]
   refine one_ready 10 (by kernel_rfl) ?_
   have ho71 := (rd_one ((hm65.see 4 rfl).1))
   have ho72 := (rd_one ((hm65.see 4 rfl).2))
   refine opd rfl rfl (m_store 1 25 _ _ 0 (.agg #[v57, v58, J ((awc.1).fuse), .bool ((awc.1).down)]) (old := #[v27, v28, J (awf.1.fuse), .bool (awf.1.down)]) (new := #[v57, v58, J ((awc.1).fuse), .bool ((awc.1).down)]) hm65 rfl rfl rfl rfl rfl (by exact sz_25) (show 0 + 4 ≤ 4 from by decide) a4 rfl (fun w69 hm70 => ?_))
   refine ⟨trivial, ?_⟩
   refine one_ready 11 (by kernel_rfl) ?_
   refine opd rfl rfl (w_value 4 (J (awc.2)) rfl (run_as rfl rfl) ⟨trivial, ?_⟩)
   simp only [nz]
   refine wpAnyH_done (by kernel_rfl) ?_ _
   exact ⟨rfl, g52, v57, v58, F60, rfl, hm70⟩
  refine opd rfl rfl (m_call hm44 20 (.string (tx (sector_m (UInt8.ofNat 7)))) rfl (run_sector rfl rfl) (sector_any (UInt8.ofNat 7)  _  ) (fun w73 hm74 => ?_))
  refine ⟨trivial, ?_⟩
  simp only [nz]
  refine tn 2 21 (.agg #[J 2, .string (tx (sector_m (UInt8.ofNat 7)))]) rfl rfl (fun _ hw => by unfold execOp; go_simp; try (first | rfl | (repeat' (first | rfl | apply And.intro)))) (trivial) ?_
  simp only [nz]
  refine two_ready 0 3 (by kernel_rfl) ?_ ?_
  ·refine opd rfl rfl (w_value 19 (.agg #[v27, v28, J (awf.1.fuse), .bool (awf.1.down)]) rfl (r_whole (hm74.at 1 rfl) Tryd.underlying25 rfl (by exact sz_25) rfl rfl) ⟨trivial, ?_⟩)
   simp only [nz]
   refine one_ready 3 (by kernel_rfl) ?_
   refine opd rfl rfl (m_call hm74 22 (.string (tx (sector_m (UInt8.ofNat 8)))) rfl (run_sector rfl rfl) (sector_any (UInt8.ofNat 8)  _  ) (fun w75 hm76 => ?_))
   refine ⟨trivial, ?_⟩
   simp only [nz]
   refine tn 4 23 (.agg #[J 5, .string (tx (sector_m (UInt8.ofNat 8)))]) rfl rfl (fun _ hw => by unfold execOp; go_simp; try (first | rfl | (repeat' (first | rfl | apply And.intro)))) (trivial) ?_
   simp only [nz]
   refine one_ready 5 (by kernel_rfl) ?_
   refine opd rfl rfl (m_make (c := #[J 2, .string (tx (sector_m (UInt8.ofNat 7))), J 5, .string (tx (sector_m (UInt8.ofNat 8)))]) (T := 51) (fun g => Sl g 0 2 2) hm76 24 rfl (by unfold execOp; go_simp; try rfl) (fun g79 w77 hm78 => ?_))
   refine ⟨trivial, ?_⟩
   simp only [nz]
   refine one_ready 6 (by kernel_rfl) ?_
   have hm82 : Mm none (fun _ => True) w w77 [.see (DkR ((rnew_m 40).1) v5 v6) F8, .blk g19 #[v27, v28, J (awf.1.fuse), .bool (awf.1.down)] 25, .see (DkR awf.1 v27 v28) F30, .see (Rs eWr 2 awl (Sl g79 0 2 2)) (fp (Sl g79 0 2 2) (List.flatMap eWr awl))] := hm78.freezeB 3 rfl rfl rfl eWr_len
   refine opd rfl rfl (m_callx hm82 25 rfl (run_commit rfl rfl rfl) (commit_any awf.1 awl v27 v28 (Sl g79 0 2 2) (seeS _) _ (hm82.from 2 rfl) (hm82.from 3 rfl) (Laid.below hT hm82.below) (by omega) (by omega) (by omega) (by simp; done)) (fun vv88 w80 hR89 hb90 hm81 => ?_))
   obtain ⟨v84, v85, rfl, hg91⟩ := hR89
   obtain ⟨F87, hm92⟩ : ∃ F87, Mm none (fun _ => True) w w80 [.see (DkR ((rnew_m 40).1) v5 v6) F8, .blk g19 #[v27, v28, J (awf.1.fuse), .bool (awf.1.down)] 25, .see (DkR awf.1 v27 v28) F30, .see (Rs eWr 2 awl (Sl g79 0 2 2)) (fp (Sl g79 0 2 2) (List.flatMap eWr awl)), .see (DkR (awc.1) v84 v85) F87] := Mm.tookS hm82 hb90 hg91
   clear hm81 hg91 hb90
   have hf93 : awc.1.safe.length = awf.1.safe.length := (commit_near awf.1 awl).1
   have hf94 : awc.1.loose.length ≤ awf.1.loose.length + 8192 := (commit_near awf.1 awl).2.1
   have hf95 : awc.1.fuse ≤ 9223372036854775807 := (commit_near awf.1 awl).2.2 (show awf.1.fuse ≤ 9223372036854775807 from (by omega))
   refine ⟨trivial, ?_⟩
   simp only [nz]
   refine tn 7 18 (.tuple #[.agg #[v84, v85, J ((awc.1).fuse), .bool ((awc.1).down)], J (awc.2)]) rfl rfl (fun _ hw => run_mv rfl rfl) (trivial) ?_
   simp only [nz]
   refine tn 8 26 (.agg #[v84, v85, J ((awc.1).fuse), .bool ((awc.1).down)]) rfl rfl (fun _ hw => run_ex rfl rfl rfl) (trivial) ?_
   simp only [nz]
   refine tn 9 27 (J (awc.2)) rfl rfl (fun _ hw => run_ex rfl rfl rfl) (trivial) ?_
   simp only [nz]
   refine one_ready 10 (by kernel_rfl) ?_
   have ho98 := (rd_one ((hm92.see 4 rfl).1))
   have ho99 := (rd_one ((hm92.see 4 rfl).2))
   refine opd rfl rfl (m_store 1 25 _ _ 0 (.agg #[v84, v85, J ((awc.1).fuse), .bool ((awc.1).down)]) (old := #[v27, v28, J (awf.1.fuse), .bool (awf.1.down)]) (new := #[v84, v85, J ((awc.1).fuse), .bool ((awc.1).down)]) hm92 rfl rfl rfl rfl rfl (by exact sz_25) (show 0 + 4 ≤ 4 from by decide) a4 rfl (fun w96 hm97 => ?_))
   refine ⟨trivial, ?_⟩
   refine one_ready 11 (by kernel_rfl) ?_
   refine opd rfl rfl (w_value 4 (J (awc.2)) rfl (run_as rfl rfl) ⟨trivial, ?_⟩)
   simp only [nz]
   refine wpAnyH_done (by kernel_rfl) ?_ _
   exact ⟨rfl, g79, v84, v85, F87, rfl, hm97⟩
  refine opd rfl rfl (m_call hm74 22 (.string (tx (sector_m (UInt8.ofNat 8)))) rfl (run_sector rfl rfl) (sector_any (UInt8.ofNat 8)  _  ) (fun w100 hm101 => ?_))
  refine ⟨trivial, ?_⟩
  simp only [nz]
  refine tn 4 23 (.agg #[J 5, .string (tx (sector_m (UInt8.ofNat 8)))]) rfl rfl (fun _ hw => by unfold execOp; go_simp; try (first | rfl | (repeat' (first | rfl | apply And.intro)))) (trivial) ?_
  simp only [nz]
  refine two_ready 0 5 (by kernel_rfl) ?_ ?_
  ·refine opd rfl rfl (w_value 19 (.agg #[v27, v28, J (awf.1.fuse), .bool (awf.1.down)]) rfl (r_whole (hm101.at 1 rfl) Tryd.underlying25 rfl (by exact sz_25) rfl rfl) ⟨trivial, ?_⟩)
   simp only [nz]
   refine one_ready 5 (by kernel_rfl) ?_
   refine opd rfl rfl (m_make (c := #[J 2, .string (tx (sector_m (UInt8.ofNat 7))), J 5, .string (tx (sector_m (UInt8.ofNat 8)))]) (T := 51) (fun g => Sl g 0 2 2) hm101 24 rfl (by unfold execOp; go_simp; try rfl) (fun g104 w102 hm103 => ?_))
   refine ⟨trivial, ?_⟩
   simp only [nz]
   refine one_ready 6 (by kernel_rfl) ?_
   have hm107 : Mm none (fun _ => True) w w102 [.see (DkR ((rnew_m 40).1) v5 v6) F8, .blk g19 #[v27, v28, J (awf.1.fuse), .bool (awf.1.down)] 25, .see (DkR awf.1 v27 v28) F30, .see (Rs eWr 2 awl (Sl g104 0 2 2)) (fp (Sl g104 0 2 2) (List.flatMap eWr awl))] := hm103.freezeB 3 rfl rfl rfl eWr_len
   refine opd rfl rfl (m_callx hm107 25 rfl (run_commit rfl rfl rfl) (commit_any awf.1 awl v27 v28 (Sl g104 0 2 2) (seeS _) _ (hm107.from 2 rfl) (hm107.from 3 rfl) (Laid.below hT hm107.below) (by omega) (by omega) (by omega) (by simp; done)) (fun vv113 w105 hR114 hb115 hm106 => ?_))
   obtain ⟨v109, v110, rfl, hg116⟩ := hR114
   obtain ⟨F112, hm117⟩ : ∃ F112, Mm none (fun _ => True) w w105 [.see (DkR ((rnew_m 40).1) v5 v6) F8, .blk g19 #[v27, v28, J (awf.1.fuse), .bool (awf.1.down)] 25, .see (DkR awf.1 v27 v28) F30, .see (Rs eWr 2 awl (Sl g104 0 2 2)) (fp (Sl g104 0 2 2) (List.flatMap eWr awl)), .see (DkR (awc.1) v109 v110) F112] := Mm.tookS hm107 hb115 hg116
   clear hm106 hg116 hb115
   have hf118 : awc.1.safe.length = awf.1.safe.length := (commit_near awf.1 awl).1
   have hf119 : awc.1.loose.length ≤ awf.1.loose.length + 8192 := (commit_near awf.1 awl).2.1
   have hf120 : awc.1.fuse ≤ 9223372036854775807 := (commit_near awf.1 awl).2.2 (show awf.1.fuse ≤ 9223372036854775807 from (by omega))
   refine ⟨trivial, ?_⟩
   simp only [nz]
   refine tn 7 18 (.tuple #[.agg #[v109, v110, J ((awc.1).fuse), .bool ((awc.1).down)], J (awc.2)]) rfl rfl (fun _ hw => run_mv rfl rfl) (trivial) ?_
   simp only [nz]
   refine tn 8 26 (.agg #[v109, v110, J ((awc.1).fuse), .bool ((awc.1).down)]) rfl rfl (fun _ hw => run_ex rfl rfl rfl) (trivial) ?_
   simp only [nz]
   refine tn 9 27 (J (awc.2)) rfl rfl (fun _ hw => run_ex rfl rfl rfl) (trivial) ?_
   simp only [nz]
   refine one_ready 10 (by kernel_rfl) ?_
   have ho123 := (rd_one ((hm117.see 4 rfl).1))
   have ho124 := (rd_one ((hm117.see 4 rfl).2))
   refine opd rfl rfl (m_store 1 25 _ _ 0 (.agg #[v109, v110, J ((awc.1).fuse), .bool ((awc.1).down)]) (old := #[v27, v28, J (awf.1.fuse), .bool (awf.1.down)]) (new := #[v109, v110, J ((awc.1).fuse), .bool ((awc.1).down)]) hm117 rfl rfl rfl rfl rfl (by exact sz_25) (show 0 + 4 ≤ 4 from by decide) a4 rfl (fun w121 hm122 => ?_))
   refine ⟨trivial, ?_⟩
   refine one_ready 11 (by kernel_rfl) ?_
   refine opd rfl rfl (w_value 4 (J (awc.2)) rfl (run_as rfl rfl) ⟨trivial, ?_⟩)
   simp only [nz]
   refine wpAnyH_done (by kernel_rfl) ?_ _
   exact ⟨rfl, g104, v109, v110, F112, rfl, hm122⟩
  refine opd rfl rfl (m_make (c := #[J 2, .string (tx (sector_m (UInt8.ofNat 7))), J 5, .string (tx (sector_m (UInt8.ofNat 8)))]) (T := 51) (fun g => Sl g 0 2 2) hm101 24 rfl (by unfold execOp; go_simp; try rfl) (fun g127 w125 hm126 => ?_))
  refine ⟨trivial, ?_⟩
  simp only [nz]
  refine one_ready 0 (by kernel_rfl) ?_
  refine opd rfl rfl (w_value 19 (.agg #[v27, v28, J (awf.1.fuse), .bool (awf.1.down)]) rfl (r_whole (hm126.at 1 rfl) Tryd.underlying25 rfl (by exact sz_25) rfl rfl) ⟨trivial, ?_⟩)
  simp only [nz]
  refine one_ready 6 (by kernel_rfl) ?_
  have hm130 : Mm none (fun _ => True) w w125 [.see (DkR ((rnew_m 40).1) v5 v6) F8, .blk g19 #[v27, v28, J (awf.1.fuse), .bool (awf.1.down)] 25, .see (DkR awf.1 v27 v28) F30, .see (Rs eWr 2 awl (Sl g127 0 2 2)) (fp (Sl g127 0 2 2) (List.flatMap eWr awl))] := hm126.freezeB 3 rfl rfl rfl eWr_len
  refine opd rfl rfl (m_callx hm130 25 rfl (run_commit rfl rfl rfl) (commit_any awf.1 awl v27 v28 (Sl g127 0 2 2) (seeS _) _ (hm130.from 2 rfl) (hm130.from 3 rfl) (Laid.below hT hm130.below) (by omega) (by omega) (by omega) (by simp; done)) (fun vv136 w128 hR137 hb138 hm129 => ?_))
  obtain ⟨v132, v133, rfl, hg139⟩ := hR137
  obtain ⟨F135, hm140⟩ : ∃ F135, Mm none (fun _ => True) w w128 [.see (DkR ((rnew_m 40).1) v5 v6) F8, .blk g19 #[v27, v28, J (awf.1.fuse), .bool (awf.1.down)] 25, .see (DkR awf.1 v27 v28) F30, .see (Rs eWr 2 awl (Sl g127 0 2 2)) (fp (Sl g127 0 2 2) (List.flatMap eWr awl)), .see (DkR (awc.1) v132 v133) F135] := Mm.tookS hm130 hb138 hg139
  clear hm129 hg139 hb138
  have hf141 : awc.1.safe.length = awf.1.safe.length := (commit_near awf.1 awl).1
  have hf142 : awc.1.loose.length ≤ awf.1.loose.length + 8192 := (commit_near awf.1 awl).2.1
  have hf143 : awc.1.fuse ≤ 9223372036854775807 := (commit_near awf.1 awl).2.2 (show awf.1.fuse ≤ 9223372036854775807 from (by omega))
  refine ⟨trivial, ?_⟩
  simp only [nz]
  refine tn 7 18 (.tuple #[.agg #[v132, v133, J ((awc.1).fuse), .bool ((awc.1).down)], J (awc.2)]) rfl rfl (fun _ hw => run_mv rfl rfl) (trivial) ?_
  simp only [nz]
  refine tn 8 26 (.agg #[v132, v133, J ((awc.1).fuse), .bool ((awc.1).down)]) rfl rfl (fun _ hw => run_ex rfl rfl rfl) (trivial) ?_
  simp only [nz]
  refine tn 9 27 (J (awc.2)) rfl rfl (fun _ hw => run_ex rfl rfl rfl) (trivial) ?_
  simp only [nz]
  refine one_ready 10 (by kernel_rfl) ?_
  have ho146 := (rd_one ((hm140.see 4 rfl).1))
  have ho147 := (rd_one ((hm140.see 4 rfl).2))
  refine opd rfl rfl (m_store 1 25 _ _ 0 (.agg #[v132, v133, J ((awc.1).fuse), .bool ((awc.1).down)]) (old := #[v27, v28, J (awf.1.fuse), .bool (awf.1.down)]) (new := #[v132, v133, J ((awc.1).fuse), .bool ((awc.1).down)]) hm140 rfl rfl rfl rfl rfl (by exact sz_25) (show 0 + 4 ≤ 4 from by decide) a4 rfl (fun w144 hm145 => ?_))
  refine ⟨trivial, ?_⟩
  refine one_ready 11 (by kernel_rfl) ?_
  refine opd rfl rfl (w_value 4 (J (awc.2)) rfl (run_as rfl rfl) ⟨trivial, ?_⟩)
  simp only [nz]
  refine wpAnyH_done (by kernel_rfl) ?_ _
  exact ⟨rfl, g127, v132, v133, F135, rfl, hm145⟩
 clear hm40
 rintro _ _ w148 ⟨rfl, g52, v57, v58, F60, rfl, hm149⟩
 have hf150 : awc.1.safe.length = awf.1.safe.length := (commit_near awf.1 awl).1
 have hf151 : awc.1.loose.length ≤ awf.1.loose.length + 8192 := (commit_near awf.1 awl).2.1
 have hf152 : awc.1.fuse ≤ 9223372036854775807 := (commit_near awf.1 awl).2.2 (show awf.1.fuse ≤ 9223372036854775807 from (by omega))
 refine tj (hK43 _ _ (wk (fun K153 hK153 => (wq ?_))))
 refine lw 29 (.agg #[v57, v58, J ((awc.1).fuse), .bool ((awc.1).down)]) (r_whole (hm149.at 1 rfl) Tryd.underlying25 rfl (by exact sz_25) rfl rfl) ?_
 simp only [nz]
 refine lst rfl (m_callx hm149 30 rfl (run_home rfl rfl) (home_any (awc.1) v57 v58 (seeS _) _ (hm149.from 4 rfl) (by omega) (by omega)) (fun vv159 w154 hR160 hb161 hm155 => ?_))
 obtain ⟨v156, rfl, hg162⟩ := hR160
 obtain ⟨F158, hm163⟩ : ∃ F158, Mm none (fun _ => True) w w154 [.see (DkR ((rnew_m 40).1) v5 v6) F8, .blk g19 #[v57, v58, J ((awc.1).fuse), .bool ((awc.1).down)] 25, .see (DkR awf.1 v27 v28) F30, .see (Rs eWr 2 awl (Sl g52 0 2 2)) (fp (Sl g52 0 2 2) (List.flatMap eWr awl)), .see (DkR (awc.1) v57 v58) F60, .see (Rs eS 1 ((home_m (awc.1)).1) v156) F158] := Mm.tookS hm149 hb161 hg162
 clear hm155 hg162 hb161
 simp only [nz]
 refine lm 28 (.tuple #[v156, J ((home_m (awc.1)).2)]) ?_
 refine lw 31 (v156) (run_ex rfl rfl rfl) ?_
 refine lw 32 (J ((home_m (awc.1)).2)) (run_ex rfl rfl rfl) ?_
 simp only [nz]
 refine la 5 (v156) ?_
 refine la 6 (J ((home_m (awc.1)).2)) ?_
 simp only [nz]
 refine wn (tj (hK153 _ _ (wk (fun K164 hK164 => (wq ?_)))))
 refine lw 34 (.agg #[v57, v58, J ((awc.1).fuse), .bool ((awc.1).down)]) (r_whole (hm163.at 1 rfl) Tryd.underlying25 rfl (by exact sz_25) rfl rfl) ?_
 simp only [nz]
 refine lst rfl (m_call hm163 35 (.tuple #[J ((epoch_m (awc.1)).1), .bool ((epoch_m (awc.1)).2)]) rfl (run_epoch rfl rfl) (epoch_any (awc.1) v57 v58 _ (hm163.see 4 rfl) (by omega) (by omega)) (fun w165 hm166 => ?_))
 simp only [nz]
 refine lm 33 (.tuple #[J ((epoch_m (awc.1)).1), .bool ((epoch_m (awc.1)).2)]) ?_
 refine lw 36 (J ((epoch_m (awc.1)).1)) (run_ex rfl rfl rfl) ?_
 refine lw 37 (.bool ((epoch_m (awc.1)).2)) (run_ex rfl rfl rfl) ?_
 simp only [nz]
 refine la 7 (J ((epoch_m (awc.1)).1)) ?_
 refine la 8 (.bool ((epoch_m (awc.1)).2)) ?_
 simp only [nz]
 refine wn (tj (hK164 _ _ (wk (fun K167 hK167 => ?_))))
 have hm168 := hm166.drew
 refine wp_region_held_drew (S := fun w' => Mem.Blk w' g19 (#[v57, v58, J ((awc.1).fuse), .bool ((awc.1).down)]) 25 ∧ Rs eS 1 ((home_m (awc.1)).1) v156 w') (by kernel_rfl) (⟨hm168.at 1 rfl, ((hm168.see 5 rfl))⟩) (fun _ => ?_)
 generalize w165.drew = w169 at *
 refine tk 0 38 (J (awf.2)) rfl rfl (fun _ hw => run_mv rfl rfl) (⟨hm168.at 1 rfl, ((hm168.see 5 rfl))⟩) ?_
 simp only [nz]
 refine tkb 1 39 (awf.2 = 0) rfl rfl rfl (fun _ hw => z_eql (awf.2) 0 rfl rfl rfl) (⟨hm168.at 1 rfl, ((hm168.see 5 rfl))⟩) (fun hs170 => ?_) (fun hs170 => ?_)
 rotate_left
 ·simp only [nz]
  refine tk 2 40 (.bool false) rfl rfl (fun _ hw => run_mv rfl rfl) (⟨hm168.at 1 rfl, ((hm168.see 5 rfl))⟩) ?_
  simp only [nz]
  refine skx 3 41 rfl rfl rfl (⟨hm168.at 1 rfl, ((hm168.see 5 rfl))⟩) ?_
  simp only [nz]
  refine skx 4 42 rfl rfl rfl (⟨hm168.at 1 rfl, ((hm168.see 5 rfl))⟩) ?_
  simp only [nz]
  refine tk 5 43 (.bool false) rfl rfl (fun _ hw => run_pickf rfl rfl rfl) (⟨hm168.at 1 rfl, ((hm168.see 5 rfl))⟩) ?_
  simp only [nz]
  refine tk 6 44 (.bool false) rfl rfl (fun _ hw => run_mv rfl rfl) (⟨hm168.at 1 rfl, ((hm168.see 5 rfl))⟩) ?_
  simp only [nz]
  refine skx 7 45 rfl rfl rfl (⟨hm168.at 1 rfl, ((hm168.see 5 rfl))⟩) ?_
  simp only [nz]
  refine skx 8 46 rfl rfl rfl (⟨hm168.at 1 rfl, ((hm168.see 5 rfl))⟩) ?_
  simp only [nz]
  refine tk 9 47 (.bool false) rfl rfl (fun _ hw => run_pickf rfl rfl rfl) (⟨hm168.at 1 rfl, ((hm168.see 5 rfl))⟩) ?_
  simp only [nz]
  refine tk 10 48 (.bool false) rfl rfl (fun _ hw => run_mv rfl rfl) (⟨hm168.at 1 rfl, ((hm168.see 5 rfl))⟩) ?_
  simp only [nz]
  refine skx 11 49 rfl rfl rfl (⟨hm168.at 1 rfl, ((hm168.see 5 rfl))⟩) ?_
  simp only [nz]
  refine skx 12 50 rfl rfl rfl (⟨hm168.at 1 rfl, ((hm168.see 5 rfl))⟩) ?_
  simp only [nz]
  refine skx 13 51 rfl rfl rfl (⟨hm168.at 1 rfl, ((hm168.see 5 rfl))⟩) ?_
  simp only [nz]
  refine tk 14 52 (.bool false) rfl rfl (fun _ hw => run_pickf rfl rfl rfl) (⟨hm168.at 1 rfl, ((hm168.see 5 rfl))⟩) ?_
  simp only [nz]
  refine tk 15 53 (.bool false) rfl rfl (fun _ hw => run_mv rfl rfl) (⟨hm168.at 1 rfl, ((hm168.see 5 rfl))⟩) ?_
  simp only [nz]
  refine skx 16 54 rfl rfl rfl (⟨hm168.at 1 rfl, ((hm168.see 5 rfl))⟩) ?_
  simp only [nz]
  refine skx 17 55 rfl rfl rfl (⟨hm168.at 1 rfl, ((hm168.see 5 rfl))⟩) ?_
  simp only [nz]
  refine skx 18 56 rfl rfl rfl (⟨hm168.at 1 rfl, ((hm168.see 5 rfl))⟩) ?_
  simp only [nz]
  refine skx 19 57 rfl rfl rfl (⟨hm168.at 1 rfl, ((hm168.see 5 rfl))⟩) ?_
  simp only [nz]
  refine skx 20 58 rfl rfl rfl (⟨hm168.at 1 rfl, ((hm168.see 5 rfl))⟩) ?_
  simp only [nz]
  refine tk 21 59 (.bool false) rfl rfl (fun _ hw => run_pickf rfl rfl rfl) (⟨hm168.at 1 rfl, ((hm168.see 5 rfl))⟩) ?_
  simp only [nz]
  refine tk 22 60 (.bool false) rfl rfl (fun _ hw => run_mv rfl rfl) (⟨hm168.at 1 rfl, ((hm168.see 5 rfl))⟩) ?_
  simp only [nz]
  refine skx 23 61 rfl rfl rfl (⟨hm168.at 1 rfl, ((hm168.see 5 rfl))⟩) ?_
  simp only [nz]
  refine skx 24 62 rfl rfl rfl (⟨hm168.at 1 rfl, ((hm168.see 5 rfl))⟩) ?_
  simp only [nz]
  refine skx 25 63 rfl rfl rfl (⟨hm168.at 1 rfl, ((hm168.see 5 rfl))⟩) ?_
  simp only [nz]
  refine skx 26 64 rfl rfl rfl (⟨hm168.at 1 rfl, ((hm168.see 5 rfl))⟩) ?_
  simp only [nz]
  refine skx 27 65 rfl rfl rfl (⟨hm168.at 1 rfl, ((hm168.see 5 rfl))⟩) ?_
  simp only [nz]
  refine tk 28 66 (.bool false) rfl rfl (fun _ hw => run_pickf rfl rfl rfl) (⟨hm168.at 1 rfl, ((hm168.see 5 rfl))⟩) ?_
  simp only [nz]
  refine tk 29 67 (.bool false) rfl rfl (fun _ hw => run_mv rfl rfl) (⟨hm168.at 1 rfl, ((hm168.see 5 rfl))⟩) ?_
  simp only [nz]
  refine skx 30 68 rfl rfl rfl (⟨hm168.at 1 rfl, ((hm168.see 5 rfl))⟩) ?_
  simp only [nz]
  refine skx 31 69 rfl rfl rfl (⟨hm168.at 1 rfl, ((hm168.see 5 rfl))⟩) ?_
  simp only [nz]
  refine tk 32 70 (.bool false) rfl rfl (fun _ hw => run_pickf rfl rfl rfl) (⟨hm168.at 1 rfl, ((hm168.see 5 rfl))⟩) ?_
  simp only [nz]
  refine tk 33 71 (.bool false) rfl rfl (fun _ hw => run_mv rfl rfl) (⟨hm168.at 1 rfl, ((hm168.see 5 rfl))⟩) ?_
  simp only [nz]
  refine skx 34 72 rfl rfl rfl (⟨hm168.at 1 rfl, ((hm168.see 5 rfl))⟩) ?_
  simp only [nz]
  refine tk 35 73 (.bool false) rfl rfl (fun _ hw => run_pickf rfl rfl rfl) (⟨hm168.at 1 rfl, ((hm168.see 5 rfl))⟩) ?_
  simp only [nz]
  refine tk 36 74 (.bool false) rfl rfl (fun _ hw => run_mv rfl rfl) (⟨hm168.at 1 rfl, ((hm168.see 5 rfl))⟩) ?_
  simp only [nz]
  refine skx 37 75 rfl rfl rfl (⟨hm168.at 1 rfl, ((hm168.see 5 rfl))⟩) ?_
  simp only [nz]
  refine skx 38 76 rfl rfl rfl (⟨hm168.at 1 rfl, ((hm168.see 5 rfl))⟩) ?_
  simp only [nz]
  refine skx 39 77 rfl rfl rfl (⟨hm168.at 1 rfl, ((hm168.see 5 rfl))⟩) ?_
  simp only [nz]
  refine tk 40 78 (.bool false) rfl rfl (fun _ hw => run_pickf rfl rfl rfl) (⟨hm168.at 1 rfl, ((hm168.see 5 rfl))⟩) ?_
  simp only [nz]
  refine tk 41 79 (.bool false) rfl rfl (fun _ hw => run_mv rfl rfl) (⟨hm168.at 1 rfl, ((hm168.see 5 rfl))⟩) ?_
  simp only [nz]
  refine skx 42 80 rfl rfl rfl (⟨hm168.at 1 rfl, ((hm168.see 5 rfl))⟩) ?_
  simp only [nz]
  refine skx 43 81 rfl rfl rfl (⟨hm168.at 1 rfl, ((hm168.see 5 rfl))⟩) ?_
  simp only [nz]
  refine tk 44 82 (.bool false) rfl rfl (fun _ hw => run_pickf rfl rfl rfl) (⟨hm168.at 1 rfl, ((hm168.see 5 rfl))⟩) ?_
  simp only [nz]
  refine tk 45 83 (.bool false) rfl rfl (fun _ hw => run_mv rfl rfl) (⟨hm168.at 1 rfl, ((hm168.see 5 rfl))⟩) ?_
  simp only [nz]
  refine skx 46 84 rfl rfl rfl (⟨hm168.at 1 rfl, ((hm168.see 5 rfl))⟩) ?_
  simp only [nz]
  refine skx 47 85 rfl rfl rfl (⟨hm168.at 1 rfl, ((hm168.see 5 rfl))⟩) ?_
  simp only [nz]
  refine skx 48 86 rfl rfl rfl (⟨hm168.at 1 rfl, ((hm168.see 5 rfl))⟩) ?_
  simp only [nz]
  refine tk 49 87 (.bool false) rfl rfl (fun _ hw => run_pickf rfl rfl rfl) (⟨hm168.at 1 rfl, ((hm168.see 5 rfl))⟩) ?_
  simp only [nz]
  refine one_ready 50 (by kernel_rfl) ?_
  refine opd rfl (wanted_none rfl) (w_value 0 (.bool false) rfl (run_as rfl rfl) ⟨⟨hm168.at 1 rfl, ((hm168.see 5 rfl))⟩, ?_⟩)
  simp only [nz1, nz2]
  refine wpAnyH_done (by kernel_rfl) ?_ _
  refine tj (hK167 _ _ (wp_ret ?_))
  have he201 : awake_m = false := by unfold awake_m; rw [if_neg hs170] <;> rfl
  exact ⟨rfl, .bool false, res_t rfl rfl, ⟨by (rw [he201]; try rfl), hm168.below⟩⟩
 simp only [nz]
 refine tk 2 40 (.bool true) rfl rfl (fun _ hw => run_mv rfl rfl) (⟨hm168.at 1 rfl, ((hm168.see 5 rfl))⟩) ?_
 simp only [nz]
 refine Sym.take_at 3 41 (J (awc.2)) rfl rfl (by kernel_rfl) (by kernel_rfl) (by kernel_rfl) (fun _ _ _ h => h) rfl (fun _ hw => run_mv rfl rfl) (⟨hm168.at 1 rfl, ((hm168.see 5 rfl))⟩) ?_
 simp only [nz]
 refine tkb 4 42 (awc.2 = 0) rfl rfl rfl (fun _ hw => z_eql (awc.2) 0 rfl rfl rfl) (⟨hm168.at 1 rfl, ((hm168.see 5 rfl))⟩) (fun hs171 => ?_) (fun hs171 => ?_)
 rotate_left
 ·simp only [nz]
  refine tk 5 43 (.bool false) rfl rfl (fun _ hw => run_pick rfl rfl rfl) (⟨hm168.at 1 rfl, ((hm168.see 5 rfl))⟩) ?_
  simp only [nz]
  refine tk 6 44 (.bool false) rfl rfl (fun _ hw => run_mv rfl rfl) (⟨hm168.at 1 rfl, ((hm168.see 5 rfl))⟩) ?_
  simp only [nz]
  refine skx 7 45 rfl rfl rfl (⟨hm168.at 1 rfl, ((hm168.see 5 rfl))⟩) ?_
  simp only [nz]
  refine skx 8 46 rfl rfl rfl (⟨hm168.at 1 rfl, ((hm168.see 5 rfl))⟩) ?_
  simp only [nz]
  refine tk 9 47 (.bool false) rfl rfl (fun _ hw => run_pickf rfl rfl rfl) (⟨hm168.at 1 rfl, ((hm168.see 5 rfl))⟩) ?_
  simp only [nz]
  refine tk 10 48 (.bool false) rfl rfl (fun _ hw => run_mv rfl rfl) (⟨hm168.at 1 rfl, ((hm168.see 5 rfl))⟩) ?_
  simp only [nz]
  refine skx 11 49 rfl rfl rfl (⟨hm168.at 1 rfl, ((hm168.see 5 rfl))⟩) ?_
  simp only [nz]
  refine skx 12 50 rfl rfl rfl (⟨hm168.at 1 rfl, ((hm168.see 5 rfl))⟩) ?_
  simp only [nz]
  refine skx 13 51 rfl rfl rfl (⟨hm168.at 1 rfl, ((hm168.see 5 rfl))⟩) ?_
  simp only [nz]
  refine tk 14 52 (.bool false) rfl rfl (fun _ hw => run_pickf rfl rfl rfl) (⟨hm168.at 1 rfl, ((hm168.see 5 rfl))⟩) ?_
  simp only [nz]
  refine tk 15 53 (.bool false) rfl rfl (fun _ hw => run_mv rfl rfl) (⟨hm168.at 1 rfl, ((hm168.see 5 rfl))⟩) ?_
  simp only [nz]
  refine skx 16 54 rfl rfl rfl (⟨hm168.at 1 rfl, ((hm168.see 5 rfl))⟩) ?_
  simp only [nz]
  refine skx 17 55 rfl rfl rfl (⟨hm168.at 1 rfl, ((hm168.see 5 rfl))⟩) ?_
  simp only [nz]
  refine skx 18 56 rfl rfl rfl (⟨hm168.at 1 rfl, ((hm168.see 5 rfl))⟩) ?_
  simp only [nz]
  refine skx 19 57 rfl rfl rfl (⟨hm168.at 1 rfl, ((hm168.see 5 rfl))⟩) ?_
  simp only [nz]
  refine skx 20 58 rfl rfl rfl (⟨hm168.at 1 rfl, ((hm168.see 5 rfl))⟩) ?_
  simp only [nz]
  refine tk 21 59 (.bool false) rfl rfl (fun _ hw => run_pickf rfl rfl rfl) (⟨hm168.at 1 rfl, ((hm168.see 5 rfl))⟩) ?_
  simp only [nz]
  refine tk 22 60 (.bool false) rfl rfl (fun _ hw => run_mv rfl rfl) (⟨hm168.at 1 rfl, ((hm168.see 5 rfl))⟩) ?_
  simp only [nz]
  refine skx 23 61 rfl rfl rfl (⟨hm168.at 1 rfl, ((hm168.see 5 rfl))⟩) ?_
  simp only [nz]
  refine skx 24 62 rfl rfl rfl (⟨hm168.at 1 rfl, ((hm168.see 5 rfl))⟩) ?_
  simp only [nz]
  refine skx 25 63 rfl rfl rfl (⟨hm168.at 1 rfl, ((hm168.see 5 rfl))⟩) ?_
  simp only [nz]
  refine skx 26 64 rfl rfl rfl (⟨hm168.at 1 rfl, ((hm168.see 5 rfl))⟩) ?_
  simp only [nz]
  refine skx 27 65 rfl rfl rfl (⟨hm168.at 1 rfl, ((hm168.see 5 rfl))⟩) ?_
  simp only [nz]
  refine tk 28 66 (.bool false) rfl rfl (fun _ hw => run_pickf rfl rfl rfl) (⟨hm168.at 1 rfl, ((hm168.see 5 rfl))⟩) ?_
  simp only [nz]
  refine tk 29 67 (.bool false) rfl rfl (fun _ hw => run_mv rfl rfl) (⟨hm168.at 1 rfl, ((hm168.see 5 rfl))⟩) ?_
  simp only [nz]
  refine skx 30 68 rfl rfl rfl (⟨hm168.at 1 rfl, ((hm168.see 5 rfl))⟩) ?_
  simp only [nz]
  refine skx 31 69 rfl rfl rfl (⟨hm168.at 1 rfl, ((hm168.see 5 rfl))⟩) ?_
  simp only [nz]
  refine tk 32 70 (.bool false) rfl rfl (fun _ hw => run_pickf rfl rfl rfl) (⟨hm168.at 1 rfl, ((hm168.see 5 rfl))⟩) ?_
  simp only [nz]
  refine tk 33 71 (.bool false) rfl rfl (fun _ hw => run_mv rfl rfl) (⟨hm168.at 1 rfl, ((hm168.see 5 rfl))⟩) ?_
  simp only [nz]
  refine skx 34 72 rfl rfl rfl (⟨hm168.at 1 rfl, ((hm168.see 5 rfl))⟩) ?_
  simp only [nz]
  refine tk 35 73 (.bool false) rfl rfl (fun _ hw => run_pickf rfl rfl rfl) (⟨hm168.at 1 rfl, ((hm168.see 5 rfl))⟩) ?_
  simp only [nz]
  refine tk 36 74 (.bool false) rfl rfl (fun _ hw => run_mv rfl rfl) (⟨hm168.at 1 rfl, ((hm168.see 5 rfl))⟩) ?_
  simp only [nz]
  refine skx 37 75 rfl rfl rfl (⟨hm168.at 1 rfl, ((hm168.see 5 rfl))⟩) ?_
  simp only [nz]
  refine skx 38 76 rfl rfl rfl (⟨hm168.at 1 rfl, ((hm168.see 5 rfl))⟩) ?_
  simp only [nz]
  refine skx 39 77 rfl rfl rfl (⟨hm168.at 1 rfl, ((hm168.see 5 rfl))⟩) ?_
  simp only [nz]
  refine tk 40 78 (.bool false) rfl rfl (fun _ hw => run_pickf rfl rfl rfl) (⟨hm168.at 1 rfl, ((hm168.see 5 rfl))⟩) ?_
  simp only [nz]
  refine tk 41 79 (.bool false) rfl rfl (fun _ hw => run_mv rfl rfl) (⟨hm168.at 1 rfl, ((hm168.see 5 rfl))⟩) ?_
  simp only [nz]
  refine skx 42 80 rfl rfl rfl (⟨hm168.at 1 rfl, ((hm168.see 5 rfl))⟩) ?_
  simp only [nz]
  refine skx 43 81 rfl rfl rfl (⟨hm168.at 1 rfl, ((hm168.see 5 rfl))⟩) ?_
  simp only [nz]
  refine tk 44 82 (.bool false) rfl rfl (fun _ hw => run_pickf rfl rfl rfl) (⟨hm168.at 1 rfl, ((hm168.see 5 rfl))⟩) ?_
  simp only [nz]
  refine tk 45 83 (.bool false) rfl rfl (fun _ hw => run_mv rfl rfl) (⟨hm168.at 1 rfl, ((hm168.see 5 rfl))⟩) ?_
  simp only [nz]
  refine skx 46 84 rfl rfl rfl (⟨hm168.at 1 rfl, ((hm168.see 5 rfl))⟩) ?_
  simp only [nz]
  refine skx 47 85 rfl rfl rfl (⟨hm168.at 1 rfl, ((hm168.see 5 rfl))⟩) ?_
  simp only [nz]
  refine skx 48 86 rfl rfl rfl (⟨hm168.at 1 rfl, ((hm168.see 5 rfl))⟩) ?_
  simp only [nz]
  refine tk 49 87 (.bool false) rfl rfl (fun _ hw => run_pickf rfl rfl rfl) (⟨hm168.at 1 rfl, ((hm168.see 5 rfl))⟩) ?_
  simp only [nz]
  refine one_ready 50 (by kernel_rfl) ?_
  refine opd rfl (wanted_none rfl) (w_value 0 (.bool false) rfl (run_as rfl rfl) ⟨⟨hm168.at 1 rfl, ((hm168.see 5 rfl))⟩, ?_⟩)
  simp only [nz1, nz2]
  refine wpAnyH_done (by kernel_rfl) ?_ _
  refine tj (hK167 _ _ (wp_ret ?_))
  have he200 : awake_m = false := by unfold awake_m; rw [if_pos hs170, if_neg hs171] <;> rfl
  exact ⟨rfl, .bool false, res_t rfl rfl, ⟨by (rw [he200]; try rfl), hm168.below⟩⟩
 simp only [nz]
 refine tk 5 43 (.bool true) rfl rfl (fun _ hw => run_pick rfl rfl rfl) (⟨hm168.at 1 rfl, ((hm168.see 5 rfl))⟩) ?_
 simp only [nz]
 refine tk 6 44 (.bool true) rfl rfl (fun _ hw => run_mv rfl rfl) (⟨hm168.at 1 rfl, ((hm168.see 5 rfl))⟩) ?_
 simp only [nz]
 refine Sym.take_at 7 45 (J ((home_m (awc.1)).2)) rfl rfl (by kernel_rfl) (by kernel_rfl) (by kernel_rfl) (fun _ _ _ h => h) rfl (fun _ hw => run_mv rfl rfl) (⟨hm168.at 1 rfl, ((hm168.see 5 rfl))⟩) ?_
 simp only [nz]
 refine tkb 8 46 ((home_m (awc.1)).2 = 0) rfl rfl rfl (fun _ hw => z_eql ((home_m (awc.1)).2) 0 rfl rfl rfl) (⟨hm168.at 1 rfl, ((hm168.see 5 rfl))⟩) (fun hs172 => ?_) (fun hs172 => ?_)
 rotate_left
 ·simp only [nz]
  refine tk 9 47 (.bool false) rfl rfl (fun _ hw => run_pick rfl rfl rfl) (⟨hm168.at 1 rfl, ((hm168.see 5 rfl))⟩) ?_
  simp only [nz]
  refine tk 10 48 (.bool false) rfl rfl (fun _ hw => run_mv rfl rfl) (⟨hm168.at 1 rfl, ((hm168.see 5 rfl))⟩) ?_
  simp only [nz]
  refine skx 11 49 rfl rfl rfl (⟨hm168.at 1 rfl, ((hm168.see 5 rfl))⟩) ?_
  simp only [nz]
  refine skx 12 50 rfl rfl rfl (⟨hm168.at 1 rfl, ((hm168.see 5 rfl))⟩) ?_
  simp only [nz]
  refine skx 13 51 rfl rfl rfl (⟨hm168.at 1 rfl, ((hm168.see 5 rfl))⟩) ?_
  simp only [nz]
  refine tk 14 52 (.bool false) rfl rfl (fun _ hw => run_pickf rfl rfl rfl) (⟨hm168.at 1 rfl, ((hm168.see 5 rfl))⟩) ?_
  simp only [nz]
  refine tk 15 53 (.bool false) rfl rfl (fun _ hw => run_mv rfl rfl) (⟨hm168.at 1 rfl, ((hm168.see 5 rfl))⟩) ?_
  simp only [nz]
  refine skx 16 54 rfl rfl rfl (⟨hm168.at 1 rfl, ((hm168.see 5 rfl))⟩) ?_
  simp only [nz]
  refine skx 17 55 rfl rfl rfl (⟨hm168.at 1 rfl, ((hm168.see 5 rfl))⟩) ?_
  simp only [nz]
  refine skx 18 56 rfl rfl rfl (⟨hm168.at 1 rfl, ((hm168.see 5 rfl))⟩) ?_
  simp only [nz]
  refine skx 19 57 rfl rfl rfl (⟨hm168.at 1 rfl, ((hm168.see 5 rfl))⟩) ?_
  simp only [nz]
  refine skx 20 58 rfl rfl rfl (⟨hm168.at 1 rfl, ((hm168.see 5 rfl))⟩) ?_
  simp only [nz]
  refine tk 21 59 (.bool false) rfl rfl (fun _ hw => run_pickf rfl rfl rfl) (⟨hm168.at 1 rfl, ((hm168.see 5 rfl))⟩) ?_
  simp only [nz]
  refine tk 22 60 (.bool false) rfl rfl (fun _ hw => run_mv rfl rfl) (⟨hm168.at 1 rfl, ((hm168.see 5 rfl))⟩) ?_
  simp only [nz]
  refine skx 23 61 rfl rfl rfl (⟨hm168.at 1 rfl, ((hm168.see 5 rfl))⟩) ?_
  simp only [nz]
  refine skx 24 62 rfl rfl rfl (⟨hm168.at 1 rfl, ((hm168.see 5 rfl))⟩) ?_
  simp only [nz]
  refine skx 25 63 rfl rfl rfl (⟨hm168.at 1 rfl, ((hm168.see 5 rfl))⟩) ?_
  simp only [nz]
  refine skx 26 64 rfl rfl rfl (⟨hm168.at 1 rfl, ((hm168.see 5 rfl))⟩) ?_
  simp only [nz]
  refine skx 27 65 rfl rfl rfl (⟨hm168.at 1 rfl, ((hm168.see 5 rfl))⟩) ?_
  simp only [nz]
  refine tk 28 66 (.bool false) rfl rfl (fun _ hw => run_pickf rfl rfl rfl) (⟨hm168.at 1 rfl, ((hm168.see 5 rfl))⟩) ?_
  simp only [nz]
  refine tk 29 67 (.bool false) rfl rfl (fun _ hw => run_mv rfl rfl) (⟨hm168.at 1 rfl, ((hm168.see 5 rfl))⟩) ?_
  simp only [nz]
  refine skx 30 68 rfl rfl rfl (⟨hm168.at 1 rfl, ((hm168.see 5 rfl))⟩) ?_
  simp only [nz]
  refine skx 31 69 rfl rfl rfl (⟨hm168.at 1 rfl, ((hm168.see 5 rfl))⟩) ?_
  simp only [nz]
  refine tk 32 70 (.bool false) rfl rfl (fun _ hw => run_pickf rfl rfl rfl) (⟨hm168.at 1 rfl, ((hm168.see 5 rfl))⟩) ?_
  simp only [nz]
  refine tk 33 71 (.bool false) rfl rfl (fun _ hw => run_mv rfl rfl) (⟨hm168.at 1 rfl, ((hm168.see 5 rfl))⟩) ?_
  simp only [nz]
  refine skx 34 72 rfl rfl rfl (⟨hm168.at 1 rfl, ((hm168.see 5 rfl))⟩) ?_
  simp only [nz]
  refine tk 35 73 (.bool false) rfl rfl (fun _ hw => run_pickf rfl rfl rfl) (⟨hm168.at 1 rfl, ((hm168.see 5 rfl))⟩) ?_
  simp only [nz]
  refine tk 36 74 (.bool false) rfl rfl (fun _ hw => run_mv rfl rfl) (⟨hm168.at 1 rfl, ((hm168.see 5 rfl))⟩) ?_
  simp only [nz]
  refine skx 37 75 rfl rfl rfl (⟨hm168.at 1 rfl, ((hm168.see 5 rfl))⟩) ?_
  simp only [nz]
  refine skx 38 76 rfl rfl rfl (⟨hm168.at 1 rfl, ((hm168.see 5 rfl))⟩) ?_
  simp only [nz]
  refine skx 39 77 rfl rfl rfl (⟨hm168.at 1 rfl, ((hm168.see 5 rfl))⟩) ?_
  simp only [nz]
  refine tk 40 78 (.bool false) rfl rfl (fun _ hw => run_pickf rfl rfl rfl) (⟨hm168.at 1 rfl, ((hm168.see 5 rfl))⟩) ?_
  simp only [nz]
  refine tk 41 79 (.bool false) rfl rfl (fun _ hw => run_mv rfl rfl) (⟨hm168.at 1 rfl, ((hm168.see 5 rfl))⟩) ?_
  simp only [nz]
  refine skx 42 80 rfl rfl rfl (⟨hm168.at 1 rfl, ((hm168.see 5 rfl))⟩) ?_
  simp only [nz]
  refine skx 43 81 rfl rfl rfl (⟨hm168.at 1 rfl, ((hm168.see 5 rfl))⟩) ?_
  simp only [nz]
  refine tk 44 82 (.bool false) rfl rfl (fun _ hw => run_pickf rfl rfl rfl) (⟨hm168.at 1 rfl, ((hm168.see 5 rfl))⟩) ?_
  simp only [nz]
  refine tk 45 83 (.bool false) rfl rfl (fun _ hw => run_mv rfl rfl) (⟨hm168.at 1 rfl, ((hm168.see 5 rfl))⟩) ?_
  simp only [nz]
  refine skx 46 84 rfl rfl rfl (⟨hm168.at 1 rfl, ((hm168.see 5 rfl))⟩) ?_
  simp only [nz]
  refine skx 47 85 rfl rfl rfl (⟨hm168.at 1 rfl, ((hm168.see 5 rfl))⟩) ?_
  simp only [nz]
  refine skx 48 86 rfl rfl rfl (⟨hm168.at 1 rfl, ((hm168.see 5 rfl))⟩) ?_
  simp only [nz]
  refine tk 49 87 (.bool false) rfl rfl (fun _ hw => run_pickf rfl rfl rfl) (⟨hm168.at 1 rfl, ((hm168.see 5 rfl))⟩) ?_
  simp only [nz]
  refine one_ready 50 (by kernel_rfl) ?_
  refine opd rfl (wanted_none rfl) (w_value 0 (.bool false) rfl (run_as rfl rfl) ⟨⟨hm168.at 1 rfl, ((hm168.see 5 rfl))⟩, ?_⟩)
  simp only [nz1, nz2]
  refine wpAnyH_done (by kernel_rfl) ?_ _
  refine tj (hK167 _ _ (wp_ret ?_))
  have he199 : awake_m = false := by unfold awake_m; rw [if_pos hs170, if_pos hs171, if_neg hs172] <;> rfl
  exact ⟨rfl, .bool false, res_t rfl rfl, ⟨by (rw [he199]; try rfl), hm168.below⟩⟩
 simp only [nz]
 refine tk 9 47 (.bool true) rfl rfl (fun _ hw => run_pick rfl rfl rfl) (⟨hm168.at 1 rfl, ((hm168.see 5 rfl))⟩) ?_
 simp only [nz]
 refine tk 10 48 (.bool true) rfl rfl (fun _ hw => run_mv rfl rfl) (⟨hm168.at 1 rfl, ((hm168.see 5 rfl))⟩) ?_
 simp only [nz]
 refine Sym.take_at 11 49 (v156) rfl rfl (by kernel_rfl) (by kernel_rfl) (by kernel_rfl) (fun _ _ _ h => h) rfl (fun _ hw => run_mv rfl rfl) (⟨hm168.at 1 rfl, ((hm168.see 5 rfl))⟩) ?_
 simp only [nz]
 refine Sym.take_at 12 50 (J ((((home_m (awc.1)).1).length : Nat) : Int)) rfl rfl (by kernel_rfl) (by kernel_rfl) (by kernel_rfl) (fun _ _ _ h => h) rfl (fun _ hw => s_len ((hm168.see 5 rfl)) rfl Tryd.underlying22 rfl) (⟨hm168.at 1 rfl, ((hm168.see 5 rfl))⟩) ?_
 simp only [nz]
 refine tkb 13 51 (((home_m (awc.1)).1).length = 30) rfl rfl rfl (fun _ hw => r_eql (((home_m (awc.1)).1).length) 30 rfl rfl rfl) (⟨hm168.at 1 rfl, ((hm168.see 5 rfl))⟩) (fun hs173 => ?_) (fun hs173 => ?_)
 rotate_left
 ·simp only [nz]
  refine tk 14 52 (.bool false) rfl rfl (fun _ hw => run_pick rfl rfl rfl) (⟨hm168.at 1 rfl, ((hm168.see 5 rfl))⟩) ?_
  simp only [nz]
  refine tk 15 53 (.bool false) rfl rfl (fun _ hw => run_mv rfl rfl) (⟨hm168.at 1 rfl, ((hm168.see 5 rfl))⟩) ?_
  simp only [nz]
  refine skx 16 54 rfl rfl rfl (⟨hm168.at 1 rfl, ((hm168.see 5 rfl))⟩) ?_
  simp only [nz]
  refine skx 17 55 rfl rfl rfl (⟨hm168.at 1 rfl, ((hm168.see 5 rfl))⟩) ?_
  simp only [nz]
  refine skx 18 56 rfl rfl rfl (⟨hm168.at 1 rfl, ((hm168.see 5 rfl))⟩) ?_
  simp only [nz]
  refine skx 19 57 rfl rfl rfl (⟨hm168.at 1 rfl, ((hm168.see 5 rfl))⟩) ?_
  simp only [nz]
  refine skx 20 58 rfl rfl rfl (⟨hm168.at 1 rfl, ((hm168.see 5 rfl))⟩) ?_
  simp only [nz]
  refine tk 21 59 (.bool false) rfl rfl (fun _ hw => run_pickf rfl rfl rfl) (⟨hm168.at 1 rfl, ((hm168.see 5 rfl))⟩) ?_
  simp only [nz]
  refine tk 22 60 (.bool false) rfl rfl (fun _ hw => run_mv rfl rfl) (⟨hm168.at 1 rfl, ((hm168.see 5 rfl))⟩) ?_
  simp only [nz]
  refine skx 23 61 rfl rfl rfl (⟨hm168.at 1 rfl, ((hm168.see 5 rfl))⟩) ?_
  simp only [nz]
  refine skx 24 62 rfl rfl rfl (⟨hm168.at 1 rfl, ((hm168.see 5 rfl))⟩) ?_
  simp only [nz]
  refine skx 25 63 rfl rfl rfl (⟨hm168.at 1 rfl, ((hm168.see 5 rfl))⟩) ?_
  simp only [nz]
  refine skx 26 64 rfl rfl rfl (⟨hm168.at 1 rfl, ((hm168.see 5 rfl))⟩) ?_
  simp only [nz]
  refine skx 27 65 rfl rfl rfl (⟨hm168.at 1 rfl, ((hm168.see 5 rfl))⟩) ?_
  simp only [nz]
  refine tk 28 66 (.bool false) rfl rfl (fun _ hw => run_pickf rfl rfl rfl) (⟨hm168.at 1 rfl, ((hm168.see 5 rfl))⟩) ?_
  simp only [nz]
  refine tk 29 67 (.bool false) rfl rfl (fun _ hw => run_mv rfl rfl) (⟨hm168.at 1 rfl, ((hm168.see 5 rfl))⟩) ?_
  simp only [nz]
  refine skx 30 68 rfl rfl rfl (⟨hm168.at 1 rfl, ((hm168.see 5 rfl))⟩) ?_
  simp only [nz]
  refine skx 31 69 rfl rfl rfl (⟨hm168.at 1 rfl, ((hm168.see 5 rfl))⟩) ?_
  simp only [nz]
  refine tk 32 70 (.bool false) rfl rfl (fun _ hw => run_pickf rfl rfl rfl) (⟨hm168.at 1 rfl, ((hm168.see 5 rfl))⟩) ?_
  simp only [nz]
  refine tk 33 71 (.bool false) rfl rfl (fun _ hw => run_mv rfl rfl) (⟨hm168.at 1 rfl, ((hm168.see 5 rfl))⟩) ?_
  simp only [nz]
  refine skx 34 72 rfl rfl rfl (⟨hm168.at 1 rfl, ((hm168.see 5 rfl))⟩) ?_
  simp only [nz]
  refine tk 35 73 (.bool false) rfl rfl (fun _ hw => run_pickf rfl rfl rfl) (⟨hm168.at 1 rfl, ((hm168.see 5 rfl))⟩) ?_
  simp only [nz]
  refine tk 36 74 (.bool false) rfl rfl (fun _ hw => run_mv rfl rfl) (⟨hm168.at 1 rfl, ((hm168.see 5 rfl))⟩) ?_
  simp only [nz]
  refine skx 37 75 rfl rfl rfl (⟨hm168.at 1 rfl, ((hm168.see 5 rfl))⟩) ?_
  simp only [nz]
  refine skx 38 76 rfl rfl rfl (⟨hm168.at 1 rfl, ((hm168.see 5 rfl))⟩) ?_
  simp only [nz]
  refine skx 39 77 rfl rfl rfl (⟨hm168.at 1 rfl, ((hm168.see 5 rfl))⟩) ?_
  simp only [nz]
  refine tk 40 78 (.bool false) rfl rfl (fun _ hw => run_pickf rfl rfl rfl) (⟨hm168.at 1 rfl, ((hm168.see 5 rfl))⟩) ?_
  simp only [nz]
  refine tk 41 79 (.bool false) rfl rfl (fun _ hw => run_mv rfl rfl) (⟨hm168.at 1 rfl, ((hm168.see 5 rfl))⟩) ?_
  simp only [nz]
  refine skx 42 80 rfl rfl rfl (⟨hm168.at 1 rfl, ((hm168.see 5 rfl))⟩) ?_
  simp only [nz]
  refine skx 43 81 rfl rfl rfl (⟨hm168.at 1 rfl, ((hm168.see 5 rfl))⟩) ?_
  simp only [nz]
  refine tk 44 82 (.bool false) rfl rfl (fun _ hw => run_pickf rfl rfl rfl) (⟨hm168.at 1 rfl, ((hm168.see 5 rfl))⟩) ?_
  simp only [nz]
  refine tk 45 83 (.bool false) rfl rfl (fun _ hw => run_mv rfl rfl) (⟨hm168.at 1 rfl, ((hm168.see 5 rfl))⟩) ?_
  simp only [nz]
  refine skx 46 84 rfl rfl rfl (⟨hm168.at 1 rfl, ((hm168.see 5 rfl))⟩) ?_
  simp only [nz]
  refine skx 47 85 rfl rfl rfl (⟨hm168.at 1 rfl, ((hm168.see 5 rfl))⟩) ?_
  simp only [nz]
  refine skx 48 86 rfl rfl rfl (⟨hm168.at 1 rfl, ((hm168.see 5 rfl))⟩) ?_
  simp only [nz]
  refine tk 49 87 (.bool false) rfl rfl (fun _ hw => run_pickf rfl rfl rfl) (⟨hm168.at 1 rfl, ((hm168.see 5 rfl))⟩) ?_
  simp only [nz]
  refine one_ready 50 (by kernel_rfl) ?_
  refine opd rfl (wanted_none rfl) (w_value 0 (.bool false) rfl (run_as rfl rfl) ⟨⟨hm168.at 1 rfl, ((hm168.see 5 rfl))⟩, ?_⟩)
  simp only [nz1, nz2]
  refine wpAnyH_done (by kernel_rfl) ?_ _
  refine tj (hK167 _ _ (wp_ret ?_))
  have he198 : awake_m = false := by unfold awake_m; rw [if_pos hs170, if_pos hs171, if_pos hs172, if_neg hs173] <;> rfl
  exact ⟨rfl, .bool false, res_t rfl rfl, ⟨by (rw [he198]; try rfl), hm168.below⟩⟩
 simp only [nz]
 refine tk 14 52 (.bool true) rfl rfl (fun _ hw => run_pick rfl rfl rfl) (⟨hm168.at 1 rfl, ((hm168.see 5 rfl))⟩) ?_
 simp only [nz]
 refine tk 15 53 (.bool true) rfl rfl (fun _ hw => run_mv rfl rfl) (⟨hm168.at 1 rfl, ((hm168.see 5 rfl))⟩) ?_
 simp only [nz]
 refine Sym.take_at 16 54 (v156) rfl rfl (by kernel_rfl) (by kernel_rfl) (by kernel_rfl) (fun _ _ _ h => h) rfl (fun _ hw => run_mv rfl rfl) (⟨hm168.at 1 rfl, ((hm168.see 5 rfl))⟩) ?_
 simp only [nz]
 refine Sym.take_at 17 55 (.pointer (some ⟨(bk v156), (po v156 + 2 * 1), none⟩)) rfl rfl (by kernel_rfl) (by kernel_rfl) (by kernel_rfl) (fun _ _ _ h => h) rfl (fun _ hw => r_ixv ((hm168.see 5 rfl)) 2 (by omega) Tryd.underlying22 sz_9 rfl rfl rfl) (⟨hm168.at 1 rfl, ((hm168.see 5 rfl))⟩) ?_
 simp only [nz]
 refine Sym.take_at 18 56 (.string (tx (((home_m (awc.1)).1).getD 2 []))) rfl rfl (by kernel_rfl) (by kernel_rfl) (by kernel_rfl) (fun _ _ _ h => h) rfl (fun _ hw => r_cellw (Rs.cell hw.2 eS_len [] 2 (by omega) 0 _ rfl) Tryd.underlying9 rfl rfl rfl) (⟨hm168.at 1 rfl, ((hm168.see 5 rfl))⟩) ?_
 simp only [nz]
 refine one_ready 19 (by kernel_rfl) ?_
 refine opd rfl rfl (m_call hm168 57 (.string (tx (sector_m (UInt8.ofNat 7)))) rfl (run_sector rfl rfl) (sector_any (UInt8.ofNat 7)  _  ) (fun w174 hm175 => ?_))
 refine ⟨⟨hm175.at 1 rfl, ((hm175.see 5 rfl))⟩, ?_⟩
 simp only [nz]
 refine tkb 20 58 ((((home_m (awc.1)).1).getD 2 []) = (sector_m (UInt8.ofNat 7))) rfl rfl rfl (fun _ hw => t_eql (((home_m (awc.1)).1).getD 2 []) (sector_m (UInt8.ofNat 7)) rfl rfl rfl) (⟨hm175.at 1 rfl, ((hm175.see 5 rfl))⟩) (fun hs176 => ?_) (fun hs176 => ?_)
 rotate_left
 ·simp only [nz]
  refine tk 21 59 (.bool false) rfl rfl (fun _ hw => run_pick rfl rfl rfl) (⟨hm175.at 1 rfl, ((hm175.see 5 rfl))⟩) ?_
  simp only [nz]
  refine tk 22 60 (.bool false) rfl rfl (fun _ hw => run_mv rfl rfl) (⟨hm175.at 1 rfl, ((hm175.see 5 rfl))⟩) ?_
  simp only [nz]
  refine skx 23 61 rfl rfl rfl (⟨hm175.at 1 rfl, ((hm175.see 5 rfl))⟩) ?_
  simp only [nz]
  refine skx 24 62 rfl rfl rfl (⟨hm175.at 1 rfl, ((hm175.see 5 rfl))⟩) ?_
  simp only [nz]
  refine skx 25 63 rfl rfl rfl (⟨hm175.at 1 rfl, ((hm175.see 5 rfl))⟩) ?_
  simp only [nz]
  refine skx 26 64 rfl rfl rfl (⟨hm175.at 1 rfl, ((hm175.see 5 rfl))⟩) ?_
  simp only [nz]
  refine skx 27 65 rfl rfl rfl (⟨hm175.at 1 rfl, ((hm175.see 5 rfl))⟩) ?_
  simp only [nz]
  refine tk 28 66 (.bool false) rfl rfl (fun _ hw => run_pickf rfl rfl rfl) (⟨hm175.at 1 rfl, ((hm175.see 5 rfl))⟩) ?_
  simp only [nz]
  refine tk 29 67 (.bool false) rfl rfl (fun _ hw => run_mv rfl rfl) (⟨hm175.at 1 rfl, ((hm175.see 5 rfl))⟩) ?_
  simp only [nz]
  refine skx 30 68 rfl rfl rfl (⟨hm175.at 1 rfl, ((hm175.see 5 rfl))⟩) ?_
  simp only [nz]
  refine skx 31 69 rfl rfl rfl (⟨hm175.at 1 rfl, ((hm175.see 5 rfl))⟩) ?_
  simp only [nz]
  refine tk 32 70 (.bool false) rfl rfl (fun _ hw => run_pickf rfl rfl rfl) (⟨hm175.at 1 rfl, ((hm175.see 5 rfl))⟩) ?_
  simp only [nz]
  refine tk 33 71 (.bool false) rfl rfl (fun _ hw => run_mv rfl rfl) (⟨hm175.at 1 rfl, ((hm175.see 5 rfl))⟩) ?_
  simp only [nz]
  refine skx 34 72 rfl rfl rfl (⟨hm175.at 1 rfl, ((hm175.see 5 rfl))⟩) ?_
  simp only [nz]
  refine tk 35 73 (.bool false) rfl rfl (fun _ hw => run_pickf rfl rfl rfl) (⟨hm175.at 1 rfl, ((hm175.see 5 rfl))⟩) ?_
  simp only [nz]
  refine tk 36 74 (.bool false) rfl rfl (fun _ hw => run_mv rfl rfl) (⟨hm175.at 1 rfl, ((hm175.see 5 rfl))⟩) ?_
  simp only [nz]
  refine skx 37 75 rfl rfl rfl (⟨hm175.at 1 rfl, ((hm175.see 5 rfl))⟩) ?_
  simp only [nz]
  refine skx 38 76 rfl rfl rfl (⟨hm175.at 1 rfl, ((hm175.see 5 rfl))⟩) ?_
  simp only [nz]
  refine skx 39 77 rfl rfl rfl (⟨hm175.at 1 rfl, ((hm175.see 5 rfl))⟩) ?_
  simp only [nz]
  refine tk 40 78 (.bool false) rfl rfl (fun _ hw => run_pickf rfl rfl rfl) (⟨hm175.at 1 rfl, ((hm175.see 5 rfl))⟩) ?_
  simp only [nz]
  refine tk 41 79 (.bool false) rfl rfl (fun _ hw => run_mv rfl rfl) (⟨hm175.at 1 rfl, ((hm175.see 5 rfl))⟩) ?_
  simp only [nz]
  refine skx 42 80 rfl rfl rfl (⟨hm175.at 1 rfl, ((hm175.see 5 rfl))⟩) ?_
  simp only [nz]
  refine skx 43 81 rfl rfl rfl (⟨hm175.at 1 rfl, ((hm175.see 5 rfl))⟩) ?_
  simp only [nz]
  refine tk 44 82 (.bool false) rfl rfl (fun _ hw => run_pickf rfl rfl rfl) (⟨hm175.at 1 rfl, ((hm175.see 5 rfl))⟩) ?_
  simp only [nz]
  refine tk 45 83 (.bool false) rfl rfl (fun _ hw => run_mv rfl rfl) (⟨hm175.at 1 rfl, ((hm175.see 5 rfl))⟩) ?_
  simp only [nz]
  refine skx 46 84 rfl rfl rfl (⟨hm175.at 1 rfl, ((hm175.see 5 rfl))⟩) ?_
  simp only [nz]
  refine skx 47 85 rfl rfl rfl (⟨hm175.at 1 rfl, ((hm175.see 5 rfl))⟩) ?_
  simp only [nz]
  refine skx 48 86 rfl rfl rfl (⟨hm175.at 1 rfl, ((hm175.see 5 rfl))⟩) ?_
  simp only [nz]
  refine tk 49 87 (.bool false) rfl rfl (fun _ hw => run_pickf rfl rfl rfl) (⟨hm175.at 1 rfl, ((hm175.see 5 rfl))⟩) ?_
  simp only [nz]
  refine one_ready 50 (by kernel_rfl) ?_
  refine opd rfl (wanted_none rfl) (w_value 0 (.bool false) rfl (run_as rfl rfl) ⟨⟨hm175.at 1 rfl, ((hm175.see 5 rfl))⟩, ?_⟩)
  simp only [nz1, nz2]
  refine wpAnyH_done (by kernel_rfl) ?_ _
  refine tj (hK167 _ _ (wp_ret ?_))
  have he197 : awake_m = false := by unfold awake_m; rw [if_pos hs170, if_pos hs171, if_pos hs172, if_pos hs173, if_neg hs176] <;> rfl
  exact ⟨rfl, .bool false, res_t rfl rfl, ⟨by (rw [he197]; try rfl), hm175.below⟩⟩
 simp only [nz]
 refine tk 21 59 (.bool true) rfl rfl (fun _ hw => run_pick rfl rfl rfl) (⟨hm175.at 1 rfl, ((hm175.see 5 rfl))⟩) ?_
 simp only [nz]
 refine tk 22 60 (.bool true) rfl rfl (fun _ hw => run_mv rfl rfl) (⟨hm175.at 1 rfl, ((hm175.see 5 rfl))⟩) ?_
 simp only [nz]
 refine Sym.take_at 23 61 (v156) rfl rfl (by kernel_rfl) (by kernel_rfl) (by kernel_rfl) (fun _ _ _ h => h) rfl (fun _ hw => run_mv rfl rfl) (⟨hm175.at 1 rfl, ((hm175.see 5 rfl))⟩) ?_
 simp only [nz]
 refine Sym.take_at 24 62 (.pointer (some ⟨(bk v156), (po v156 + 5 * 1), none⟩)) rfl rfl (by kernel_rfl) (by kernel_rfl) (by kernel_rfl) (fun _ _ _ h => h) rfl (fun _ hw => r_ixv ((hm175.see 5 rfl)) 5 (by omega) Tryd.underlying22 sz_9 rfl rfl rfl) (⟨hm175.at 1 rfl, ((hm175.see 5 rfl))⟩) ?_
 simp only [nz]
 refine Sym.take_at 25 63 (.string (tx (((home_m (awc.1)).1).getD 5 []))) rfl rfl (by kernel_rfl) (by kernel_rfl) (by kernel_rfl) (fun _ _ _ h => h) rfl (fun _ hw => r_cellw (Rs.cell hw.2 eS_len [] 5 (by omega) 0 _ rfl) Tryd.underlying9 rfl rfl rfl) (⟨hm175.at 1 rfl, ((hm175.see 5 rfl))⟩) ?_
 simp only [nz]
 refine one_ready 26 (by kernel_rfl) ?_
 refine opd rfl rfl (m_call hm175 64 (.string (tx (sector_m (UInt8.ofNat 8)))) rfl (run_sector rfl rfl) (sector_any (UInt8.ofNat 8)  _  ) (fun w177 hm178 => ?_))
 refine ⟨⟨hm178.at 1 rfl, ((hm178.see 5 rfl))⟩, ?_⟩
 simp only [nz]
 refine tkb 27 65 ((((home_m (awc.1)).1).getD 5 []) = (sector_m (UInt8.ofNat 8))) rfl rfl rfl (fun _ hw => t_eql (((home_m (awc.1)).1).getD 5 []) (sector_m (UInt8.ofNat 8)) rfl rfl rfl) (⟨hm178.at 1 rfl, ((hm178.see 5 rfl))⟩) (fun hs179 => ?_) (fun hs179 => ?_)
 rotate_left
 ·simp only [nz]
  refine tk 28 66 (.bool false) rfl rfl (fun _ hw => run_pick rfl rfl rfl) (⟨hm178.at 1 rfl, ((hm178.see 5 rfl))⟩) ?_
  simp only [nz]
  refine tk 29 67 (.bool false) rfl rfl (fun _ hw => run_mv rfl rfl) (⟨hm178.at 1 rfl, ((hm178.see 5 rfl))⟩) ?_
  simp only [nz]
  refine skx 30 68 rfl rfl rfl (⟨hm178.at 1 rfl, ((hm178.see 5 rfl))⟩) ?_
  simp only [nz]
  refine skx 31 69 rfl rfl rfl (⟨hm178.at 1 rfl, ((hm178.see 5 rfl))⟩) ?_
  simp only [nz]
  refine tk 32 70 (.bool false) rfl rfl (fun _ hw => run_pickf rfl rfl rfl) (⟨hm178.at 1 rfl, ((hm178.see 5 rfl))⟩) ?_
  simp only [nz]
  refine tk 33 71 (.bool false) rfl rfl (fun _ hw => run_mv rfl rfl) (⟨hm178.at 1 rfl, ((hm178.see 5 rfl))⟩) ?_
  simp only [nz]
  refine skx 34 72 rfl rfl rfl (⟨hm178.at 1 rfl, ((hm178.see 5 rfl))⟩) ?_
  simp only [nz]
  refine tk 35 73 (.bool false) rfl rfl (fun _ hw => run_pickf rfl rfl rfl) (⟨hm178.at 1 rfl, ((hm178.see 5 rfl))⟩) ?_
  simp only [nz]
  refine tk 36 74 (.bool false) rfl rfl (fun _ hw => run_mv rfl rfl) (⟨hm178.at 1 rfl, ((hm178.see 5 rfl))⟩) ?_
  simp only [nz]
  refine skx 37 75 rfl rfl rfl (⟨hm178.at 1 rfl, ((hm178.see 5 rfl))⟩) ?_
  simp only [nz]
  refine skx 38 76 rfl rfl rfl (⟨hm178.at 1 rfl, ((hm178.see 5 rfl))⟩) ?_
  simp only [nz]
  refine skx 39 77 rfl rfl rfl (⟨hm178.at 1 rfl, ((hm178.see 5 rfl))⟩) ?_
  simp only [nz]
  refine tk 40 78 (.bool false) rfl rfl (fun _ hw => run_pickf rfl rfl rfl) (⟨hm178.at 1 rfl, ((hm178.see 5 rfl))⟩) ?_
  simp only [nz]
  refine tk 41 79 (.bool false) rfl rfl (fun _ hw => run_mv rfl rfl) (⟨hm178.at 1 rfl, ((hm178.see 5 rfl))⟩) ?_
  simp only [nz]
  refine skx 42 80 rfl rfl rfl (⟨hm178.at 1 rfl, ((hm178.see 5 rfl))⟩) ?_
  simp only [nz]
  refine skx 43 81 rfl rfl rfl (⟨hm178.at 1 rfl, ((hm178.see 5 rfl))⟩) ?_
  simp only [nz]
  refine tk 44 82 (.bool false) rfl rfl (fun _ hw => run_pickf rfl rfl rfl) (⟨hm178.at 1 rfl, ((hm178.see 5 rfl))⟩) ?_
  simp only [nz]
  refine tk 45 83 (.bool false) rfl rfl (fun _ hw => run_mv rfl rfl) (⟨hm178.at 1 rfl, ((hm178.see 5 rfl))⟩) ?_
  simp only [nz]
  refine skx 46 84 rfl rfl rfl (⟨hm178.at 1 rfl, ((hm178.see 5 rfl))⟩) ?_
  simp only [nz]
  refine skx 47 85 rfl rfl rfl (⟨hm178.at 1 rfl, ((hm178.see 5 rfl))⟩) ?_
  simp only [nz]
  refine skx 48 86 rfl rfl rfl (⟨hm178.at 1 rfl, ((hm178.see 5 rfl))⟩) ?_
  simp only [nz]
  refine tk 49 87 (.bool false) rfl rfl (fun _ hw => run_pickf rfl rfl rfl) (⟨hm178.at 1 rfl, ((hm178.see 5 rfl))⟩) ?_
  simp only [nz]
  refine one_ready 50 (by kernel_rfl) ?_
  refine opd rfl (wanted_none rfl) (w_value 0 (.bool false) rfl (run_as rfl rfl) ⟨⟨hm178.at 1 rfl, ((hm178.see 5 rfl))⟩, ?_⟩)
  simp only [nz1, nz2]
  refine wpAnyH_done (by kernel_rfl) ?_ _
  refine tj (hK167 _ _ (wp_ret ?_))
  have he196 : awake_m = false := by unfold awake_m; rw [if_pos hs170, if_pos hs171, if_pos hs172, if_pos hs173, if_pos hs176, if_neg hs179] <;> rfl
  exact ⟨rfl, .bool false, res_t rfl rfl, ⟨by (rw [he196]; try rfl), hm178.below⟩⟩
 simp only [nz]
 refine tk 28 66 (.bool true) rfl rfl (fun _ hw => run_pick rfl rfl rfl) (⟨hm178.at 1 rfl, ((hm178.see 5 rfl))⟩) ?_
 simp only [nz]
 refine tk 29 67 (.bool true) rfl rfl (fun _ hw => run_mv rfl rfl) (⟨hm178.at 1 rfl, ((hm178.see 5 rfl))⟩) ?_
 simp only [nz]
 refine Sym.take_at 30 68 (J ((epoch_m (awc.1)).1)) rfl rfl (by kernel_rfl) (by kernel_rfl) (by kernel_rfl) (fun _ _ _ h => h) rfl (fun _ hw => run_mv rfl rfl) (⟨hm178.at 1 rfl, ((hm178.see 5 rfl))⟩) ?_
 simp only [nz]
 refine tkb 31 69 ((epoch_m (awc.1)).1 = 2) rfl rfl rfl (fun _ hw => z_eql ((epoch_m (awc.1)).1) 2 rfl rfl rfl) (⟨hm178.at 1 rfl, ((hm178.see 5 rfl))⟩) (fun hs180 => ?_) (fun hs180 => ?_)
 rotate_left
 ·simp only [nz]
  refine tk 32 70 (.bool false) rfl rfl (fun _ hw => run_pick rfl rfl rfl) (⟨hm178.at 1 rfl, ((hm178.see 5 rfl))⟩) ?_
  simp only [nz]
  refine tk 33 71 (.bool false) rfl rfl (fun _ hw => run_mv rfl rfl) (⟨hm178.at 1 rfl, ((hm178.see 5 rfl))⟩) ?_
  simp only [nz]
  refine skx 34 72 rfl rfl rfl (⟨hm178.at 1 rfl, ((hm178.see 5 rfl))⟩) ?_
  simp only [nz]
  refine tk 35 73 (.bool false) rfl rfl (fun _ hw => run_pickf rfl rfl rfl) (⟨hm178.at 1 rfl, ((hm178.see 5 rfl))⟩) ?_
  simp only [nz]
  refine tk 36 74 (.bool false) rfl rfl (fun _ hw => run_mv rfl rfl) (⟨hm178.at 1 rfl, ((hm178.see 5 rfl))⟩) ?_
  simp only [nz]
  refine skx 37 75 rfl rfl rfl (⟨hm178.at 1 rfl, ((hm178.see 5 rfl))⟩) ?_
  simp only [nz]
  refine skx 38 76 rfl rfl rfl (⟨hm178.at 1 rfl, ((hm178.see 5 rfl))⟩) ?_
  simp only [nz]
  refine skx 39 77 rfl rfl rfl (⟨hm178.at 1 rfl, ((hm178.see 5 rfl))⟩) ?_
  simp only [nz]
  refine tk 40 78 (.bool false) rfl rfl (fun _ hw => run_pickf rfl rfl rfl) (⟨hm178.at 1 rfl, ((hm178.see 5 rfl))⟩) ?_
  simp only [nz]
  refine tk 41 79 (.bool false) rfl rfl (fun _ hw => run_mv rfl rfl) (⟨hm178.at 1 rfl, ((hm178.see 5 rfl))⟩) ?_
  simp only [nz]
  refine skx 42 80 rfl rfl rfl (⟨hm178.at 1 rfl, ((hm178.see 5 rfl))⟩) ?_
  simp only [nz]
  refine skx 43 81 rfl rfl rfl (⟨hm178.at 1 rfl, ((hm178.see 5 rfl))⟩) ?_
  simp only [nz]
  refine tk 44 82 (.bool false) rfl rfl (fun _ hw => run_pickf rfl rfl rfl) (⟨hm178.at 1 rfl, ((hm178.see 5 rfl))⟩) ?_
  simp only [nz]
  refine tk 45 83 (.bool false) rfl rfl (fun _ hw => run_mv rfl rfl) (⟨hm178.at 1 rfl, ((hm178.see 5 rfl))⟩) ?_
  simp only [nz]
  refine skx 46 84 rfl rfl rfl (⟨hm178.at 1 rfl, ((hm178.see 5 rfl))⟩) ?_
  simp only [nz]
  refine skx 47 85 rfl rfl rfl (⟨hm178.at 1 rfl, ((hm178.see 5 rfl))⟩) ?_
  simp only [nz]
  refine skx 48 86 rfl rfl rfl (⟨hm178.at 1 rfl, ((hm178.see 5 rfl))⟩) ?_
  simp only [nz]
  refine tk 49 87 (.bool false) rfl rfl (fun _ hw => run_pickf rfl rfl rfl) (⟨hm178.at 1 rfl, ((hm178.see 5 rfl))⟩) ?_
  simp only [nz]
  refine one_ready 50 (by kernel_rfl) ?_
  refine opd rfl (wanted_none rfl) (w_value 0 (.bool false) rfl (run_as rfl rfl) ⟨⟨hm178.at 1 rfl, ((hm178.see 5 rfl))⟩, ?_⟩)
  simp only [nz1, nz2]
  refine wpAnyH_done (by kernel_rfl) ?_ _
  refine tj (hK167 _ _ (wp_ret ?_))
  have he195 : awake_m = false := by unfold awake_m; rw [if_pos hs170, if_pos hs171, if_pos hs172, if_pos hs173, if_pos hs176, if_pos hs179, if_neg hs180] <;> rfl
  exact ⟨rfl, .bool false, res_t rfl rfl, ⟨by (rw [he195]; try rfl), hm178.below⟩⟩
 simp only [nz]
 refine tk 32 70 (.bool true) rfl rfl (fun _ hw => run_pick rfl rfl rfl) (⟨hm178.at 1 rfl, ((hm178.see 5 rfl))⟩) ?_
 simp only [nz]
 refine tk 33 71 (.bool true) rfl rfl (fun _ hw => run_mv rfl rfl) (⟨hm178.at 1 rfl, ((hm178.see 5 rfl))⟩) ?_
 simp only [nz]
 refine tkb 34 72 (((epoch_m (awc.1)).2) = true) rfl rfl rfl (fun _ hw => (by rw [show decide (((epoch_m (awc.1)).2) = true) = ((epoch_m (awc.1)).2) from Bool.decide_eq_true]; exact run_mv rfl rfl)) (⟨hm178.at 1 rfl, ((hm178.see 5 rfl))⟩) (fun hs181 => ?_) (fun hs181 => ?_)
 rotate_left
 ·simp only [nz]
  refine tk 35 73 (.bool false) rfl rfl (fun _ hw => run_pick rfl rfl rfl) (⟨hm178.at 1 rfl, ((hm178.see 5 rfl))⟩) ?_
  simp only [nz]
  refine tk 36 74 (.bool false) rfl rfl (fun _ hw => run_mv rfl rfl) (⟨hm178.at 1 rfl, ((hm178.see 5 rfl))⟩) ?_
  simp only [nz]
  refine skx 37 75 rfl rfl rfl (⟨hm178.at 1 rfl, ((hm178.see 5 rfl))⟩) ?_
  simp only [nz]
  refine skx 38 76 rfl rfl rfl (⟨hm178.at 1 rfl, ((hm178.see 5 rfl))⟩) ?_
  simp only [nz]
  refine skx 39 77 rfl rfl rfl (⟨hm178.at 1 rfl, ((hm178.see 5 rfl))⟩) ?_
  simp only [nz]
  refine tk 40 78 (.bool false) rfl rfl (fun _ hw => run_pickf rfl rfl rfl) (⟨hm178.at 1 rfl, ((hm178.see 5 rfl))⟩) ?_
  simp only [nz]
  refine tk 41 79 (.bool false) rfl rfl (fun _ hw => run_mv rfl rfl) (⟨hm178.at 1 rfl, ((hm178.see 5 rfl))⟩) ?_
  simp only [nz]
  refine skx 42 80 rfl rfl rfl (⟨hm178.at 1 rfl, ((hm178.see 5 rfl))⟩) ?_
  simp only [nz]
  refine skx 43 81 rfl rfl rfl (⟨hm178.at 1 rfl, ((hm178.see 5 rfl))⟩) ?_
  simp only [nz]
  refine tk 44 82 (.bool false) rfl rfl (fun _ hw => run_pickf rfl rfl rfl) (⟨hm178.at 1 rfl, ((hm178.see 5 rfl))⟩) ?_
  simp only [nz]
  refine tk 45 83 (.bool false) rfl rfl (fun _ hw => run_mv rfl rfl) (⟨hm178.at 1 rfl, ((hm178.see 5 rfl))⟩) ?_
  simp only [nz]
  refine skx 46 84 rfl rfl rfl (⟨hm178.at 1 rfl, ((hm178.see 5 rfl))⟩) ?_
  simp only [nz]
  refine skx 47 85 rfl rfl rfl (⟨hm178.at 1 rfl, ((hm178.see 5 rfl))⟩) ?_
  simp only [nz]
  refine skx 48 86 rfl rfl rfl (⟨hm178.at 1 rfl, ((hm178.see 5 rfl))⟩) ?_
  simp only [nz]
  refine tk 49 87 (.bool false) rfl rfl (fun _ hw => run_pickf rfl rfl rfl) (⟨hm178.at 1 rfl, ((hm178.see 5 rfl))⟩) ?_
  simp only [nz]
  refine one_ready 50 (by kernel_rfl) ?_
  refine opd rfl (wanted_none rfl) (w_value 0 (.bool false) rfl (run_as rfl rfl) ⟨⟨hm178.at 1 rfl, ((hm178.see 5 rfl))⟩, ?_⟩)
  simp only [nz1, nz2]
  refine wpAnyH_done (by kernel_rfl) ?_ _
  refine tj (hK167 _ _ (wp_ret ?_))
  have he194 : awake_m = false := by unfold awake_m; rw [if_pos hs170, if_pos hs171, if_pos hs172, if_pos hs173, if_pos hs176, if_pos hs179, if_pos hs180, if_neg hs181] <;> rfl
  exact ⟨rfl, .bool false, res_t rfl rfl, ⟨by (rw [he194]; try rfl), hm178.below⟩⟩
 simp only [nz]
 refine tk 35 73 (.bool true) rfl rfl (fun _ hw => run_pick rfl rfl rfl) (⟨hm178.at 1 rfl, ((hm178.see 5 rfl))⟩) ?_
 simp only [nz]
 refine tk 36 74 (.bool true) rfl rfl (fun _ hw => run_mv rfl rfl) (⟨hm178.at 1 rfl, ((hm178.see 5 rfl))⟩) ?_
 simp only [nz]
 refine Sym.take_at 37 75 (.agg #[v57, v58, J ((awc.1).fuse), .bool ((awc.1).down)]) rfl rfl (by kernel_rfl) (by kernel_rfl) (by kernel_rfl) (fun _ _ _ h => h) rfl (fun _ hw => r_whole hw.1 Tryd.underlying25 rfl (by exact sz_25) rfl rfl) (⟨hm178.at 1 rfl, ((hm178.see 5 rfl))⟩) ?_
 simp only [nz]
 refine one_ready 38 (by kernel_rfl) ?_
 refine opd rfl rfl (m_call hm178 76 (J ((log_m (awc.1)))) rfl (run_log rfl rfl) (log_any (awc.1) v57 v58 _ (hm178.see 4 rfl) (by omega) (by omega)) (fun w182 hm183 => ?_))
 have hf184 : (log_m (awc.1)) = ((((awc.1).safe.length / 4 : Nat)) : Int) := log_is (awc.1)
 refine ⟨⟨hm183.at 1 rfl, ((hm183.see 5 rfl))⟩, ?_⟩
 simp only [nz]
 refine tkb 39 77 ((log_m (awc.1)) = 10) rfl rfl rfl (fun _ hw => z_eql (log_m (awc.1)) 10 rfl rfl rfl) (⟨hm183.at 1 rfl, ((hm183.see 5 rfl))⟩) (fun hs185 => ?_) (fun hs185 => ?_)
 rotate_left
 ·simp only [nz]
  refine tk 40 78 (.bool false) rfl rfl (fun _ hw => run_pick rfl rfl rfl) (⟨hm183.at 1 rfl, ((hm183.see 5 rfl))⟩) ?_
  simp only [nz]
  refine tk 41 79 (.bool false) rfl rfl (fun _ hw => run_mv rfl rfl) (⟨hm183.at 1 rfl, ((hm183.see 5 rfl))⟩) ?_
  simp only [nz]
  refine skx 42 80 rfl rfl rfl (⟨hm183.at 1 rfl, ((hm183.see 5 rfl))⟩) ?_
  simp only [nz]
  refine skx 43 81 rfl rfl rfl (⟨hm183.at 1 rfl, ((hm183.see 5 rfl))⟩) ?_
  simp only [nz]
  refine tk 44 82 (.bool false) rfl rfl (fun _ hw => run_pickf rfl rfl rfl) (⟨hm183.at 1 rfl, ((hm183.see 5 rfl))⟩) ?_
  simp only [nz]
  refine tk 45 83 (.bool false) rfl rfl (fun _ hw => run_mv rfl rfl) (⟨hm183.at 1 rfl, ((hm183.see 5 rfl))⟩) ?_
  simp only [nz]
  refine skx 46 84 rfl rfl rfl (⟨hm183.at 1 rfl, ((hm183.see 5 rfl))⟩) ?_
  simp only [nz]
  refine skx 47 85 rfl rfl rfl (⟨hm183.at 1 rfl, ((hm183.see 5 rfl))⟩) ?_
  simp only [nz]
  refine skx 48 86 rfl rfl rfl (⟨hm183.at 1 rfl, ((hm183.see 5 rfl))⟩) ?_
  simp only [nz]
  refine tk 49 87 (.bool false) rfl rfl (fun _ hw => run_pickf rfl rfl rfl) (⟨hm183.at 1 rfl, ((hm183.see 5 rfl))⟩) ?_
  simp only [nz]
  refine one_ready 50 (by kernel_rfl) ?_
  refine opd rfl (wanted_none rfl) (w_value 0 (.bool false) rfl (run_as rfl rfl) ⟨⟨hm183.at 1 rfl, ((hm183.see 5 rfl))⟩, ?_⟩)
  simp only [nz1, nz2]
  refine wpAnyH_done (by kernel_rfl) ?_ _
  refine tj (hK167 _ _ (wp_ret ?_))
  have he193 : awake_m = false := by unfold awake_m; rw [if_pos hs170, if_pos hs171, if_pos hs172, if_pos hs173, if_pos hs176, if_pos hs179, if_pos hs180, if_pos hs181, if_neg hs185] <;> rfl
  exact ⟨rfl, .bool false, res_t rfl rfl, ⟨by (rw [he193]; try rfl), hm183.below⟩⟩
 simp only [nz]
 refine tk 40 78 (.bool true) rfl rfl (fun _ hw => run_pick rfl rfl rfl) (⟨hm183.at 1 rfl, ((hm183.see 5 rfl))⟩) ?_
 simp only [nz]
 refine tk 41 79 (.bool true) rfl rfl (fun _ hw => run_mv rfl rfl) (⟨hm183.at 1 rfl, ((hm183.see 5 rfl))⟩) ?_
 simp only [nz]
 refine Sym.take_at 42 80 (.agg #[v57, v58, J ((awc.1).fuse), .bool ((awc.1).down)]) rfl rfl (by kernel_rfl) (by kernel_rfl) (by kernel_rfl) (fun _ _ _ h => h) rfl (fun _ hw => r_whole hw.1 Tryd.underlying25 rfl (by exact sz_25) rfl rfl) (⟨hm183.at 1 rfl, ((hm183.see 5 rfl))⟩) ?_
 simp only [nz]
 refine one_ready 43 (by kernel_rfl) ?_
 refine opd rfl rfl (m_call hm183 81 (.bool (decide (((0 : Int) ≤ 7 ∧ (7 : Int) ≤ ((((awc.1).safe).length : Nat) : Int) ∧ ((7 : Int) + 60) / 61 + 7 + 2 ≤ ((((((awc.1).safe).length / 4 : Nat)) : Int)))))) rfl (run_fits rfl rfl rfl) (fitsd_any (awc.1) 7 v57 v58 _ (hm183.see 4 rfl) (by omega) (by omega)) (fun w186 hm187 => ?_))
 refine ⟨⟨hm187.at 1 rfl, ((hm187.see 5 rfl))⟩, ?_⟩
 simp only [nz]
 by_cases hs188 : ((0 : Int) ≤ 7 ∧ (7 : Int) ≤ ((((awc.1).safe).length : Nat) : Int) ∧ ((7 : Int) + 60) / 61 + 7 + 2 ≤ ((((((awc.1).safe).length / 4 : Nat)) : Int)))
 rotate_left
 ·rw [show decide (((0 : Int) ≤ 7 ∧ (7 : Int) ≤ ((((awc.1).safe).length : Nat) : Int) ∧ ((7 : Int) + 60) / 61 + 7 + 2 ≤ ((((((awc.1).safe).length / 4 : Nat)) : Int)))) = false from decide_eq_false hs188]
  refine tk 44 82 (.bool false) rfl rfl (fun _ hw => run_pick rfl rfl rfl) (⟨hm187.at 1 rfl, ((hm187.see 5 rfl))⟩) ?_
  simp only [nz]
  refine tk 45 83 (.bool false) rfl rfl (fun _ hw => run_mv rfl rfl) (⟨hm187.at 1 rfl, ((hm187.see 5 rfl))⟩) ?_
  simp only [nz]
  refine skx 46 84 rfl rfl rfl (⟨hm187.at 1 rfl, ((hm187.see 5 rfl))⟩) ?_
  simp only [nz]
  refine skx 47 85 rfl rfl rfl (⟨hm187.at 1 rfl, ((hm187.see 5 rfl))⟩) ?_
  simp only [nz]
  refine skx 48 86 rfl rfl rfl (⟨hm187.at 1 rfl, ((hm187.see 5 rfl))⟩) ?_
  simp only [nz]
  refine tk 49 87 (.bool false) rfl rfl (fun _ hw => run_pickf rfl rfl rfl) (⟨hm187.at 1 rfl, ((hm187.see 5 rfl))⟩) ?_
  simp only [nz]
  refine one_ready 50 (by kernel_rfl) ?_
  refine opd rfl (wanted_none rfl) (w_value 0 (.bool false) rfl (run_as rfl rfl) ⟨⟨hm187.at 1 rfl, ((hm187.see 5 rfl))⟩, ?_⟩)
  simp only [nz1, nz2]
  refine wpAnyH_done (by kernel_rfl) ?_ _
  refine tj (hK167 _ _ (wp_ret ?_))
  have he192 : awake_m = false := by unfold awake_m; rw [if_pos hs170, if_pos hs171, if_pos hs172, if_pos hs173, if_pos hs176, if_pos hs179, if_pos hs180, if_pos hs181, if_pos hs185, if_neg hs188] <;> rfl
  exact ⟨rfl, .bool false, res_t rfl rfl, ⟨by (rw [he192]; try rfl), hm187.below⟩⟩
 rw [show decide (((0 : Int) ≤ 7 ∧ (7 : Int) ≤ ((((awc.1).safe).length : Nat) : Int) ∧ ((7 : Int) + 60) / 61 + 7 + 2 ≤ ((((((awc.1).safe).length / 4 : Nat)) : Int)))) = true from decide_eq_true hs188]
 refine tk 44 82 (.bool true) rfl rfl (fun _ hw => run_pick rfl rfl rfl) (⟨hm187.at 1 rfl, ((hm187.see 5 rfl))⟩) ?_
 simp only [nz]
 refine tk 45 83 (.bool true) rfl rfl (fun _ hw => run_mv rfl rfl) (⟨hm187.at 1 rfl, ((hm187.see 5 rfl))⟩) ?_
 simp only [nz]
 refine Sym.take_at 46 84 (.agg #[v57, v58, J ((awc.1).fuse), .bool ((awc.1).down)]) rfl rfl (by kernel_rfl) (by kernel_rfl) (by kernel_rfl) (fun _ _ _ h => h) rfl (fun _ hw => r_whole hw.1 Tryd.underlying25 rfl (by exact sz_25) rfl rfl) (⟨hm187.at 1 rfl, ((hm187.see 5 rfl))⟩) ?_
 simp only [nz]
 refine one_ready 47 (by kernel_rfl) ?_
 refine opd rfl rfl (m_call hm187 85 (.bool (decide (((0 : Int) ≤ 8 ∧ (8 : Int) ≤ ((((awc.1).safe).length : Nat) : Int) ∧ ((8 : Int) + 60) / 61 + 8 + 2 ≤ ((((((awc.1).safe).length / 4 : Nat)) : Int)))))) rfl (run_fits rfl rfl rfl) (fitsd_any (awc.1) 8 v57 v58 _ (hm187.see 4 rfl) (by omega) (by omega)) (fun w189 hm190 => ?_))
 refine ⟨⟨hm190.at 1 rfl, ((hm190.see 5 rfl))⟩, ?_⟩
 simp only [nz]
 refine Sym.take_at 48 86 (.bool (decide (¬ (((0 : Int) ≤ 8 ∧ (8 : Int) ≤ ((((awc.1).safe).length : Nat) : Int) ∧ ((8 : Int) + 60) / 61 + 8 + 2 ≤ ((((((awc.1).safe).length / 4 : Nat)) : Int))))))) rfl rfl (by kernel_rfl) (by kernel_rfl) (by kernel_rfl) (fun _ _ _ h => h) rfl (fun _ hw => r_notD (((0 : Int) ≤ 8 ∧ (8 : Int) ≤ ((((awc.1).safe).length : Nat) : Int) ∧ ((8 : Int) + 60) / 61 + 8 + 2 ≤ ((((((awc.1).safe).length / 4 : Nat)) : Int)))) rfl rfl) (⟨hm190.at 1 rfl, ((hm190.see 5 rfl))⟩) ?_
 simp only [nz]
 refine tk 49 87 (.bool (decide (¬ (((0 : Int) ≤ 8 ∧ (8 : Int) ≤ ((((awc.1).safe).length : Nat) : Int) ∧ ((8 : Int) + 60) / 61 + 8 + 2 ≤ ((((((awc.1).safe).length / 4 : Nat)) : Int))))))) rfl rfl (fun _ hw => run_pick rfl rfl rfl) (⟨hm190.at 1 rfl, ((hm190.see 5 rfl))⟩) ?_
 simp only [nz]
 refine one_ready 50 (by kernel_rfl) ?_
 refine opd rfl (wanted_none rfl) (w_value 0 (.bool (decide (¬ (((0 : Int) ≤ 8 ∧ (8 : Int) ≤ ((((awc.1).safe).length : Nat) : Int) ∧ ((8 : Int) + 60) / 61 + 8 + 2 ≤ ((((((awc.1).safe).length / 4 : Nat)) : Int))))))) rfl (run_as rfl rfl) ⟨⟨hm190.at 1 rfl, ((hm190.see 5 rfl))⟩, ?_⟩)
 simp only [nz1, nz2]
 refine wpAnyH_done (by kernel_rfl) ?_ _
 refine tj (hK167 _ _ (wp_ret ?_))
 have he191 : awake_m = (decide (¬ (((0 : Int) ≤ 8 ∧ (8 : Int) ≤ ((((awc.1).safe).length : Nat) : Int) ∧ ((8 : Int) + 60) / 61 + 8 + 2 ≤ ((((((awc.1).safe).length / 4 : Nat)) : Int)))))) := by unfold awake_m; rw [if_pos hs170, if_pos hs171, if_pos hs172, if_pos hs173, if_pos hs176, if_pos hs179, if_pos hs180, if_pos hs181, if_pos hs185, if_pos hs188] <;> rfl
 exact ⟨rfl, .bool (decide (¬ (((0 : Int) ≤ 8 ∧ (8 : Int) ≤ ((((awc.1).safe).length : Nat) : Int) ∧ ((8 : Int) + 60) / 61 + 8 + 2 ≤ ((((((awc.1).safe).length / 4 : Nat)) : Int)))))), res_t rfl rfl, ⟨by (rw [he191]; try rfl), hm190.below⟩⟩
theorem run_awake {o : Oper} {a : Act} {w : World} (ho : o.op = .call { callee := .value (.func 12), args := #[], argTypes := #[] })  :
  (execOp a.eval o).run Tryd.prog w = .ok (.enter 12 #[]) w := by
 unfold execOp
 simp only [ho]
 have hf : a.eval (.func 12) = .func (.func 12) #[] #[] := rfl
 generalize a.eval = f at *
 go_simp
end Go.Proofs.YtnmaaijeamlplaaDoor.Bk
namespace Go.Proofs.YtnmaaijeamlplaaDoor.Bk
open Go.RowKit Go.Proofs.YtnmaaijeamlplaaDoor.Mem
theorem awake_true : awake_m = true := by decide +kernel
end Go.Proofs.YtnmaaijeamlplaaDoor.Bk
