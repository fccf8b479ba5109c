import Derived.Test.YtnmaaijeamlplaaDoorReF
set_option linter.unusedVariables false
set_option linter.unusedSimpArgs false
set_option maxHeartbeats 4000000
set_option maxRecDepth 100000
namespace Go.Proofs.YtnmaaijeamlplaaDoor.Bk
open Go.RowKit Go.Proofs.YtnmaaijeamlplaaDoor.Mem
theorem log_eq (d : Dk) : log_m d = (((d.safe.length / 4 : Nat)) : Int) := log_is d
def FitsP (d : Dk) (n : Int) : Prop := 0 ≤ n ∧ n ≤ ((d.safe.length : Nat) : Int) ∧ (n + 60) / 61 + n + 2 ≤ (((d.safe.length / 4 : Nat)) : Int)
instance (d : Dk) (n : Int) : Decidable (FitsP d n) := by unfold FitsP; infer_instance
theorem fits_is (d : Dk) (n : Int) : fits_m d n = decide (FitsP d n) := by
 unfold fits_m FitsP
 rw [lists_is, log_is]
 by_cases h1 : 0 ≤ n
 ·rw [if_pos h1]
  by_cases h2 : n ≤ ((d.safe.length : Nat) : Int)
  ·rw [if_pos h2]
   exact decide_eq_decide.2 ⟨fun h => ⟨h1, h2, h⟩, fun h => h.2.2⟩
  rw [if_neg h2]
  exact (decide_eq_false (fun h => h2 h.2.1)).symm
 rw [if_neg h1]
 exact (decide_eq_false (fun h => h1 h.1)).symm
theorem fitsd_any (d : Dk) (n : Int) (dv0 : Value) (dv1 : Value) (w : World) (hd : DkR d dv0 dv1 w) (hp0 : d.safe.length ≤ 8796093022208) (hp1 : d.loose.length ≤ 5864070000000) : Calls Tryd.prog 15 #[.agg #[dv0, dv1, J (d.fuse), .bool (d.down)], J n] w (fun e w' => e = .returned (.bool (decide (0 ≤ n ∧ n ≤ ((d.safe.length : Nat) : Int) ∧ (n + 60) / 61 + n + 2 ≤ (((d.safe.length / 4 : Nat)) : Int)))) ∧ Below w.heap.size w w') := by
 have h := fits_any d n dv0 dv1 w hd hp0 hp1
 rw [fits_is] at h
 have e : decide (FitsP d n) = decide (0 ≤ n ∧ n ≤ ((d.safe.length : Nat) : Int) ∧ (n + 60) / 61 + n + 2 ≤ (((d.safe.length / 4 : Nat)) : Int)) := decide_eq_decide.2 Iff.rfl
 rwa [e] at h
theorem few_of {d : Dk} (h : ¬ (!(right_m d)) = true) : d.safe.length ≤ 2048 := by
 have h1 : right_m d = true := by
  cases h2 : right_m d with
  | true => rfl
  | false => rw [h2] at h; exact absurd rfl h
 exact ((right_iff d).1 h1).2.1
theorem eight_of {d : Dk} (h : ¬ (!(right_m d)) = true) : 8 ≤ d.safe.length := by
 have h1 : right_m d = true := by
  cases h2 : right_m d with
  | true => rfl
  | false => rw [h2] at h; exact absurd rfl h
 have := ((right_iff d).1 h1).1
 omega
def nums : List Wr → List UInt8
 | [] => []
 | x :: l => number_m x.at_ 4 ++ nums l
theorem body_in (epoch : Int) (l : List Wr) (a : List (List UInt8)) (x : Nat) (L : List Wr) (hL : (l.take (min (x + 61) l.length)).drop x = L) : ∀ k (s : List UInt8) i, L.length ≤ i + k → i ≤ L.length → body_m_l1 epoch l a x (k + 1) (s, i) = .inl (s ++ nums (L.drop i), L.length)
 | k, s, i, h, hi => by
  have E : body_m_l1 epoch l a x (k + 1) (s, i) = body_m_b1 epoch l a x (body_m_l1 epoch l a x k) s i := rfl
  rw [E]
  unfold body_m_b1 QeF1
  rw [hL]
  by_cases h1 : i < L.length
  ·rw [if_pos h1, getd_drop dWr L i h1]
   match k, h with
   | 0, h => omega
   | k + 1, h =>
    rw [body_in epoch l a x L hL k _ (i + 1) (by omega) (by omega), List.append_assoc]
    rfl
  rw [if_neg h1, List.drop_eq_nil_of_le (by omega), show i = L.length by omega]
  show _ = Sum.inl (s ++ [], _)
  rw [List.append_nil]
def heads (hd : List UInt8) (l : List Wr) : Nat → Nat → List (List UInt8)
 | 0, _ => []
 | k + 1, i => if i < l.length then fill_m (hd ++ nums ((l.take (min (i + 61) l.length)).drop i)) :: heads hd l k (i + 61) else []
theorem body_out (epoch : Int) (l : List Wr) : ∀ k (a : List (List UInt8)) i, l.length ≤ i + k → ∃ j, body_m_l0 epoch l (k + 1) (a, i) = .inl (a ++ heads (number_m epoch 8 ++ number_m ((l.length : Nat) : Int) 4) l (k + 1) i, j)
 | k, a, i, h => by
  have E : body_m_l0 epoch l (k + 1) (a, i) = body_m_b0 epoch l (body_m_l0 epoch l k) a i := rfl
  rw [E]
  unfold body_m_b0
  by_cases h1 : i < l.length
  ·rw [if_pos h1, body_in epoch l a i _ rfl _ _ 0 (by omega) (Nat.zero_le _)]
   match k, h with
   | 0, h => omega
   | k + 1, h =>
    show ∃ j, body_m_l0 epoch l (k + 1) (_, i + 61) = _
    obtain ⟨j, e⟩ := body_out epoch l k (a ++ [fill_m ((number_m epoch 8 ++ number_m (l.length : Int) 4) ++ nums (((l.take (min (i + 61) l.length)).drop i).drop 0))]) (i + 61) (by omega)
    refine ⟨j, ?_⟩
    rw [e, List.drop_zero, List.append_assoc]
    show _ = Sum.inl (a ++ (if i < l.length then _ else _), _)
    rw [if_pos h1]
    rfl
  rw [if_neg h1]
  refine ⟨i, ?_⟩
  show _ = Sum.inl (a ++ (if i < l.length then _ else _), _)
  rw [if_neg h1, List.append_nil]
theorem body_data (epoch : Int) (l : List Wr) (y20 : List (List UInt8)) (y22 : Nat) : ∀ k (a : List (List UInt8)) i, l.length ≤ i + k → i ≤ l.length → body_m_l2 epoch l y20 y22 (k + 1) (a, i) = .inl (a ++ (l.drop i).map Wr.data, l.length)
 | k, a, i, h, hi => by
  have E : body_m_l2 epoch l y20 y22 (k + 1) (a, i) = body_m_b2 epoch l y20 y22 (body_m_l2 epoch l y20 y22 k) a i := rfl
  rw [E]
  unfold body_m_b2
  by_cases h1 : i < l.length
  ·rw [if_pos h1, getd_drop dWr l i h1]
   match k, h with
   | 0, h => omega
   | k + 1, h =>
    rw [body_data epoch l y20 y22 k _ (i + 1) (by omega) (by omega), List.append_assoc]
    rfl
  rw [if_neg h1, List.drop_eq_nil_of_le (by omega), show i = l.length by omega]
  show _ = Sum.inl (a ++ [], _)
  rw [List.append_nil]
theorem body_is (epoch : Int) (l : List Wr) : body_m epoch l = heads (number_m epoch 8 ++ number_m ((l.length : Nat) : Int) 4) l (l.length + 1) 0 ++ l.map Wr.data := by
 obtain ⟨j, e⟩ := body_out epoch l (l.length - 0) [] 0 (by omega)
 unfold body_m
 rw [e]
 show body_m_k0 epoch l _ j = _
 unfold body_m_k0
 rw [body_data epoch l _ j (l.length - 0) _ 0 (by omega) (Nat.zero_le _)]
 show ([] ++ heads _ l (l.length - 0 + 1) 0) ++ (l.drop 0).map Wr.data = _
 rw [List.nil_append, List.drop_zero, Nat.sub_zero]
theorem nums_len : ∀ l : List Wr, (nums l).length = 4 * l.length
 | [] => rfl
 | x :: l => by
  have := number_len x.at_ 4 (by decide) (by decide)
  have ih := nums_len l
  show (number_m x.at_ 4 ++ nums l).length = _
  rw [List.length_append, List.length_cons]
  omega
theorem heads_len (hd : List UInt8) (l : List Wr) : ∀ k i, l.length ≤ i + k → i ≤ l.length + 60 → (heads hd l (k + 1) i).length = (l.length - i + 60) / 61
 | k, i, h, hi => by
  show (if i < l.length then _ else _ : List (List UInt8)).length = _
  by_cases h1 : i < l.length
  ·rw [if_pos h1, List.length_cons]
   match k, h with
   | 0, h => omega
   | k + 1, h =>
    rw [heads_len hd l k (i + 61) (by omega) (by omega)]
    omega
  rw [if_neg h1, List.length_nil]
  omega
theorem heads_all (hd : List UInt8) (hh : hd.length = 12) (l : List Wr) : ∀ k i, ∀ s ∈ heads hd l k i, s.length = 256
 | 0, i, s, hs => by cases hs
 | k + 1, i, s, hs => by
  have hs : s ∈ (if i < l.length then fill_m (hd ++ nums ((l.take (min (i + 61) l.length)).drop i)) :: heads hd l k (i + 61) else []) := hs
  by_cases h1 : i < l.length
  ·rw [if_pos h1] at hs
   rcases List.mem_cons.1 hs with rfl | hs
   ·refine rfill_len _ ?_
    rw [List.length_append, nums_len, List.length_drop, List.length_take]
    omega
   exact heads_all hd hh l k _ s hs
  rw [if_neg h1] at hs; cases hs
theorem body_len (epoch : Int) (l : List Wr) : (body_m epoch l).length = (l.length + 60) / 61 + l.length := by
 rw [body_is, List.length_append, heads_len _ l l.length 0 (by omega) (Nat.zero_le _), List.length_map]
 rfl
theorem sized_l (l : List Wr) : ∀ k i, l.length ≤ i + k → i ≤ l.length → fin (sized_m_l0 l (k + 1) i) (fun r => r) (fun zz => sized_m_k0 l zz) = (l.drop i).all (fun x => decide (x.data.length = 256))
 | k, i, h, hi => by
  have E : sized_m_l0 l (k + 1) i = sized_m_b0 l (sized_m_l0 l k) i := rfl
  rw [E]
  unfold sized_m_b0
  by_cases h1 : i < l.length
  ·rw [if_pos h1, getd_drop dWr l i h1, List.all_cons]
   match k, h with
   | 0, h => omega
   | k + 1, h =>
    by_cases h2 : (l.getD i dWr).data.length = 256
    ·rw [if_neg (fun c => c h2), decide_eq_true h2, Bool.true_and]
     exact sized_l l k (i + 1) (by omega) (by omega)
    rw [if_pos h2, decide_eq_false h2, Bool.false_and]
    rfl
  rw [if_neg h1, List.drop_eq_nil_of_le (by omega)]
  rfl
theorem sized_is (l : List Wr) : sized_m l = l.all (fun x => decide (x.data.length = 256)) := sized_l l (l.length - 0) 0 (by omega) (Nat.zero_le _)
theorem sized_of {l : List Wr} (h : ¬ (!(sized_m l)) = true) : ∀ x ∈ l, x.data.length = 256 := by
 have h1 : sized_m l = true := by
  cases h2 : sized_m l with
  | true => rfl
  | false => rw [h2] at h; exact absurd rfl h
 rw [sized_is, List.all_eq_true] at h1
 exact fun x hx => of_decide_eq_true (h1 x hx)
theorem body_all (epoch : Int) (l : List Wr) (h : ∀ x ∈ l, x.data.length = 256) : ∀ s ∈ body_m epoch l, s.length = 256 := by
 intro s hs
 rw [body_is] at hs
 rcases List.mem_append.1 hs with hs | hs
 ·refine heads_all _ ?_ l _ _ s hs
  have a := number_len epoch 8 (by decide) (by decide)
  have b := number_len ((l.length : Nat) : Int) 4 (by decide) (by decide)
  rw [List.length_append]
  omega
 obtain ⟨x, hx, rfl⟩ := List.mem_map.1 hs
 exact h x hx
theorem join_nil : ∀ l : List (List UInt8), join_m l [] = l.flatten
 | [] => rfl
 | [a] => by simp [join_m, Lib.join]
 | a :: b :: l => by
  have ih := join_nil (b :: l)
  have e : join_m (a :: b :: l) [] = a ++ ([] ++ join_m (b :: l) []) := by simp [join_m, Lib.join]
  rw [e, ih]
  rfl
theorem join_len (l : List (List UInt8)) (h : ∀ s ∈ l, s.length = 256) : (join_m l []).length = 256 * l.length := by
 rw [join_nil]
 induction l with
 | nil => rfl
 | cons a l ih =>
  rw [List.flatten_cons, List.length_append, h a List.mem_cons_self, ih (fun s hs => h s (List.mem_cons_of_mem _ hs)), List.length_cons]
  omega
theorem body_join {d : Dk} {epoch : Int} {l : List Wr} (h1 : ¬ (!(right_m d)) = true) (h2 : ¬ (!(sized_m l)) = true) (h3 : FitsP d ((l.length : Nat) : Int)) : (join_m (body_m epoch l) []).length ≤ 250000 := by
 rw [join_len _ (body_all epoch l (sized_of h2)), body_len]
 have := few_of h1
 unfold FitsP at h3
 omega
end Go.Proofs.YtnmaaijeamlplaaDoor.Bk
namespace Go.Proofs.YtnmaaijeamlplaaDoor.Bk
open Go.RowKit
open Go.Proofs.YtnmaaijeamlplaaDoor.Sym Go.Proofs.YtnmaaijeamlplaaDoor.Mem
open Go.Proofs.YtnmaaijeamlplaaDoor.Sx hiding Mm m_alloc m_store m_call m_callx
attribute [local irreducible] right_m rright_m ready_m rready_m copied_m burn_m put_m get_m flush_m spent_m rput_m rget_m rflush_m blank_m rnew_m same_m
attribute [local irreducible] number_m value_m fill_m beginning_m log_m fits_m lists_m epoch_m
attribute [local irreducible] home_m putall_m
attribute [local irreducible] putfl_m body_m rise_m sized_m current_m join_m sum_m
attribute [local irreducible] wpList Oper.wp
theorem ats_of {l : List Wr} (h : ∀ x ∈ l, -1000000 ≤ x.at_ ∧ x.at_ ≤ 1000000) (i : Nat) (hi : i < l.length) : -1000000 ≤ (l.getD i dWr).at_ ∧ (l.getD i dWr).at_ ≤ 1000000 := by
 rw [List.getD_eq_getElem?_getD, List.getElem?_eq_getElem hi]
 exact h _ (List.getElem_mem hi)
theorem beginning_len (epoch : Int) : (beginning_m epoch).length = 256 := by
 have := number_len epoch 8 (by decide) (by decide)
 unfold beginning_m
 exact rfill_len _ (by rw [List.length_append]; simp only [List.length_cons, List.length_nil]; omega)
def format_m_b0 (d : Dk) (rec : Nat × (List (List UInt8)) → Sum (Nat × (List (List UInt8))) (Dk × Int)) (x28 : Nat) (l29 : List (List UInt8)) : Sum (Nat × (List (List UInt8))) (Dk × Int) :=
 if x28 < (List.replicate ((log_m d).toNat) ([] : List UInt8)).length then
  rec ((x28 + 1), (l29.set x28 (fill_m ([]))))
 else
  .inl (x28, l29)
def format_m_l0 (d : Dk) : Nat → Nat × (List (List UInt8)) → Sum (Nat × (List (List UInt8))) (Dk × Int)
 | 0, zz => .inl zz
 | nq + 1, zz => format_m_b0 d (format_m_l0 d nq) zz.1 zz.2
def format_m_k0 (d : Dk) (y33 : Nat) (y34 : List (List UInt8)) : Dk × Int :=
 (((putfl_m d 0 (y34.set 0 (beginning_m 1))).1), (putfl_m d 0 (y34.set 0 (beginning_m 1))).2)
def format_m (d : Dk) : Dk × Int :=
 if (!(right_m d)) = true then
  (d, 1)
 else
  fin (format_m_l0 d (((List.replicate ((log_m d).toNat) ([] : List UInt8)).length - 0) + 1) (0, (List.replicate ((log_m d).toNat) ([] : List UInt8)))) (fun r => r) (fun zz => format_m_k0 d zz.1 zz.2)
theorem format_any (d : Dk) (dv0 : Value) (dv1 : Value) (S : Nat → Prop) (w : World) (hd : From S (DkR d dv0 dv1) w) (hp0 : d.safe.length ≤ 8796093021952) (hp1 : d.loose.length ≤ 5864063000000) (hp2 : d.fuse ≤ 9223372036854775807) : Calls Tryd.prog 18 #[.agg #[dv0, dv1, J (d.fuse), .bool (d.down)]] w (fun e w' => (∃ v, e = .returned v ∧ ∃ (o0 : Value) (o1 : Value), v = .tuple #[.agg #[o0, o1, J (((format_m d).1).fuse), .bool (((format_m d).1).down)], J ((format_m d).2)] ∧ Gives w w' S (DkR ((format_m d).1) o0 o1)) ∧ Below w.heap.size w w') := by
 go_enter Tryd.func18, Tryd.ntmps18
 have hm00 := Mm.nil none S w
 obtain ⟨Fd, hm01⟩ := hm00.come hd
 have hm0 := hm01
 refine wk (fun K1 hK1 => (wq ?_))
 refine lst rfl (m_alloc (c := #[dv0, dv1, J (d.fuse), .bool (d.down)]) (T := 25) hm0 1 rfl (run_box rfl rfl) (fun g4 w2 hm3 => ?_))
 simp only [nz]
 refine lst rfl (m_alloc (c := #[.slice none 0 0, .slice none 0 0, J 0, .bool false]) (T := 25) hm3 2 rfl (by unfold execOp; go_simp; try rfl) (fun g7 w5 hm6 => ?_))
 simp only [nz]
 refine la 3 (J 0) ?_
 simp only [nz]
 refine wn (tj (hK1 _ _ (wk (fun K8 hK8 => (wk (fun K9 hK9 => (wq ?_)))))))
 refine lw 6 (.agg #[dv0, dv1, J (d.fuse), .bool (d.down)]) (r_whole (hm6.at 1 rfl) Tryd.underlying25 rfl (by exact sz_25) rfl rfl) ?_
 simp only [nz]
 refine lst rfl (m_call hm6 7 (.bool ((right_m d))) rfl (run_right rfl rfl) (right_any d dv0 dv1 _ (hm6.see 0 rfl) (by omega)) (fun w10 hm11 => ?_))
 simp only [nz]
 refine lw 8 (.bool (!(right_m d))) (r_not (right_m d) rfl rfl) ?_
 simp only [nz]
 refine wn (tj (hK9 _ _ ?_))
 refine cond_B (!(right_m d)) rfl (fun hc12 => ?_) (fun hc12 => ?_)
 ·refine wk (fun K13 hK13 => (wq ?_))
  refine lw 9 (.agg #[dv0, dv1, J (d.fuse), .bool (d.down)]) (r_whole (hm11.at 1 rfl) Tryd.underlying25 rfl (by exact sz_25) rfl rfl) ?_
  simp only [nz]
  have ho16 := (rd_one ((hm11.see 0 rfl).1))
  have ho17 := (rd_one ((hm11.see 0 rfl).2))
  refine lst rfl (m_store 2 25 _ _ 0 (.agg #[dv0, dv1, J (d.fuse), .bool (d.down)]) (old := #[.slice none 0 0, .slice none 0 0, J 0, .bool false]) (new := #[dv0, dv1, J (d.fuse), .bool (d.down)]) hm11 rfl rfl rfl rfl rfl (by exact sz_25) (show 0 + 4 ≤ 4 from by decide) a4 rfl (fun w14 hm15 => ?_))
  refine la 3 (J 1) ?_
  simp only [nz]
  refine wn (tj (hK13 _ _ (wp_ret (then_r ?_))))
  have he18 : format_m d = (d, 1) := by unfold format_m; rw [if_pos hc12] <;> rfl
  exact ⟨rfl, .tuple #[.agg #[dv0, dv1, J (d.fuse), .bool (d.down)], J 1], Mem.res_ct rfl rfl (hm15.at 2 rfl) Tryd.underlying25 rfl (by exact sz_25) rfl, ⟨⟨_, rfl, dv0, dv1, (by rw [he18]), by rw [he18]; exact hm15.give (hm15.from 0 rfl)⟩, hm15.below⟩⟩
 refine wp_skip (tj (hK8 _ _ (wk (fun K19 hK19 => (wq ?_)))))
 refine lw 10 (.agg #[dv0, dv1, J (d.fuse), .bool (d.down)]) (r_whole (hm11.at 1 rfl) Tryd.underlying25 rfl (by exact sz_25) rfl rfl) ?_
 simp only [nz]
 refine lst rfl (m_call hm11 11 (J ((log_m d))) rfl (run_log rfl rfl) (log_any d dv0 dv1 _ (hm11.see 0 rfl) (by omega) (by omega)) (fun w20 hm21 => ?_))
 have hf22 : (log_m d) = (((d.safe.length / 4 : Nat)) : Int) := log_is d
 simp only [nz]
 obtain ⟨iq, hiq, hz1, hz2, hz3⟩ := inf_9
 refine lst rfl (m_makeR (enc := eS) (size := 1) ((log_m d).toNat) ([] : List UInt8) iq _ hm21 12 rfl rfl Tryd.underlying22 hiq hz1 hz2 hz3 eS_len rfl (show (J (log_m d)) = J (((log_m d).toNat : Nat) : Int) from by congr 1; omega) (show (J (log_m d)) = J (((log_m d).toNat : Nat) : Int) from by congr 1; omega) (by omega) (by omega) (fun v25 w23 hm24 => ?_))
 simp only [nz]
 refine la 4 (v25) ?_
 simp only [nz]
 refine wn (tj (hK19 _ _ (wk (fun K26 hK26 => (wk (fun K27 hK27 => (wq ?_)))))))
 refine lm 13 (v25) ?_
 refine lw 14 (J (((List.replicate ((log_m d).toNat) ([] : List UInt8)).length : Nat) : Int)) (s_len (Rs.row (hm24.row 3 rfl)) rfl Tryd.underlying22 rfl) ?_
 refine lm 15 (J 0) ?_
 simp only [nz]
 refine wn (tj (hK27 _ _ ?_))
 refine wp_cutK (fun a' w' => ∃ (y33 : Nat) (y34 : List (List UInt8)) (yu0 : Nat → Value), format_m_l0 d (((List.replicate ((log_m d).toNat) ([] : List UInt8)).length - 0) + 1) (0, (List.replicate ((log_m d).toNat) ([] : List UInt8))) = .inl (y33, y34) ∧ ((List.replicate (log_m d).toNat ([] : List UInt8)).length = (log_m d).toNat) ∧ (log_m d = (((d.safe.length / 4 : Nat)) : Int)) ∧ (y34.length = d.safe.length / 4 ∧ y33 ≤ d.safe.length / 4) ∧ a' = ⟨#[.agg #[dv0, dv1, J (d.fuse), .bool (d.down)], Pp g4 0, Pp g7 0, J 0, v25, yu0 0, .agg #[dv0, dv1, J (d.fuse), .bool (d.down)], .bool ((right_m d)), .bool (!(right_m d)), undef, .agg #[dv0, dv1, J (d.fuse), .bool (d.down)], J ((log_m d)), v25, v25, J (((List.replicate ((log_m d).toNat) ([] : List UInt8)).length : Nat) : Int), J (y33 : Int), yu0 1, yu0 2, yu0 3, yu0 4, yu0 5, yu0 6, yu0 7, undef, undef, undef, undef, undef, undef, undef, undef], []⟩ ∧ Mm none S w w' [.see (DkR d dv0 dv1) Fd, .blk g4 #[dv0, dv1, J (d.fuse), .bool (d.down)] 25, .blk g7 #[.slice none 0 0, .slice none 0 0, J 0, .bool false] 25, .row v25 y34.length (y34.flatMap eS) 9 1]) ?_ ?_
 ·refine wp_block ?_
  refine wp_loop_n (fun n' a' w' => ∃ (n30 : Nat) (x28 : Nat) (l29 : List (List UInt8)) (u0 : Nat → Value), n' = n30 ∧ ((List.replicate ((log_m d).toNat) ([] : List UInt8)).length - x28) < n30 ∧ format_m_l0 d (((List.replicate ((log_m d).toNat) ([] : List UInt8)).length - 0) + 1) (0, (List.replicate ((log_m d).toNat) ([] : List UInt8))) = format_m_l0 d n30 (x28, l29) ∧ ((List.replicate (log_m d).toNat ([] : List UInt8)).length = (log_m d).toNat) ∧ (log_m d = (((d.safe.length / 4 : Nat)) : Int)) ∧ (l29.length = d.safe.length / 4 ∧ x28 ≤ d.safe.length / 4) ∧ a' = ⟨#[.agg #[dv0, dv1, J (d.fuse), .bool (d.down)], Pp g4 0, Pp g7 0, J 0, v25, u0 0, .agg #[dv0, dv1, J (d.fuse), .bool (d.down)], .bool ((right_m d)), .bool (!(right_m d)), undef, .agg #[dv0, dv1, J (d.fuse), .bool (d.down)], J ((log_m d)), v25, v25, J (((List.replicate ((log_m d).toNat) ([] : List UInt8)).length : Nat) : Int), J (x28 : Int), u0 1, u0 2, u0 3, u0 4, u0 5, u0 6, u0 7, undef, undef, undef, undef, undef, undef, undef, undef], []⟩ ∧ Mm none S w w' [.see (DkR d dv0 dv1) Fd, .blk g4 #[dv0, dv1, J (d.fuse), .bool (d.down)] 25, .blk g7 #[.slice none 0 0, .slice none 0 0, J 0, .bool false] 25, .row v25 l29.length (l29.flatMap eS) 9 1]) ⟨(((List.replicate ((log_m d).toNat) ([] : List UInt8)).length - 0) + 1), 0, (List.replicate ((log_m d).toNat) ([] : List UInt8)), (fun qq => List.getD [undef, undef, undef, undef, undef, undef, undef, undef] qq undef), rfl, Nat.lt_succ_self _, rfl, List.length_replicate, (log_is d), ⟨by rw [List.length_replicate]; omega, by omega⟩, rfl, hm24⟩ ?_
  rintro n30 _ w36 ⟨_, x28, l29, u0, rfl, hl40, hi32, hrl, hlg, hfo, rfl, hm37⟩ R38 hR38
  obtain ⟨k31, rfl⟩ : ∃ k, n30 = k + 1 := ⟨n30 - 1, by omega⟩
  refine wk (fun K41 hK41 => (wq ?_))
  refine lw 16 (.bool (decide (x28 < (List.replicate ((log_m d).toNat) ([] : List UInt8)).length))) (r_lss x28 ((List.replicate ((log_m d).toNat) ([] : List UInt8)).length) rfl rfl rfl) ?_
  simp only [nz]
  refine wn (tj (hK41 _ _ (wk (fun K42 hK42 => ?_))))
  refine cond_d (x28 < (List.replicate ((log_m d).toNat) ([] : List UInt8)).length) rfl (fun hc43 => ?_) (fun hc43 => ?_)
  rotate_left
  ·refine wp_exit (then_x (then_x (blk_x ?_)))
   refine tj ?_
   exact ⟨x28, l29, (fun qq => List.getD [u0 0, .bool (decide (x28 < (List.replicate ((log_m d).toNat) ([] : List UInt8)).length)), u0 2, u0 3, u0 4, u0 5, u0 6, u0 7] qq undef), (hi32.trans (show format_m_b0 d (format_m_l0 d k31) x28 l29 = .inl (x28, l29) from by unfold format_m_b0; rw [if_neg hc43] <;> rfl)), hrl, hlg, (by omega), rfl, hm37⟩
  refine wp_skip (tj (hK42 _ _ (wk (fun K44 hK44 => ?_))))
  refine wp_block ?_
  refine wk (fun K45 hK45 => (wq ?_))
  refine lm 17 (J (x28 : Int)) ?_
  refine la 5 (J (x28 : Int)) ?_
  simp only [nz]
  refine wn (tj (hK45 _ _ (wq ?_)))
  refine lm 18 (v25) ?_
  refine lm 19 (J (x28 : Int)) ?_
  simp only [nz]
  refine lst rfl (m_call hm37 20 (.string (tx (fill_m ([])))) rfl (run_fill rfl rfl) (fill_any ([])  _  (by simp; done)) (fun w46 hm47 => ?_))
  have hf48 : (fill_m ([])).length = 256 := rfill_len ([]) (by simp; done)
  simp only [nz]
  refine lw 21 (.pointer (some ⟨(bk v25), (po v25 + x28 * 1), none⟩)) (r_ixv (Rs.row (hm47.row 3 rfl)) x28 (by omega) Tryd.underlying22 sz_9 rfl rfl rfl) ?_
  simp only [nz]
  refine lst rfl (m_setR 3 (l := l29) x28 (fill_m ([])) (.string (tx (fill_m ([])))) hm47 rfl rfl rfl (by have h8 := eight_of (d := d) (by assumption); omega) rfl rfl sz_9 eS_len rfl rfl (fun w49 hm50 => ?_))
  refine wn (blk_n (tj (hK44 _ _ (wq ?_))))
  refine lw 22 (J (((x28 + 1) : Nat) : Int)) (r_add x28 1 (show (x28 + 1) < 9223372036854775808 from by omega) rfl rfl rfl) ?_
  refine lm 15 (J (((x28 + 1) : Nat) : Int)) ?_
  simp only [nz]
  refine wn ?_
  refine tj (hR38 _ _ _ ⟨k31, (x28 + 1), (l29.set x28 (fill_m ([]))), (fun qq => List.getD [J (x28 : Int), .bool (decide (x28 < (List.replicate ((log_m d).toNat) ([] : List UInt8)).length)), J (x28 : Int), v25, J (x28 : Int), .string (tx (fill_m ([]))), .pointer (some ⟨(bk v25), (po v25 + x28 * 1), none⟩), J (((x28 + 1) : Nat) : Int)] qq undef), rfl, (by omega), (hi32.trans (show format_m_b0 d (format_m_l0 d k31) x28 l29 = format_m_l0 d k31 ((x28 + 1), (l29.set x28 (fill_m ([])))) from by unfold format_m_b0; rw [if_pos hc43] <;> rfl)), hrl, hlg, (by (try rw [List.length_set]); omega), rfl, hm50⟩ ?_)
  omega
 rintro _ w51 ⟨y33, y34, yu0, hx35, hrl, hlg, hfo, rfl, hm52⟩
 have hq53 : format_m d = format_m_k0 d y33 y34 := (show format_m d = format_m_k0 d y33 y34 from by unfold format_m; rw [if_neg hc12, hx35] <;> rfl)
 refine tj (hK26 _ _ (wk (fun K54 hK54 => (wq ?_))))
 refine lm 23 (v25) ?_
 simp only [nz]
 refine lst rfl (m_call hm52 24 (.string (tx (beginning_m 1))) rfl (run_beginning rfl rfl) (beginning_any 1  _  ) (fun w55 hm56 => ?_))
 have hf57 : (beginning_m 1).length = 256 := beginning_len 1
 simp only [nz]
 refine lw 25 (.pointer (some ⟨(bk v25), (po v25 + 0 * 1), none⟩)) (r_ixv (Rs.row (hm56.row 3 rfl)) 0 (by have h8 := eight_of (d := d) (by assumption); omega) Tryd.underlying22 sz_9 rfl rfl rfl) ?_
 simp only [nz]
 refine lst rfl (m_setR 3 (l := y34) 0 (beginning_m 1) (.string (tx (beginning_m 1))) hm56 rfl rfl rfl (by have h8 := eight_of (d := d) (by assumption); omega) rfl rfl sz_9 eS_len rfl rfl (fun w58 hm59 => ?_))
 refine wn (tj (hK54 _ _ (wk (fun K60 hK60 => (wq ?_)))))
 refine lw 26 (.agg #[dv0, dv1, J (d.fuse), .bool (d.down)]) (r_whole (hm59.at 1 rfl) Tryd.underlying25 rfl (by exact sz_25) rfl rfl) ?_
 refine lm 27 (v25) ?_
 simp only [nz]
 have hm63 : Mm none S w w58 [.see (DkR d dv0 dv1) Fd, .blk g4 #[dv0, dv1, J (d.fuse), .bool (d.down)] 25, .blk g7 #[.slice none 0 0, .slice none 0 0, J 0, .bool false] 25, .see (Rs eS 1 (y34.set 0 (beginning_m 1)) v25) (fp v25 ((y34.set 0 (beginning_m 1)).flatMap eS))] := hm59.freeze 3 rfl
 refine lst rfl (m_callx hm63 28 rfl (run_putfl rfl rfl rfl rfl) (putfl_any d 0 (y34.set 0 (beginning_m 1)) dv0 dv1 v25 (seeS _) _ (hm63.from 0 rfl) (hm63.from 3 rfl) (by omega) (by omega) (by omega) (by have h2048 := few_of (d := d) (by assumption); first | omega | (rw [List.length_set]; omega)) (by omega) (by omega)) (fun vv68 w61 hR69 hb70 hm62 => ?_))
 obtain ⟨v64, v65, rfl, hg71⟩ := hR69
 obtain ⟨F67, hm72⟩ : ∃ F67, Mm none S w w61 [.see (DkR d dv0 dv1) Fd, .blk g4 #[dv0, dv1, J (d.fuse), .bool (d.down)] 25, .blk g7 #[.slice none 0 0, .slice none 0 0, J 0, .bool false] 25, .see (Rs eS 1 (y34.set 0 (beginning_m 1)) v25) (fp v25 ((y34.set 0 (beginning_m 1)).flatMap eS)), .see (DkR ((putfl_m d 0 (y34.set 0 (beginning_m 1))).1) v64 v65) F67] := Mm.tookS hm63 hb70 hg71
 clear hm62 hg71 hb70
 have hf73 : (putfl_m d 0 (y34.set 0 (beginning_m 1))).1.safe.length = d.safe.length := (putfl_near d 0 (y34.set 0 (beginning_m 1))).1
 have hf74 : (putfl_m d 0 (y34.set 0 (beginning_m 1))).1.loose.length ≤ d.loose.length + ((y34.set 0 (beginning_m 1)) : List (List UInt8)).length := (putfl_near d 0 (y34.set 0 (beginning_m 1))).2.1
 have hf75 : (putfl_m d 0 (y34.set 0 (beginning_m 1))).1.fuse ≤ 9223372036854775807 := (putfl_near d 0 (y34.set 0 (beginning_m 1))).2.2 (show d.fuse ≤ 9223372036854775807 from (by omega))
 simp only [nz]
 refine lw 29 (.agg #[v64, v65, J (((putfl_m d 0 (y34.set 0 (beginning_m 1))).1).fuse), .bool (((putfl_m d 0 (y34.set 0 (beginning_m 1))).1).down)]) (run_ex rfl rfl rfl) ?_
 refine lw 30 (J ((putfl_m d 0 (y34.set 0 (beginning_m 1))).2)) (run_ex rfl rfl rfl) ?_
 simp only [nz]
 have ho78 := (rd_one ((hm72.see 4 rfl).1))
 have ho79 := (rd_one ((hm72.see 4 rfl).2))
 refine lst rfl (m_store 2 25 _ _ 0 (.agg #[v64, v65, J (((putfl_m d 0 (y34.set 0 (beginning_m 1))).1).fuse), .bool (((putfl_m d 0 (y34.set 0 (beginning_m 1))).1).down)]) (old := #[.slice none 0 0, .slice none 0 0, J 0, .bool false]) (new := #[v64, v65, J (((putfl_m d 0 (y34.set 0 (beginning_m 1))).1).fuse), .bool (((putfl_m d 0 (y34.set 0 (beginning_m 1))).1).down)]) hm72 rfl rfl rfl rfl rfl (by exact sz_25) (show 0 + 4 ≤ 4 from by decide) a4 rfl (fun w76 hm77 => ?_))
 refine la 3 (J ((putfl_m d 0 (y34.set 0 (beginning_m 1))).2)) ?_
 simp only [nz]
 refine wn (tj (hK60 _ _ (wp_ret ?_)))
 have he80 : format_m d = (((putfl_m d 0 (y34.set 0 (beginning_m 1))).1), (putfl_m d 0 (y34.set 0 (beginning_m 1))).2) := (hq53.trans (show format_m_k0 d y33 y34 = (((putfl_m d 0 (y34.set 0 (beginning_m 1))).1), (putfl_m d 0 (y34.set 0 (beginning_m 1))).2) from by unfold format_m_k0; rfl))
 exact ⟨rfl, .tuple #[.agg #[v64, v65, J (((putfl_m d 0 (y34.set 0 (beginning_m 1))).1).fuse), .bool (((putfl_m d 0 (y34.set 0 (beginning_m 1))).1).down)], J ((putfl_m d 0 (y34.set 0 (beginning_m 1))).2)], Mem.res_ct rfl rfl (hm77.at 2 rfl) Tryd.underlying25 rfl (by exact sz_25) rfl, ⟨⟨_, rfl, v64, v65, (by rw [he80]), by rw [he80]; exact hm77.give (hm77.from 4 rfl)⟩, hm77.below⟩⟩
theorem run_format {o : Oper} {a : Act} {w : World} {x0 : Operand} {v0 : Value} (ho : o.op = .call { callee := .value (.func 18), args := #[x0], argTypes := #[25] }) (h0 : a.eval x0 = v0) :
  (execOp a.eval o).run Tryd.prog w = .ok (.enter 18 #[v0]) w := by
 unfold execOp
 simp only [ho]
 have hf : a.eval (.func 18) = .func (.func 18) #[] #[] := rfl
 generalize a.eval = f at *
 go_simp
def rend_m (epoch : Int) (n : Int) (sectors : List (List UInt8)) : (List UInt8) :=
 (fill_m ((([68, 79, 78, 69] ++ (number_m epoch 8)) ++ (number_m n 4)) ++ (sum_m (join_m sectors ([])))))
theorem rend_any (epoch : Int) (n : Int) (sectors : List (List UInt8)) (sectorsv0 : Value) (w : World) (hsectors : Rs eS 1 sectors sectorsv0 w) (hT : Laid w) (hp0 : sectors.length ≤ 100000) (hp1 : (join_m sectors []).length ≤ 250000) : Calls Tryd.prog 48 #[J (epoch), J (n), sectorsv0] w (fun e w' => e = .returned (.string (tx (rend_m epoch n sectors))) ∧ Below w.heap.size w w') := by
 go_enter Tryd.func48, Tryd.ntmps48
 have hm00 := Mm.nil none (fun _ => True) w
 obtain ⟨Fsectors, hm01⟩ : ∃ Fsectors, Mm none (fun _ => True) w w [.see (Rs eS 1 sectors sectorsv0) Fsectors] := hm00.come (Rs.all hsectors)
 have hm0 := hm01
 refine wk (fun K1 hK1 => (wq ?_))
 refine la 6 (.string (tx ([]))) ?_
 simp only [nz]
 refine wn (tj (hK1 _ _ (wk (fun K2 hK2 => (wq ?_)))))
 refine lm 7 (J (epoch)) ?_
 simp only [nz]
 refine lst rfl (m_call hm0 8 (.string (tx (number_m epoch 8))) rfl (run_number rfl rfl rfl) (number_any epoch 8  _  (by omega) (by omega)) (fun w3 hm4 => ?_))
 have hf5 : (((number_m epoch 8).length : Nat) : Int) = 8 := number_len epoch 8 (by omega) (by omega)
 simp only [nz]
 refine lw 9 (.string (tx ([68, 79, 78, 69] ++ (number_m epoch 8)))) (t_cat ([68, 79, 78, 69]) (number_m epoch 8) (by simp; omega) rfl rfl rfl) ?_
 refine lm 10 (J (n)) ?_
 simp only [nz]
 refine lst rfl (m_call hm4 11 (.string (tx (number_m n 4))) rfl (run_number rfl rfl rfl) (number_any n 4  _  (by omega) (by omega)) (fun w6 hm7 => ?_))
 have hf8 : (((number_m n 4).length : Nat) : Int) = 4 := number_len n 4 (by omega) (by omega)
 simp only [nz]
 refine lw 12 (.string (tx (([68, 79, 78, 69] ++ (number_m epoch 8)) ++ (number_m n 4)))) (t_cat ([68, 79, 78, 69] ++ (number_m epoch 8)) (number_m n 4) (by simp; omega) rfl rfl rfl) ?_
 refine lm 13 (sectorsv0) ?_
 simp only [nz]
 refine lst rfl (m_call hm7 14 (.string (tx (join_m sectors ([])))) rfl (run_join rfl rfl rfl) (join_any sectors ([]) sectorsv0 _ (hm7.see 0 rfl) (by omega) (by omega)) (fun w9 hm10 => ?_))
 simp only [nz]
 refine lst rfl (m_call hm10 15 (.string (tx (sum_m (join_m sectors ([]))))) rfl (run_dsum rfl rfl) (dsum_any (join_m sectors ([]))  _  (Laid.below hT hm10.below) (by omega)) (fun w11 hm12 => ?_))
 have hf13 : (sum_m (join_m sectors ([]))).length = 32 := sum_len (join_m sectors ([]))
 simp only [nz]
 refine lw 16 (.string (tx ((([68, 79, 78, 69] ++ (number_m epoch 8)) ++ (number_m n 4)) ++ (sum_m (join_m sectors ([])))))) (t_cat (([68, 79, 78, 69] ++ (number_m epoch 8)) ++ (number_m n 4)) (sum_m (join_m sectors ([]))) (by simp; omega) rfl rfl rfl) ?_
 simp only [nz]
 refine lst rfl (m_call hm12 17 (.string (tx (fill_m ((([68, 79, 78, 69] ++ (number_m epoch 8)) ++ (number_m n 4)) ++ (sum_m (join_m sectors ([]))))))) rfl (run_fill rfl rfl) (fill_any ((([68, 79, 78, 69] ++ (number_m epoch 8)) ++ (number_m n 4)) ++ (sum_m (join_m sectors ([]))))  _  (by simp; omega)) (fun w14 hm15 => ?_))
 have hf16 : (fill_m ((([68, 79, 78, 69] ++ (number_m epoch 8)) ++ (number_m n 4)) ++ (sum_m (join_m sectors ([]))))).length = 256 := rfill_len ((([68, 79, 78, 69] ++ (number_m epoch 8)) ++ (number_m n 4)) ++ (sum_m (join_m sectors ([])))) (by simp; omega)
 simp only [nz]
 refine la 6 (.string (tx (fill_m ((([68, 79, 78, 69] ++ (number_m epoch 8)) ++ (number_m n 4)) ++ (sum_m (join_m sectors ([]))))))) ?_
 simp only [nz]
 refine wn (tj (hK2 _ _ (wp_ret ?_)))
 have he17 : rend_m epoch n sectors = (fill_m ((([68, 79, 78, 69] ++ (number_m epoch 8)) ++ (number_m n 4)) ++ (sum_m (join_m sectors ([]))))) := by unfold rend_m; rfl
 exact ⟨rfl, .string (tx (fill_m ((([68, 79, 78, 69] ++ (number_m epoch 8)) ++ (number_m n 4)) ++ (sum_m (join_m sectors ([])))))), res_t rfl rfl, ⟨by (rw [he17]; try rfl), hm15.below⟩⟩
theorem run_rend {o : Oper} {a : Act} {w : World} {x0 x1 x2 : Operand} {v0 v1 v2 : Value} (ho : o.op = .call { callee := .value (.func 48), args := #[x0, x1, x2], argTypes := #[3, 3, 22] }) (h0 : a.eval x0 = v0) (h1 : a.eval x1 = v1) (h2 : a.eval x2 = v2) :
  (execOp a.eval o).run Tryd.prog w = .ok (.enter 48 #[v0, v1, v2]) w := by
 unfold execOp
 simp only [ho]
 have hf : a.eval (.func 48) = .func (.func 48) #[] #[] := rfl
 generalize a.eval = f at *
 go_simp
abbrev QeG1 (l11 : List (List UInt8)) (l15 : List Wr) (x19 : Int) (x20 : Bool) (l : List Wr) (x10 : Nat) := (put_m (Dk.mk l11 l15 x19 x20) ((log_m (Dk.mk l11 l15 x19 x20)) + (l.getD x10 dWr).at_) ((l.getD x10 dWr).data))
abbrev QeG2 (y47 : List (List UInt8)) (y50 : List Wr) (y53 : Int) (y54 : Bool) (epoch : Int) := (putfl_m ((flush_m (Dk.mk y47 y50 y53 y54)).1) 0 ([(beginning_m (epoch + (1 : Int)))] : List (List UInt8)))
def bring_m_b0 (d : Dk) (epoch : Int) (l : List Wr) (rec : Nat × (List (List UInt8)) × (List Wr) × Int × Bool × (List (List UInt8)) × (List Wr) × Nat × Bool → Sum (Nat × (List (List UInt8)) × (List Wr) × Int × Bool × (List (List UInt8)) × (List Wr) × Nat × Bool) (Dk × Int)) (x10 : Nat) (l11 : List (List UInt8)) (l15 : List Wr) (x19 : Int) (x20 : Bool) (l21 : List (List UInt8)) (l25 : List Wr) (x29 : Nat) (x30 : Bool) : Sum (Nat × (List (List UInt8)) × (List Wr) × Int × Bool × (List (List UInt8)) × (List Wr) × Nat × Bool) (Dk × Int) :=
 if x10 < l.length then
  if ¬ (QeG1 l11 l15 x19 x20 l x10).2 = 0 then
   .inr (((QeG1 l11 l15 x19 x20 l x10).1), (QeG1 l11 l15 x19 x20 l x10).2)
  else
   rec ((x10 + 1), (((QeG1 l11 l15 x19 x20 l x10).1).safe), (((QeG1 l11 l15 x19 x20 l x10).1).loose), ((QeG1 l11 l15 x19 x20 l x10).1).fuse, (((QeG1 l11 l15 x19 x20 l x10).1).down), l21, l25, x29, x30)
 else
  .inl (x10, l11, l15, x19, x20, l21, l25, x29, x30)
def bring_m_l0 (d : Dk) (epoch : Int) (l : List Wr) : Nat → Nat × (List (List UInt8)) × (List Wr) × Int × Bool × (List (List UInt8)) × (List Wr) × Nat × Bool → Sum (Nat × (List (List UInt8)) × (List Wr) × Int × Bool × (List (List UInt8)) × (List Wr) × Nat × Bool) (Dk × Int)
 | 0, zz => .inl zz
 | nq + 1, zz => bring_m_b0 d epoch l (bring_m_l0 d epoch l nq) zz.1 zz.2.1 zz.2.2.1 zz.2.2.2.1 zz.2.2.2.2.1 zz.2.2.2.2.2.1 zz.2.2.2.2.2.2.1 zz.2.2.2.2.2.2.2.1 zz.2.2.2.2.2.2.2.2
def bring_m_k0 (d : Dk) (epoch : Int) (l : List Wr) (y46 : Nat) (y47 : List (List UInt8)) (y50 : List Wr) (y53 : Int) (y54 : Bool) (y55 : List (List UInt8)) (y58 : List Wr) (y61 : Nat) (y62 : Bool) : Dk × Int :=
 if ¬ (flush_m (Dk.mk y47 y50 y53 y54)).2 = 0 then
  (((flush_m (Dk.mk y47 y50 y53 y54)).1), (flush_m (Dk.mk y47 y50 y53 y54)).2)
 else
  (((QeG2 y47 y50 y53 y54 epoch).1), (QeG2 y47 y50 y53 y54 epoch).2)
def bring_m (d : Dk) (epoch : Int) (l : List Wr) : Dk × Int :=
 fin (bring_m_l0 d epoch l ((l.length - 0) + 1) (0, d.safe, d.loose, d.fuse, d.down, ([] : List (List UInt8)), ([] : List Wr), 0, false)) (fun r => r) (fun zz => bring_m_k0 d epoch l zz.1 zz.2.1 zz.2.2.1 zz.2.2.2.1 zz.2.2.2.2.1 zz.2.2.2.2.2.1 zz.2.2.2.2.2.2.1 zz.2.2.2.2.2.2.2.1 zz.2.2.2.2.2.2.2.2)
theorem bring_any (d : Dk) (epoch : Int) (l : List Wr) (dv0 : Value) (dv1 : Value) (lv0 : Value) (S : Nat → Prop) (w : World) (hd : From S (DkR d dv0 dv1) w) (hl : From S (Rs eWr 2 l lv0) w) (hp0 : d.safe.length ≤ 8796093021952) (hp1 : d.loose.length ≤ 5864064000000) (hp2 : d.fuse ≤ 9223372036854775807) (hp3 : l.length ≤ 100000) (hp4 : -9223372036854775808 ≤ epoch) (hp5 : epoch ≤ 9223372036854775806) (hp6 : ∀ x ∈ l, -1000000 ≤ x.at_ ∧ x.at_ ≤ 1000000) : Calls Tryd.prog 49 #[.agg #[dv0, dv1, J (d.fuse), .bool (d.down)], J (epoch), lv0] w (fun e w' => (∃ v, e = .returned v ∧ ∃ (o0 : Value) (o1 : Value), v = .tuple #[.agg #[o0, o1, J (((bring_m d epoch l).1).fuse), .bool (((bring_m d epoch l).1).down)], J ((bring_m d epoch l).2)] ∧ Gives w w' S (DkR ((bring_m d epoch l).1) o0 o1)) ∧ Below w.heap.size w w') := by
 go_enter Tryd.func49, Tryd.ntmps49
 have hm00 := Mm.nil none S w
 obtain ⟨Fd, hm01⟩ := hm00.come hd
 obtain ⟨Fl, hm02⟩ := hm01.come hl
 have hm0 := hm02
 refine wk (fun K1 hK1 => (wq ?_))
 refine lst rfl (m_alloc (c := #[dv0, dv1, J (d.fuse), .bool (d.down)]) (T := 25) hm0 3 rfl (run_box rfl rfl) (fun g4 w2 hm3 => ?_))
 simp only [nz]
 refine lst rfl (m_alloc (c := #[.slice none 0 0, .slice none 0 0, J 0, .bool false]) (T := 25) hm3 6 rfl (by unfold execOp; go_simp; try rfl) (fun g7 w5 hm6 => ?_))
 simp only [nz]
 refine la 7 (J 0) ?_
 simp only [nz]
 refine wn (tj (hK1 _ _ (wk (fun K8 hK8 => (wk (fun K9 hK9 => (wq ?_)))))))
 refine lm 13 (lv0) ?_
 refine lw 14 (J (l.length : Int)) (s_len ((hm6.see 1 rfl)) rfl Tryd.underlying23 rfl) ?_
 refine lm 15 (J 0) ?_
 simp only [nz]
 refine wn (tj (hK9 _ _ ?_))
 obtain ⟨F31, hm32⟩ : ∃ F31, Mm none S w w5 [.see (DkR d dv0 dv1) Fd, .see (Rs eWr 2 l lv0) Fl, .blk g4 #[dv0, dv1, J (d.fuse), .bool (d.down)] 25, .blk g7 #[.slice none 0 0, .slice none 0 0, J 0, .bool false] 25, .see (Rs eS 1 d.safe dv0) F31] := hm6.derive ((hm6.from 0 rfl).mono (fun _ h => h.1))
 obtain ⟨F34, hm35⟩ : ∃ F34, Mm none S w w5 [.see (DkR d dv0 dv1) Fd, .see (Rs eWr 2 l lv0) Fl, .blk g4 #[dv0, dv1, J (d.fuse), .bool (d.down)] 25, .blk g7 #[.slice none 0 0, .slice none 0 0, J 0, .bool false] 25, .see (Rs eS 1 d.safe dv0) F31, .see (Rs eWr 2 d.loose dv1) F34] := hm32.derive ((hm32.from 0 rfl).mono (fun _ h => h.2))
 obtain ⟨F37, hm38⟩ : ∃ F37, Mm none S w w5 [.see (DkR d dv0 dv1) Fd, .see (Rs eWr 2 l lv0) Fl, .blk g4 #[dv0, dv1, J (d.fuse), .bool (d.down)] 25, .blk g7 #[.slice none 0 0, .slice none 0 0, J 0, .bool false] 25, .see (Rs eS 1 d.safe dv0) F31, .see (Rs eWr 2 d.loose dv1) F34, .see (Rs eS 1 ([] : List (List UInt8)) (.slice none 0 0)) F37] := hm35.derive (From.pure (fun W => Rs.nil eS 1 W))
 obtain ⟨F40, hm41⟩ : ∃ F40, Mm none S w w5 [.see (DkR d dv0 dv1) Fd, .see (Rs eWr 2 l lv0) Fl, .blk g4 #[dv0, dv1, J (d.fuse), .bool (d.down)] 25, .blk g7 #[.slice none 0 0, .slice none 0 0, J 0, .bool false] 25, .see (Rs eS 1 d.safe dv0) F31, .see (Rs eWr 2 d.loose dv1) F34, .see (Rs eS 1 ([] : List (List UInt8)) (.slice none 0 0)) F37, .see (Rs eWr 2 ([] : List Wr) (.slice none 0 0)) F40] := hm38.derive (From.pure (fun W => Rs.nil eWr 2 W))
 refine wp_cutK (fun a' w' => ∃ (y46 : Nat) (y47 : List (List UInt8)) (y50 : List Wr) (y53 : Int) (y54 : Bool) (y55 : List (List UInt8)) (y58 : List Wr) (y61 : Nat) (y62 : Bool) (v48 : Value) (F49 : Nat → Prop) (v51 : Value) (F52 : Nat → Prop) (v56 : Value) (F57 : Nat → Prop) (v59 : Value) (F60 : Nat → Prop) (yu0 : Nat → Value), bring_m_l0 d epoch l ((l.length - 0) + 1) (0, d.safe, d.loose, d.fuse, d.down, ([] : List (List UInt8)), ([] : List Wr), 0, false) = .inl (y46, y47, y50, y53, y54, y55, y58, y61, y62) ∧ (y47.length = d.safe.length ∧ y50.length ≤ d.loose.length + y46 ∧ y53 ≤ 9223372036854775807 ∧ y46 ≤ l.length) ∧ a' = ⟨#[.agg #[dv0, dv1, J (d.fuse), .bool (d.down)], J (epoch), lv0, Pp g4 0, undef, undef, Pp g7 0, yu0 0, undef, yu0 1, yu0 2, yu0 3, undef, lv0, J (l.length : Int), J (y46 : Int), yu0 4, yu0 5, yu0 6, yu0 7, yu0 8, yu0 9, yu0 10, yu0 11, yu0 12, yu0 13, yu0 14, yu0 15, yu0 16, yu0 17, yu0 18, yu0 19, yu0 20, yu0 21, yu0 22, yu0 23, yu0 24, undef, undef, undef, undef, undef, undef, undef, undef, undef, undef, undef, undef, undef, undef, undef, undef, undef], []⟩ ∧ Mm none S w w' [.see (DkR d dv0 dv1) Fd, .see (Rs eWr 2 l lv0) Fl, .blk g4 #[v48, v51, J (y53), .bool (y54)] 25, .blk g7 #[v56, v59, J (y61 : Int), .bool (y62)] 25, .see (Rs eS 1 y47 v48) F49, .see (Rs eWr 2 y50 v51) F52, .see (Rs eS 1 y55 v56) F57, .see (Rs eWr 2 y58 v59) F60]) ?_ ?_
 ·refine wp_block ?_
  refine wp_loop_n (fun n' a' w' => ∃ (n43 : Nat) (x10 : Nat) (l11 : List (List UInt8)) (l15 : List Wr) (x19 : Int) (x20 : Bool) (l21 : List (List UInt8)) (l25 : List Wr) (x29 : Nat) (x30 : Bool) (v12 : Value) (F13 : Nat → Prop) (v16 : Value) (F17 : Nat → Prop) (v22 : Value) (F23 : Nat → Prop) (v26 : Value) (F27 : Nat → Prop) (u0 : Nat → Value), n' = n43 ∧ (l.length - x10) < n43 ∧ bring_m_l0 d epoch l ((l.length - 0) + 1) (0, d.safe, d.loose, d.fuse, d.down, ([] : List (List UInt8)), ([] : List Wr), 0, false) = bring_m_l0 d epoch l n43 (x10, l11, l15, x19, x20, l21, l25, x29, x30) ∧ (l11.length = d.safe.length ∧ l15.length ≤ d.loose.length + x10 ∧ x19 ≤ 9223372036854775807 ∧ x10 ≤ l.length) ∧ a' = ⟨#[.agg #[dv0, dv1, J (d.fuse), .bool (d.down)], J (epoch), lv0, Pp g4 0, undef, undef, Pp g7 0, u0 0, undef, u0 1, u0 2, u0 3, undef, lv0, J (l.length : Int), J (x10 : Int), u0 4, u0 5, u0 6, u0 7, u0 8, u0 9, u0 10, u0 11, u0 12, u0 13, u0 14, u0 15, u0 16, u0 17, u0 18, u0 19, u0 20, u0 21, u0 22, u0 23, u0 24, undef, undef, undef, undef, undef, undef, undef, undef, undef, undef, undef, undef, undef, undef, undef, undef, undef], []⟩ ∧ Mm none S w w' [.see (DkR d dv0 dv1) Fd, .see (Rs eWr 2 l lv0) Fl, .blk g4 #[v12, v16, J (x19), .bool (x20)] 25, .blk g7 #[v22, v26, J (x29 : Int), .bool (x30)] 25, .see (Rs eS 1 l11 v12) F13, .see (Rs eWr 2 l15 v16) F17, .see (Rs eS 1 l21 v22) F23, .see (Rs eWr 2 l25 v26) F27]) ⟨((l.length - 0) + 1), 0, d.safe, d.loose, d.fuse, d.down, ([] : List (List UInt8)), ([] : List Wr), 0, false, dv0, F31, dv1, F34, .slice none 0 0, F37, .slice none 0 0, F40, (fun qq => bif Nat.blt qq 24 then List.getD [J 0, undef, undef, undef, undef, undef, undef, undef, undef, undef, undef, undef, undef, undef, undef, undef, undef, undef, undef, undef, undef, undef, undef, undef] qq undef else List.getD [undef] (qq - 24) undef), rfl, Nat.lt_succ_self _, rfl, (by omega), rfl, hm41⟩ ?_
  rintro n43 _ w64 ⟨_, x10, l11, l15, x19, x20, l21, l25, x29, x30, v12, F13, v16, F17, v22, F23, v26, F27, u0, rfl, hl68, hi45, hbr, rfl, hm65⟩ R66 hR66
  obtain ⟨k44, rfl⟩ : ∃ k, n43 = k + 1 := ⟨n43 - 1, by omega⟩
  refine wk (fun K69 hK69 => (wq ?_))
  refine lw 16 (.bool (decide (x10 < l.length))) (r_lss x10 l.length rfl rfl rfl) ?_
  simp only [nz]
  refine wn (tj (hK69 _ _ (wk (fun K70 hK70 => ?_))))
  refine cond_d (x10 < l.length) rfl (fun hc71 => ?_) (fun hc71 => ?_)
  rotate_left
  ·refine wp_exit (then_x (then_x (blk_x ?_)))
   refine tj ?_
   obtain ⟨F183, hm184⟩ := hm65.derive (hm65.from 4 rfl)
   obtain ⟨F186, hm187⟩ := hm184.derive (hm184.from 5 rfl)
   obtain ⟨F189, hm190⟩ := hm187.derive (hm187.from 6 rfl)
   obtain ⟨F192, hm193⟩ := hm190.derive (hm190.from 7 rfl)
   exact ⟨x10, l11, l15, x19, x20, l21, l25, x29, x30, v12, F183, v16, F186, v22, F189, v26, F192, (fun qq => bif Nat.blt qq 24 then List.getD [u0 0, u0 1, u0 2, u0 3, .bool (decide (x10 < l.length)), u0 5, u0 6, u0 7, u0 8, u0 9, u0 10, u0 11, u0 12, u0 13, u0 14, u0 15, u0 16, u0 17, u0 18, u0 19, u0 20, u0 21, u0 22, u0 23] qq undef else List.getD [u0 24] (qq - 24) undef), (hi45.trans (show bring_m_b0 d epoch l (bring_m_l0 d epoch l k44) x10 l11 l15 x19 x20 l21 l25 x29 x30 = .inl (x10, l11, l15, x19, x20, l21, l25, x29, x30) from by unfold bring_m_b0; rw [if_neg hc71] <;> rfl)), (by omega), rfl, (Mm.reorder hm193 [0, 1, 2, 3, 8, 9, 10, 11] (by decide) rfl)⟩
  refine wp_skip (tj (hK70 _ _ (wk (fun K72 hK72 => ?_))))
  refine wp_block ?_
  refine wk (fun K73 hK73 => (wq ?_))
  refine lw 17 (.pointer (some ⟨(bk lv0), (po lv0 + x10 * 2), none⟩)) (r_ixv ((hm65.see 1 rfl)) x10 (by omega) Tryd.underlying23 sz_51 rfl rfl rfl) ?_
  refine lw 18 (.agg #[J ((l.getD x10 dWr).at_), .string (tx ((l.getD x10 dWr).data))]) (r_partw (fun j u hj => Rs.cell ((hm65.see 1 rfl)) eWr_len dWr x10 (by omega) j u (arr_get hj)) Tryd.underlying51 rfl (by exact sz_51) rfl rfl) ?_
  simp only [nz]
  refine lst rfl (m_alloc (c := #[J 0, .string (tx ([]))]) (T := 51) hm65 9 rfl (by unfold execOp; go_simp; try rfl) (fun g76 w74 hm75 => ?_))
  simp only [nz]
  refine lst rfl (m_store 8 51 _ _ 0 (.agg #[J ((l.getD x10 dWr).at_), .string (tx ((l.getD x10 dWr).data))]) (old := #[J 0, .string (tx ([]))]) (new := #[J ((l.getD x10 dWr).at_), .string (tx ((l.getD x10 dWr).data))]) hm75 rfl rfl rfl rfl rfl (by exact sz_51) (show 0 + 2 ≤ 2 from by decide) (by simp [Value.cells, Value.oneCell']) rfl (fun w77 hm78 => ?_))
  refine wn (tj (hK73 _ _ (wk (fun K79 hK79 => ?_))))
  refine wp_mono (Q := fun e a' w' => e = Exit.normal ∧ ∃ (v87 : Value) (v88 : Value) (F90 : Nat → Prop) (g101 : Nat), a' = ⟨#[.agg #[dv0, dv1, J (d.fuse), .bool (d.down)], J (epoch), lv0, Pp g4 0, undef, undef, Pp g7 0, u0 0, undef, Pp g76 0, Pp g101 0, J ((QeG1 l11 l15 x19 x20 l x10).2), undef, lv0, J (l.length : Int), J (x10 : Int), .bool (decide (x10 < l.length)), .pointer (some ⟨(bk lv0), (po lv0 + x10 * 2), none⟩), .agg #[J ((l.getD x10 dWr).at_), .string (tx ((l.getD x10 dWr).data))], .tuple #[.agg #[v87, v88, J (((QeG1 l11 l15 x19 x20 l x10).1).fuse), .bool (((QeG1 l11 l15 x19 x20 l x10).1).down)], J ((QeG1 l11 l15 x19 x20 l x10).2)], .agg #[v12, v16, J (x19), .bool (x20)], .agg #[v12, v16, J (x19), .bool (x20)], J ((log_m (Dk.mk l11 l15 x19 x20))), Pp g76 0, J ((l.getD x10 dWr).at_), J (((log_m (Dk.mk l11 l15 x19 x20)) + (l.getD x10 dWr).at_)), Pp g76 1, .string (tx ((l.getD x10 dWr).data)), .tuple #[.agg #[v87, v88, J (((QeG1 l11 l15 x19 x20 l x10).1).fuse), .bool (((QeG1 l11 l15 x19 x20 l x10).1).down)], J ((QeG1 l11 l15 x19 x20 l x10).2)], .agg #[v87, v88, J (((QeG1 l11 l15 x19 x20 l x10).1).fuse), .bool (((QeG1 l11 l15 x19 x20 l x10).1).down)], J ((QeG1 l11 l15 x19 x20 l x10).2), u0 19, u0 20, u0 21, u0 22, u0 23, u0 24, undef, undef, undef, undef, undef, undef, undef, undef, undef, undef, undef, undef, undef, undef, undef, undef, undef], []⟩ ∧ Mm none S w w' [.see (DkR d dv0 dv1) Fd, .see (Rs eWr 2 l lv0) Fl, .blk g4 #[v12, v16, J (x19), .bool (x20)] 25, .blk g7 #[v22, v26, J (x29 : Int), .bool (x30)] 25, .see (Rs eS 1 l11 v12) F13, .see (Rs eWr 2 l15 v16) F17, .see (Rs eS 1 l21 v22) F23, .see (Rs eWr 2 l25 v26) F27, .blk g76 #[J ((l.getD x10 dWr).at_), .string (tx ((l.getD x10 dWr).data))] 51, .see (DkR ((QeG1 l11 l15 x19 x20 l x10).1) v87 v88) F90, .blk g101 #[v87, v88, J (((QeG1 l11 l15 x19 x20 l x10).1).fuse), .bool (((QeG1 l11 l15 x19 x20 l x10).1).down)] 25]) ?_ ?_
  ·have hm80 := hm78.drew
   refine wp_region_held_drew (S := fun w' => Mem.Blk w' g4 (#[v12, v16, J (x19), .bool (x20)]) 25 ∧ Mem.Blk w' g76 (#[J ((l.getD x10 dWr).at_), .string (tx ((l.getD x10 dWr).data))]) 51) (by kernel_rfl) (⟨hm80.at 2 rfl, hm80.at 8 rfl⟩) (fun _ => ?_)
   generalize w77.drew = w81 at *
   refine tn 0 20 (.agg #[v12, v16, J (x19), .bool (x20)]) rfl rfl (fun _ hw => r_whole hw.1 Tryd.underlying25 rfl (by exact sz_25) rfl rfl) (⟨hm80.at 2 rfl, hm80.at 8 rfl⟩) ?_
   simp only [nz]
   refine tn 1 21 (.agg #[v12, v16, J (x19), .bool (x20)]) rfl rfl (fun _ hw => r_whole hw.1 Tryd.underlying25 rfl (by exact sz_25) rfl rfl) (⟨hm80.at 2 rfl, hm80.at 8 rfl⟩) ?_
   simp only [nz]
   refine tn 3 23 (Pp g76 0) rfl rfl (fun _ hw => r_fa51_0 g76 0 rfl rfl) (⟨hm80.at 2 rfl, hm80.at 8 rfl⟩) ?_
   simp only [nz]
   refine tn 4 24 (J ((l.getD x10 dWr).at_)) rfl rfl (fun _ hw => r_load hw.2 rfl Tryd.underlying3 rfl rfl rfl) (⟨hm80.at 2 rfl, hm80.at 8 rfl⟩) ?_
   simp only [nz]
   refine tn 6 26 (Pp g76 1) rfl rfl (fun _ hw => r_fa51_1 g76 0 rfl rfl) (⟨hm80.at 2 rfl, hm80.at 8 rfl⟩) ?_
   simp only [nz]
   refine tn 7 27 (.string (tx ((l.getD x10 dWr).data))) rfl rfl (fun _ hw => r_load hw.2 rfl Tryd.underlying9 rfl rfl rfl) (⟨hm80.at 2 rfl, hm80.at 8 rfl⟩) ?_
   simp only [nz]
   refine two_ready 2 12 (by kernel_rfl) ?_ ?_
   ·refine opd rfl rfl (m_call hm80 22 (J ((log_m (Dk.mk l11 l15 x19 x20)))) rfl (run_log rfl rfl) (log_any (Dk.mk l11 l15 x19 x20) v12 v16 _ ⟨(hm80.see 4 rfl), (hm80.see 5 rfl)⟩ (by simp; omega) (by simp; omega)) (fun w82 hm83 => ?_))
    have hf84 : (log_m (Dk.mk l11 l15 x19 x20)) = (((l11.length / 4 : Nat)) : Int) := log_is (Dk.mk l11 l15 x19 x20)
    refine ⟨⟨hm83.at 2 rfl, hm83.at 8 rfl⟩, ?_⟩
    simp only [nz]
    refine tn 5 25 (J (((log_m (Dk.mk l11 l15 x19 x20)) + (l.getD x10 dWr).at_))) rfl rfl (fun _ hw => z_add (log_m (Dk.mk l11 l15 x19 x20)) ((l.getD x10 dWr).at_) _ (by have hz := ats_of (l := l) (by assumption) x10 (by omega); rw [IntKind.wrap_i64]; omega) rfl rfl rfl) (⟨hm83.at 2 rfl, hm83.at 8 rfl⟩) ?_
    simp only [nz]
    refine two_ready 8 12 (by kernel_rfl) ?_ ?_
    ·refine opd rfl rfl (m_callx hm83 28 rfl (run_put rfl rfl rfl rfl) (put_any (Dk.mk l11 l15 x19 x20) ((log_m (Dk.mk l11 l15 x19 x20)) + (l.getD x10 dWr).at_) ((l.getD x10 dWr).data) v12 v16 (seeS _) _ ((hm83.from 4 rfl).and (hm83.from 5 rfl)) (by simp; omega) (by simp; omega) (by simp; omega)) (fun vv91 w85 hR92 hb93 hm86 => ?_))
     obtain ⟨v87, v88, rfl, hg94⟩ := hR92
     obtain ⟨F90, hm95⟩ : ∃ F90, Mm none S w w85 [.see (DkR d dv0 dv1) Fd, .see (Rs eWr 2 l lv0) Fl, .blk g4 #[v12, v16, J (x19), .bool (x20)] 25, .blk g7 #[v22, v26, J (x29 : Int), .bool (x30)] 25, .see (Rs eS 1 l11 v12) F13, .see (Rs eWr 2 l15 v16) F17, .see (Rs eS 1 l21 v22) F23, .see (Rs eWr 2 l25 v26) F27, .blk g76 #[J ((l.getD x10 dWr).at_), .string (tx ((l.getD x10 dWr).data))] 51, .see (DkR ((QeG1 l11 l15 x19 x20 l x10).1) v87 v88) F90] := Mm.tookS hm83 hb93 hg94
     clear hm86 hg94 hb93
     have hf96 : (QeG1 l11 l15 x19 x20 l x10).1.safe.length = l11.length := (put_near (Dk.mk l11 l15 x19 x20) ((log_m (Dk.mk l11 l15 x19 x20)) + (l.getD x10 dWr).at_) ((l.getD x10 dWr).data)).1
     have hf97 : (QeG1 l11 l15 x19 x20 l x10).1.loose.length ≤ l15.length + 1 := (put_near (Dk.mk l11 l15 x19 x20) ((log_m (Dk.mk l11 l15 x19 x20)) + (l.getD x10 dWr).at_) ((l.getD x10 dWr).data)).2.1
     have hf98 : (QeG1 l11 l15 x19 x20 l x10).1.fuse ≤ 9223372036854775807 := (put_near (Dk.mk l11 l15 x19 x20) ((log_m (Dk.mk l11 l15 x19 x20)) + (l.getD x10 dWr).at_) ((l.getD x10 dWr).data)).2.2 (show x19 ≤ 9223372036854775807 from (by omega))
     refine ⟨⟨hm95.at 2 rfl, hm95.at 8 rfl⟩, ?_⟩
     simp only [nz]
     refine tn 9 19 (.tuple #[.agg #[v87, v88, J (((QeG1 l11 l15 x19 x20 l x10).1).fuse), .bool (((QeG1 l11 l15 x19 x20 l x10).1).down)], J ((QeG1 l11 l15 x19 x20 l x10).2)]) rfl rfl (fun _ hw => run_mv rfl rfl) (⟨hm95.at 2 rfl, hm95.at 8 rfl⟩) ?_
     simp only [nz]
     refine tn 10 29 (.agg #[v87, v88, J (((QeG1 l11 l15 x19 x20 l x10).1).fuse), .bool (((QeG1 l11 l15 x19 x20 l x10).1).down)]) rfl rfl (fun _ hw => run_ex rfl rfl rfl) (⟨hm95.at 2 rfl, hm95.at 8 rfl⟩) ?_
     simp only [nz]
     refine tn 11 30 (J ((QeG1 l11 l15 x19 x20 l x10).2)) rfl rfl (fun _ hw => run_ex rfl rfl rfl) (⟨hm95.at 2 rfl, hm95.at 8 rfl⟩) ?_
     simp only [nz]
     refine one_ready 12 (by kernel_rfl) ?_
     refine opd rfl rfl (m_alloc (c := #[.slice none 0 0, .slice none 0 0, J 0, .bool false]) (T := 25) hm95 10 rfl (by unfold execOp; go_simp; try rfl) (fun g101 w99 hm100 => ?_))
     refine ⟨⟨hm100.at 2 rfl, hm100.at 8 rfl⟩, ?_⟩
     simp only [nz]
     refine one_ready 13 (by kernel_rfl) ?_
     have ho104 := (rd_one ((hm100.see 9 rfl).1))
     have ho105 := (rd_one ((hm100.see 9 rfl).2))
     refine opd rfl rfl (m_store 10 25 _ _ 0 (.agg #[v87, v88, J (((QeG1 l11 l15 x19 x20 l x10).1).fuse), .bool (((QeG1 l11 l15 x19 x20 l x10).1).down)]) (old := #[.slice none 0 0, .slice none 0 0, J 0, .bool false]) (new := #[v87, v88, J (((QeG1 l11 l15 x19 x20 l x10).1).fuse), .bool (((QeG1 l11 l15 x19 x20 l x10).1).down)]) hm100 rfl rfl rfl rfl rfl (by exact sz_25) (show 0 + 4 ≤ 4 from by decide) a4 rfl (fun w102 hm103 => ?_))
     refine ⟨⟨hm103.at 2 rfl, hm103.at 8 rfl⟩, ?_⟩
     refine one_ready 14 (by kernel_rfl) ?_
     refine opd rfl rfl (w_value 11 (J ((QeG1 l11 l15 x19 x20 l x10).2)) rfl (run_as rfl rfl) ⟨⟨hm103.at 2 rfl, hm103.at 8 rfl⟩, ?_⟩)
     simp only [nz]
     refine wpAnyH_done (by kernel_rfl) ?_ _
     exact ⟨rfl, v87, v88, F90, g101, rfl, hm103⟩
    refine opd rfl rfl (m_alloc (c := #[.slice none 0 0, .slice none 0 0, J 0, .bool false]) (T := 25) hm83 10 rfl (by unfold execOp; go_simp; try rfl) (fun g108 w106 hm107 => ?_))
    refine ⟨⟨hm107.at 2 rfl, hm107.at 8 rfl⟩, ?_⟩
    simp only [nz]
    refine one_ready 8 (by kernel_rfl) ?_
    refine opd rfl rfl (m_callx hm107 28 rfl (run_put rfl rfl rfl rfl) (put_any (Dk.mk l11 l15 x19 x20) ((log_m (Dk.mk l11 l15 x19 x20)) + (l.getD x10 dWr).at_) ((l.getD x10 dWr).data) v12 v16 (seeS _) _ ((hm107.from 4 rfl).and (hm107.from 5 rfl)) (by simp; omega) (by simp; omega) (by simp; omega)) (fun vv115 w109 hR116 hb117 hm110 => ?_))
    obtain ⟨v111, v112, rfl, hg118⟩ := hR116
    obtain ⟨F114, hm119⟩ : ∃ F114, Mm none S w w109 [.see (DkR d dv0 dv1) Fd, .see (Rs eWr 2 l lv0) Fl, .blk g4 #[v12, v16, J (x19), .bool (x20)] 25, .blk g7 #[v22, v26, J (x29 : Int), .bool (x30)] 25, .see (Rs eS 1 l11 v12) F13, .see (Rs eWr 2 l15 v16) F17, .see (Rs eS 1 l21 v22) F23, .see (Rs eWr 2 l25 v26) F27, .blk g76 #[J ((l.getD x10 dWr).at_), .string (tx ((l.getD x10 dWr).data))] 51, .blk g108 #[.slice none 0 0, .slice none 0 0, J 0, .bool false] 25, .see (DkR ((QeG1 l11 l15 x19 x20 l x10).1) v111 v112) F114] := Mm.tookS hm107 hb117 hg118
    clear hm110 hg118 hb117
    have hf120 : (QeG1 l11 l15 x19 x20 l x10).1.safe.length = l11.length := (put_near (Dk.mk l11 l15 x19 x20) ((log_m (Dk.mk l11 l15 x19 x20)) + (l.getD x10 dWr).at_) ((l.getD x10 dWr).data)).1
    have hf121 : (QeG1 l11 l15 x19 x20 l x10).1.loose.length ≤ l15.length + 1 := (put_near (Dk.mk l11 l15 x19 x20) ((log_m (Dk.mk l11 l15 x19 x20)) + (l.getD x10 dWr).at_) ((l.getD x10 dWr).data)).2.1
    have hf122 : (QeG1 l11 l15 x19 x20 l x10).1.fuse ≤ 9223372036854775807 := (put_near (Dk.mk l11 l15 x19 x20) ((log_m (Dk.mk l11 l15 x19 x20)) + (l.getD x10 dWr).at_) ((l.getD x10 dWr).data)).2.2 (show x19 ≤ 9223372036854775807 from (by omega))
    refine ⟨⟨hm119.at 2 rfl, hm119.at 8 rfl⟩, ?_⟩
    simp only [nz]
    refine tn 9 19 (.tuple #[.agg #[v111, v112, J (((QeG1 l11 l15 x19 x20 l x10).1).fuse), .bool (((QeG1 l11 l15 x19 x20 l x10).1).down)], J ((QeG1 l11 l15 x19 x20 l x10).2)]) rfl rfl (fun _ hw => run_mv rfl rfl) (⟨hm119.at 2 rfl, hm119.at 8 rfl⟩) ?_
    simp only [nz]
    refine tn 10 29 (.agg #[v111, v112, J (((QeG1 l11 l15 x19 x20 l x10).1).fuse), .bool (((QeG1 l11 l15 x19 x20 l x10).1).down)]) rfl rfl (fun _ hw => run_ex rfl rfl rfl) (⟨hm119.at 2 rfl, hm119.at 8 rfl⟩) ?_
    simp only [nz]
    refine tn 11 30 (J ((QeG1 l11 l15 x19 x20 l x10).2)) rfl rfl (fun _ hw => run_ex rfl rfl rfl) (⟨hm119.at 2 rfl, hm119.at 8 rfl⟩) ?_
    simp only [nz]
    refine one_ready 13 (by kernel_rfl) ?_
    have ho125 := (rd_one ((hm119.see 10 rfl).1))
    have ho126 := (rd_one ((hm119.see 10 rfl).2))
    refine opd rfl rfl (m_store 9 25 _ _ 0 (.agg #[v111, v112, J (((QeG1 l11 l15 x19 x20 l x10).1).fuse), .bool (((QeG1 l11 l15 x19 x20 l x10).1).down)]) (old := #[.slice none 0 0, .slice none 0 0, J 0, .bool false]) (new := #[v111, v112, J (((QeG1 l11 l15 x19 x20 l x10).1).fuse), .bool (((QeG1 l11 l15 x19 x20 l x10).1).down)]) hm119 rfl rfl rfl rfl rfl (by exact sz_25) (show 0 + 4 ≤ 4 from by decide) a4 rfl (fun w123 hm124 => ?_))
    refine ⟨⟨hm124.at 2 rfl, hm124.at 8 rfl⟩, ?_⟩
    refine one_ready 14 (by kernel_rfl) ?_
    refine opd rfl rfl (w_value 11 (J ((QeG1 l11 l15 x19 x20 l x10).2)) rfl (run_as rfl rfl) ⟨⟨hm124.at 2 rfl, hm124.at 8 rfl⟩, ?_⟩)
    simp only [nz]
    refine wpAnyH_done (by kernel_rfl) ?_ _
    exact ⟨rfl, v111, v112, F114, g108, rfl, (Mm.reorder hm124 [0, 1, 2, 3, 4, 5, 6, 7, 8, 10, 9] (by decide) rfl)⟩
   refine opd rfl rfl (m_alloc (c := #[.slice none 0 0, .slice none 0 0, J 0, .bool false]) (T := 25) hm80 10 rfl (by unfold execOp; go_simp; try rfl) (fun g129 w127 hm128 => ?_))
   refine ⟨⟨hm128.at 2 rfl, hm128.at 8 rfl⟩, ?_⟩
   simp only [nz]
   refine one_ready 2 (by kernel_rfl) ?_
   refine opd rfl rfl (m_call hm128 22 (J ((log_m (Dk.mk l11 l15 x19 x20)))) rfl (run_log rfl rfl) (log_any (Dk.mk l11 l15 x19 x20) v12 v16 _ ⟨(hm128.see 4 rfl), (hm128.see 5 rfl)⟩ (by simp; omega) (by simp; omega)) (fun w130 hm131 => ?_))
   have hf132 : (log_m (Dk.mk l11 l15 x19 x20)) = (((l11.length / 4 : Nat)) : Int) := log_is (Dk.mk l11 l15 x19 x20)
   refine ⟨⟨hm131.at 2 rfl, hm131.at 8 rfl⟩, ?_⟩
   simp only [nz]
   refine tn 5 25 (J (((log_m (Dk.mk l11 l15 x19 x20)) + (l.getD x10 dWr).at_))) rfl rfl (fun _ hw => z_add (log_m (Dk.mk l11 l15 x19 x20)) ((l.getD x10 dWr).at_) _ (by have hz := ats_of (l := l) (by assumption) x10 (by omega); rw [IntKind.wrap_i64]; omega) rfl rfl rfl) (⟨hm131.at 2 rfl, hm131.at 8 rfl⟩) ?_
   simp only [nz]
   refine one_ready 8 (by kernel_rfl) ?_
   refine opd rfl rfl (m_callx hm131 28 rfl (run_put rfl rfl rfl rfl) (put_any (Dk.mk l11 l15 x19 x20) ((log_m (Dk.mk l11 l15 x19 x20)) + (l.getD x10 dWr).at_) ((l.getD x10 dWr).data) v12 v16 (seeS _) _ ((hm131.from 4 rfl).and (hm131.from 5 rfl)) (by simp; omega) (by simp; omega) (by simp; omega)) (fun vv139 w133 hR140 hb141 hm134 => ?_))
   obtain ⟨v135, v136, rfl, hg142⟩ := hR140
   obtain ⟨F138, hm143⟩ : ∃ F138, Mm none S w w133 [.see (DkR d dv0 dv1) Fd, .see (Rs eWr 2 l lv0) Fl, .blk g4 #[v12, v16, J (x19), .bool (x20)] 25, .blk g7 #[v22, v26, J (x29 : Int), .bool (x30)] 25, .see (Rs eS 1 l11 v12) F13, .see (Rs eWr 2 l15 v16) F17, .see (Rs eS 1 l21 v22) F23, .see (Rs eWr 2 l25 v26) F27, .blk g76 #[J ((l.getD x10 dWr).at_), .string (tx ((l.getD x10 dWr).data))] 51, .blk g129 #[.slice none 0 0, .slice none 0 0, J 0, .bool false] 25, .see (DkR ((QeG1 l11 l15 x19 x20 l x10).1) v135 v136) F138] := Mm.tookS hm131 hb141 hg142
   clear hm134 hg142 hb141
   have hf144 : (QeG1 l11 l15 x19 x20 l x10).1.safe.length = l11.length := (put_near (Dk.mk l11 l15 x19 x20) ((log_m (Dk.mk l11 l15 x19 x20)) + (l.getD x10 dWr).at_) ((l.getD x10 dWr).data)).1
   have hf145 : (QeG1 l11 l15 x19 x20 l x10).1.loose.length ≤ l15.length + 1 := (put_near (Dk.mk l11 l15 x19 x20) ((log_m (Dk.mk l11 l15 x19 x20)) + (l.getD x10 dWr).at_) ((l.getD x10 dWr).data)).2.1
   have hf146 : (QeG1 l11 l15 x19 x20 l x10).1.fuse ≤ 9223372036854775807 := (put_near (Dk.mk l11 l15 x19 x20) ((log_m (Dk.mk l11 l15 x19 x20)) + (l.getD x10 dWr).at_) ((l.getD x10 dWr).data)).2.2 (show x19 ≤ 9223372036854775807 from (by omega))
   refine ⟨⟨hm143.at 2 rfl, hm143.at 8 rfl⟩, ?_⟩
   simp only [nz]
   refine tn 9 19 (.tuple #[.agg #[v135, v136, J (((QeG1 l11 l15 x19 x20 l x10).1).fuse), .bool (((QeG1 l11 l15 x19 x20 l x10).1).down)], J ((QeG1 l11 l15 x19 x20 l x10).2)]) rfl rfl (fun _ hw => run_mv rfl rfl) (⟨hm143.at 2 rfl, hm143.at 8 rfl⟩) ?_
   simp only [nz]
   refine tn 10 29 (.agg #[v135, v136, J (((QeG1 l11 l15 x19 x20 l x10).1).fuse), .bool (((QeG1 l11 l15 x19 x20 l x10).1).down)]) rfl rfl (fun _ hw => run_ex rfl rfl rfl) (⟨hm143.at 2 rfl, hm143.at 8 rfl⟩) ?_
   simp only [nz]
   refine tn 11 30 (J ((QeG1 l11 l15 x19 x20 l x10).2)) rfl rfl (fun _ hw => run_ex rfl rfl rfl) (⟨hm143.at 2 rfl, hm143.at 8 rfl⟩) ?_
   simp only [nz]
   refine one_ready 13 (by kernel_rfl) ?_
   have ho149 := (rd_one ((hm143.see 10 rfl).1))
   have ho150 := (rd_one ((hm143.see 10 rfl).2))
   refine opd rfl rfl (m_store 9 25 _ _ 0 (.agg #[v135, v136, J (((QeG1 l11 l15 x19 x20 l x10).1).fuse), .bool (((QeG1 l11 l15 x19 x20 l x10).1).down)]) (old := #[.slice none 0 0, .slice none 0 0, J 0, .bool false]) (new := #[v135, v136, J (((QeG1 l11 l15 x19 x20 l x10).1).fuse), .bool (((QeG1 l11 l15 x19 x20 l x10).1).down)]) hm143 rfl rfl rfl rfl rfl (by exact sz_25) (show 0 + 4 ≤ 4 from by decide) a4 rfl (fun w147 hm148 => ?_))
   refine ⟨⟨hm148.at 2 rfl, hm148.at 8 rfl⟩, ?_⟩
   refine one_ready 14 (by kernel_rfl) ?_
   refine opd rfl rfl (w_value 11 (J ((QeG1 l11 l15 x19 x20 l x10).2)) rfl (run_as rfl rfl) ⟨⟨hm148.at 2 rfl, hm148.at 8 rfl⟩, ?_⟩)
   simp only [nz]
   refine wpAnyH_done (by kernel_rfl) ?_ _
   exact ⟨rfl, v135, v136, F138, g129, rfl, (Mm.reorder hm148 [0, 1, 2, 3, 4, 5, 6, 7, 8, 10, 9] (by decide) rfl)⟩
  clear hm78
  rintro _ _ w151 ⟨rfl, v87, v88, F90, g101, rfl, hm152⟩
  have hf153 : (log_m (Dk.mk l11 l15 x19 x20)) = (((l11.length / 4 : Nat)) : Int) := log_is (Dk.mk l11 l15 x19 x20)
  have hf154 : (QeG1 l11 l15 x19 x20 l x10).1.safe.length = l11.length := (put_near (Dk.mk l11 l15 x19 x20) ((log_m (Dk.mk l11 l15 x19 x20)) + (l.getD x10 dWr).at_) ((l.getD x10 dWr).data)).1
  have hf155 : (QeG1 l11 l15 x19 x20 l x10).1.loose.length ≤ l15.length + 1 := (put_near (Dk.mk l11 l15 x19 x20) ((log_m (Dk.mk l11 l15 x19 x20)) + (l.getD x10 dWr).at_) ((l.getD x10 dWr).data)).2.1
  have hf156 : (QeG1 l11 l15 x19 x20 l x10).1.fuse ≤ 9223372036854775807 := (put_near (Dk.mk l11 l15 x19 x20) ((log_m (Dk.mk l11 l15 x19 x20)) + (l.getD x10 dWr).at_) ((l.getD x10 dWr).data)).2.2 (show x19 ≤ 9223372036854775807 from (by omega))
  refine tj (hK79 _ _ (wk (fun K157 hK157 => (wk (fun K158 hK158 => (wq ?_))))))
  refine lm 31 (J ((QeG1 l11 l15 x19 x20 l x10).2)) ?_
  refine lw 32 (.bool (decide (¬ (QeG1 l11 l15 x19 x20 l x10).2 = 0))) (z_neq ((QeG1 l11 l15 x19 x20 l x10).2) 0 rfl rfl rfl) ?_
  simp only [nz]
  refine wn (tj (hK158 _ _ ?_))
  refine cond_d (¬ (QeG1 l11 l15 x19 x20 l x10).2 = 0) rfl (fun hc159 => ?_) (fun hc159 => ?_)
  rotate_left
  ·refine wp_skip (tj (hK157 _ _ (wq ?_)))
   refine lw 35 (.agg #[v87, v88, J (((QeG1 l11 l15 x19 x20 l x10).1).fuse), .bool (((QeG1 l11 l15 x19 x20 l x10).1).down)]) (r_whole (hm152.at 10 rfl) Tryd.underlying25 rfl (by exact sz_25) rfl rfl) ?_
   simp only [nz]
   have ho169 := (rd_one ((hm152.see 9 rfl).1))
   have ho170 := (rd_one ((hm152.see 9 rfl).2))
   refine lst rfl (m_store 2 25 _ _ 0 (.agg #[v87, v88, J (((QeG1 l11 l15 x19 x20 l x10).1).fuse), .bool (((QeG1 l11 l15 x19 x20 l x10).1).down)]) (old := #[v12, v16, J (x19), .bool (x20)]) (new := #[v87, v88, J (((QeG1 l11 l15 x19 x20 l x10).1).fuse), .bool (((QeG1 l11 l15 x19 x20 l x10).1).down)]) hm152 rfl rfl rfl rfl rfl (by exact sz_25) (show 0 + 4 ≤ 4 from by decide) a4 rfl (fun w167 hm168 => ?_))
   refine wn (blk_n (tj (hK72 _ _ (wq ?_))))
   refine lw 36 (J (((x10 + 1) : Nat) : Int)) (r_add x10 1 (show (x10 + 1) < 9223372036854775808 from by omega) rfl rfl rfl) ?_
   refine lm 15 (J (((x10 + 1) : Nat) : Int)) ?_
   simp only [nz]
   refine wn ?_
   obtain ⟨F171, hm172⟩ : ∃ F171, Mm none S w w167 [.see (DkR d dv0 dv1) Fd, .see (Rs eWr 2 l lv0) Fl, .blk g4 #[v87, v88, J (((QeG1 l11 l15 x19 x20 l x10).1).fuse), .bool (((QeG1 l11 l15 x19 x20 l x10).1).down)] 25, .blk g7 #[v22, v26, J (x29 : Int), .bool (x30)] 25, .see (Rs eS 1 l11 v12) F13, .see (Rs eWr 2 l15 v16) F17, .see (Rs eS 1 l21 v22) F23, .see (Rs eWr 2 l25 v26) F27, .blk g76 #[J ((l.getD x10 dWr).at_), .string (tx ((l.getD x10 dWr).data))] 51, .see (DkR ((QeG1 l11 l15 x19 x20 l x10).1) v87 v88) F90, .blk g101 #[v87, v88, J (((QeG1 l11 l15 x19 x20 l x10).1).fuse), .bool (((QeG1 l11 l15 x19 x20 l x10).1).down)] 25, .see (Rs eS 1 (((QeG1 l11 l15 x19 x20 l x10).1).safe) v87) F171] := hm168.derive ((hm168.from 9 rfl).mono (fun _ h => h.1))
   obtain ⟨F174, hm175⟩ : ∃ F174, Mm none S w w167 [.see (DkR d dv0 dv1) Fd, .see (Rs eWr 2 l lv0) Fl, .blk g4 #[v87, v88, J (((QeG1 l11 l15 x19 x20 l x10).1).fuse), .bool (((QeG1 l11 l15 x19 x20 l x10).1).down)] 25, .blk g7 #[v22, v26, J (x29 : Int), .bool (x30)] 25, .see (Rs eS 1 l11 v12) F13, .see (Rs eWr 2 l15 v16) F17, .see (Rs eS 1 l21 v22) F23, .see (Rs eWr 2 l25 v26) F27, .blk g76 #[J ((l.getD x10 dWr).at_), .string (tx ((l.getD x10 dWr).data))] 51, .see (DkR ((QeG1 l11 l15 x19 x20 l x10).1) v87 v88) F90, .blk g101 #[v87, v88, J (((QeG1 l11 l15 x19 x20 l x10).1).fuse), .bool (((QeG1 l11 l15 x19 x20 l x10).1).down)] 25, .see (Rs eS 1 (((QeG1 l11 l15 x19 x20 l x10).1).safe) v87) F171, .see (Rs eWr 2 (((QeG1 l11 l15 x19 x20 l x10).1).loose) v88) F174] := hm172.derive ((hm172.from 9 rfl).mono (fun _ h => h.2))
   obtain ⟨F177, hm178⟩ := hm175.derive (hm175.from 6 rfl)
   obtain ⟨F180, hm181⟩ := hm178.derive (hm178.from 7 rfl)
   refine tj (hR66 _ _ _ ⟨k44, (x10 + 1), (((QeG1 l11 l15 x19 x20 l x10).1).safe), (((QeG1 l11 l15 x19 x20 l x10).1).loose), ((QeG1 l11 l15 x19 x20 l x10).1).fuse, (((QeG1 l11 l15 x19 x20 l x10).1).down), l21, l25, x29, x30, v87, F171, v88, F174, v22, F177, v26, F180, (fun qq => bif Nat.blt qq 24 then List.getD [u0 0, Pp g76 0, Pp g101 0, J ((QeG1 l11 l15 x19 x20 l x10).2), .bool (decide (x10 < l.length)), .pointer (some ⟨(bk lv0), (po lv0 + x10 * 2), none⟩), .agg #[J ((l.getD x10 dWr).at_), .string (tx ((l.getD x10 dWr).data))], .tuple #[.agg #[v87, v88, J (((QeG1 l11 l15 x19 x20 l x10).1).fuse), .bool (((QeG1 l11 l15 x19 x20 l x10).1).down)], J ((QeG1 l11 l15 x19 x20 l x10).2)], .agg #[v12, v16, J (x19), .bool (x20)], .agg #[v12, v16, J (x19), .bool (x20)], J ((log_m (Dk.mk l11 l15 x19 x20))), Pp g76 0, J ((l.getD x10 dWr).at_), J (((log_m (Dk.mk l11 l15 x19 x20)) + (l.getD x10 dWr).at_)), Pp g76 1, .string (tx ((l.getD x10 dWr).data)), .tuple #[.agg #[v87, v88, J (((QeG1 l11 l15 x19 x20 l x10).1).fuse), .bool (((QeG1 l11 l15 x19 x20 l x10).1).down)], J ((QeG1 l11 l15 x19 x20 l x10).2)], .agg #[v87, v88, J (((QeG1 l11 l15 x19 x20 l x10).1).fuse), .bool (((QeG1 l11 l15 x19 x20 l x10).1).down)], J ((QeG1 l11 l15 x19 x20 l x10).2), J ((QeG1 l11 l15 x19 x20 l x10).2), .bool (decide (¬ (QeG1 l11 l15 x19 x20 l x10).2 = 0)), u0 21, u0 22, .agg #[v87, v88, J (((QeG1 l11 l15 x19 x20 l x10).1).fuse), .bool (((QeG1 l11 l15 x19 x20 l x10).1).down)]] qq undef else List.getD [J (((x10 + 1) : Nat) : Int)] (qq - 24) undef), rfl, (by omega), (hi45.trans (show bring_m_b0 d epoch l (bring_m_l0 d epoch l k44) x10 l11 l15 x19 x20 l21 l25 x29 x30 = bring_m_l0 d epoch l k44 ((x10 + 1), (((QeG1 l11 l15 x19 x20 l x10).1).safe), (((QeG1 l11 l15 x19 x20 l x10).1).loose), ((QeG1 l11 l15 x19 x20 l x10).1).fuse, (((QeG1 l11 l15 x19 x20 l x10).1).down), l21, l25, x29, x30) from by unfold bring_m_b0; rw [if_pos hc71, if_neg hc159] <;> rfl)), (by omega), rfl, (Mm.reorder hm181 [0, 1, 2, 3, 11, 12, 13, 14] (by decide) rfl)⟩ ?_)
   omega
  refine wk (fun K160 hK160 => (wq ?_))
  refine lw 33 (.agg #[v87, v88, J (((QeG1 l11 l15 x19 x20 l x10).1).fuse), .bool (((QeG1 l11 l15 x19 x20 l x10).1).down)]) (r_whole (hm152.at 10 rfl) Tryd.underlying25 rfl (by exact sz_25) rfl rfl) ?_
  refine lm 34 (J ((QeG1 l11 l15 x19 x20 l x10).2)) ?_
  simp only [nz]
  have ho163 := (rd_one ((hm152.see 9 rfl).1))
  have ho164 := (rd_one ((hm152.see 9 rfl).2))
  refine lst rfl (m_store 3 25 _ _ 0 (.agg #[v87, v88, J (((QeG1 l11 l15 x19 x20 l x10).1).fuse), .bool (((QeG1 l11 l15 x19 x20 l x10).1).down)]) (old := #[v22, v26, J (x29 : Int), .bool (x30)]) (new := #[v87, v88, J (((QeG1 l11 l15 x19 x20 l x10).1).fuse), .bool (((QeG1 l11 l15 x19 x20 l x10).1).down)]) hm152 rfl rfl rfl rfl rfl (by exact sz_25) (show 0 + 4 ≤ 4 from by decide) a4 rfl (fun w161 hm162 => ?_))
  refine la 7 (J ((QeG1 l11 l15 x19 x20 l x10).2)) ?_
  simp only [nz]
  refine wn (tj (hK160 _ _ (wp_ret (then_r (blk_r (then_r (then_r (blk_r (then_r (then_r ?_))))))))))
  have he165 : bring_m_l0 d epoch l ((l.length - 0) + 1) (0, d.safe, d.loose, d.fuse, d.down, ([] : List (List UInt8)), ([] : List Wr), 0, false) = .inr (((QeG1 l11 l15 x19 x20 l x10).1), (QeG1 l11 l15 x19 x20 l x10).2) := (hi45.trans (show bring_m_b0 d epoch l (bring_m_l0 d epoch l k44) x10 l11 l15 x19 x20 l21 l25 x29 x30 = .inr (((QeG1 l11 l15 x19 x20 l x10).1), (QeG1 l11 l15 x19 x20 l x10).2) from by unfold bring_m_b0; rw [if_pos hc71, if_pos hc159] <;> rfl))
  have he166 : bring_m d epoch l = (((QeG1 l11 l15 x19 x20 l x10).1), (QeG1 l11 l15 x19 x20 l x10).2) := by unfold bring_m; rw [he165] <;> rfl
  exact ⟨rfl, .tuple #[.agg #[v87, v88, J (((QeG1 l11 l15 x19 x20 l x10).1).fuse), .bool (((QeG1 l11 l15 x19 x20 l x10).1).down)], J ((QeG1 l11 l15 x19 x20 l x10).2)], Mem.res_ct rfl rfl (hm162.at 3 rfl) Tryd.underlying25 rfl (by exact sz_25) rfl, ⟨⟨_, rfl, v87, v88, (by rw [he166]), by rw [he166]; exact hm162.give (hm162.from 9 rfl)⟩, hm162.below⟩⟩
 rintro _ w195 ⟨y46, y47, y50, y53, y54, y55, y58, y61, y62, v48, F49, v51, F52, v56, F57, v59, F60, yu0, hx63, hbr, rfl, hm196⟩
 have hq197 : bring_m d epoch l = bring_m_k0 d epoch l y46 y47 y50 y53 y54 y55 y58 y61 y62 := (show bring_m d epoch l = bring_m_k0 d epoch l y46 y47 y50 y53 y54 y55 y58 y61 y62 from by unfold bring_m; rw [hx63] <;> rfl)
 refine tj (hK8 _ _ (wk (fun K198 hK198 => (wq ?_))))
 refine lw 38 (.agg #[v48, v51, J (y53), .bool (y54)]) (r_whole (hm196.at 2 rfl) Tryd.underlying25 rfl (by exact sz_25) rfl rfl) ?_
 simp only [nz]
 refine lst rfl (m_callx hm196 39 rfl (run_flush rfl rfl) (flush_any (Dk.mk y47 y50 y53 y54) v48 v51 (seeS _) _ ((hm196.from 4 rfl).and (hm196.from 5 rfl)) (by simp; omega) (by simp; omega) (by simp; omega)) (fun vv205 w199 hR206 hb207 hm200 => ?_))
 obtain ⟨v201, v202, rfl, hg208⟩ := hR206
 obtain ⟨F204, hm209⟩ : ∃ F204, Mm none S w w199 [.see (DkR d dv0 dv1) Fd, .see (Rs eWr 2 l lv0) Fl, .blk g4 #[v48, v51, J (y53), .bool (y54)] 25, .blk g7 #[v56, v59, J (y61 : Int), .bool (y62)] 25, .see (Rs eS 1 y47 v48) F49, .see (Rs eWr 2 y50 v51) F52, .see (Rs eS 1 y55 v56) F57, .see (Rs eWr 2 y58 v59) F60, .see (DkR ((flush_m (Dk.mk y47 y50 y53 y54)).1) v201 v202) F204] := Mm.tookS hm196 hb207 hg208
 clear hm200 hg208 hb207
 have hf210 : (flush_m (Dk.mk y47 y50 y53 y54)).1.safe.length = y47.length := (flush_near (Dk.mk y47 y50 y53 y54)).1
 have hf211 : (flush_m (Dk.mk y47 y50 y53 y54)).1.loose.length ≤ y50.length + 0 := (flush_near (Dk.mk y47 y50 y53 y54)).2.1
 have hf212 : (flush_m (Dk.mk y47 y50 y53 y54)).1.fuse ≤ 9223372036854775807 := (flush_near (Dk.mk y47 y50 y53 y54)).2.2 (show y53 ≤ 9223372036854775807 from (by omega))
 simp only [nz]
 refine lm 37 (.tuple #[.agg #[v201, v202, J (((flush_m (Dk.mk y47 y50 y53 y54)).1).fuse), .bool (((flush_m (Dk.mk y47 y50 y53 y54)).1).down)], J ((flush_m (Dk.mk y47 y50 y53 y54)).2)]) ?_
 refine lw 40 (.agg #[v201, v202, J (((flush_m (Dk.mk y47 y50 y53 y54)).1).fuse), .bool (((flush_m (Dk.mk y47 y50 y53 y54)).1).down)]) (run_ex rfl rfl rfl) ?_
 refine lw 41 (J ((flush_m (Dk.mk y47 y50 y53 y54)).2)) (run_ex rfl rfl rfl) ?_
 simp only [nz]
 have ho215 := (rd_one ((hm209.see 8 rfl).1))
 have ho216 := (rd_one ((hm209.see 8 rfl).2))
 refine lst rfl (m_store 2 25 _ _ 0 (.agg #[v201, v202, J (((flush_m (Dk.mk y47 y50 y53 y54)).1).fuse), .bool (((flush_m (Dk.mk y47 y50 y53 y54)).1).down)]) (old := #[v48, v51, J (y53), .bool (y54)]) (new := #[v201, v202, J (((flush_m (Dk.mk y47 y50 y53 y54)).1).fuse), .bool (((flush_m (Dk.mk y47 y50 y53 y54)).1).down)]) hm209 rfl rfl rfl rfl rfl (by exact sz_25) (show 0 + 4 ≤ 4 from by decide) a4 rfl (fun w213 hm214 => ?_))
 refine la 12 (J ((flush_m (Dk.mk y47 y50 y53 y54)).2)) ?_
 simp only [nz]
 refine wn (tj (hK198 _ _ (wk (fun K217 hK217 => (wk (fun K218 hK218 => (wq ?_)))))))
 refine lm 42 (J ((flush_m (Dk.mk y47 y50 y53 y54)).2)) ?_
 refine lw 43 (.bool (decide (¬ (flush_m (Dk.mk y47 y50 y53 y54)).2 = 0))) (z_neq ((flush_m (Dk.mk y47 y50 y53 y54)).2) 0 rfl rfl rfl) ?_
 simp only [nz]
 refine wn (tj (hK218 _ _ ?_))
 refine cond_d (¬ (flush_m (Dk.mk y47 y50 y53 y54)).2 = 0) rfl (fun hc219 => ?_) (fun hc219 => ?_)
 ·refine wk (fun K220 hK220 => (wq ?_))
  refine lw 44 (.agg #[v201, v202, J (((flush_m (Dk.mk y47 y50 y53 y54)).1).fuse), .bool (((flush_m (Dk.mk y47 y50 y53 y54)).1).down)]) (r_whole (hm214.at 2 rfl) Tryd.underlying25 rfl (by exact sz_25) rfl rfl) ?_
  refine lm 45 (J ((flush_m (Dk.mk y47 y50 y53 y54)).2)) ?_
  simp only [nz]
  have ho223 := (rd_one ((hm214.see 8 rfl).1))
  have ho224 := (rd_one ((hm214.see 8 rfl).2))
  refine lst rfl (m_store 3 25 _ _ 0 (.agg #[v201, v202, J (((flush_m (Dk.mk y47 y50 y53 y54)).1).fuse), .bool (((flush_m (Dk.mk y47 y50 y53 y54)).1).down)]) (old := #[v56, v59, J (y61 : Int), .bool (y62)]) (new := #[v201, v202, J (((flush_m (Dk.mk y47 y50 y53 y54)).1).fuse), .bool (((flush_m (Dk.mk y47 y50 y53 y54)).1).down)]) hm214 rfl rfl rfl rfl rfl (by exact sz_25) (show 0 + 4 ≤ 4 from by decide) a4 rfl (fun w221 hm222 => ?_))
  refine la 7 (J ((flush_m (Dk.mk y47 y50 y53 y54)).2)) ?_
  simp only [nz]
  refine wn (tj (hK220 _ _ (wp_ret (then_r ?_))))
  have he225 : bring_m d epoch l = (((flush_m (Dk.mk y47 y50 y53 y54)).1), (flush_m (Dk.mk y47 y50 y53 y54)).2) := (hq197.trans (show bring_m_k0 d epoch l y46 y47 y50 y53 y54 y55 y58 y61 y62 = (((flush_m (Dk.mk y47 y50 y53 y54)).1), (flush_m (Dk.mk y47 y50 y53 y54)).2) from by unfold bring_m_k0; rw [if_pos hc219] <;> rfl))
  exact ⟨rfl, .tuple #[.agg #[v201, v202, J (((flush_m (Dk.mk y47 y50 y53 y54)).1).fuse), .bool (((flush_m (Dk.mk y47 y50 y53 y54)).1).down)], J ((flush_m (Dk.mk y47 y50 y53 y54)).2)], Mem.res_ct rfl rfl (hm222.at 3 rfl) Tryd.underlying25 rfl (by exact sz_25) rfl, ⟨⟨_, rfl, v201, v202, (by rw [he225]), by rw [he225]; exact hm222.give (hm222.from 8 rfl)⟩, hm222.below⟩⟩
 refine wp_skip (tj (hK217 _ _ (wk (fun K226 hK226 => ?_))))
 have hm227 := hm214.drew
 refine wp_region_held_drew (S := fun w' => Mem.Blk w' g4 (#[v201, v202, J (((flush_m (Dk.mk y47 y50 y53 y54)).1).fuse), .bool (((flush_m (Dk.mk y47 y50 y53 y54)).1).down)]) 25) (by kernel_rfl) (hm227.at 2 rfl) (fun _ => ?_)
 generalize w213.drew = w228 at *
 refine tk 0 46 (.agg #[v201, v202, J (((flush_m (Dk.mk y47 y50 y53 y54)).1).fuse), .bool (((flush_m (Dk.mk y47 y50 y53 y54)).1).down)]) rfl rfl (fun _ hw => r_whole hw Tryd.underlying25 rfl (by exact sz_25) rfl rfl) (hm227.at 2 rfl) ?_
 simp only [nz]
 refine tk 1 47 (J (epoch)) rfl rfl (fun _ hw => run_mv rfl rfl) (hm227.at 2 rfl) ?_
 simp only [nz]
 refine tk 2 48 (J ((epoch + (1 : Int)))) rfl rfl (fun _ hw => z_add epoch (1 : Int) _ (by rw [IntKind.wrap_i64]; omega) rfl rfl rfl) (hm227.at 2 rfl) ?_
 simp only [nz]
 refine one_ready 3 (by kernel_rfl) ?_
 refine opd rfl (wanted_none rfl) (m_call hm227 49 (.string (tx (beginning_m (epoch + (1 : Int))))) rfl (run_beginning rfl rfl) (beginning_any (epoch + (1 : Int))  _  ) (fun w229 hm230 => ?_))
 have hf231 : (beginning_m (epoch + (1 : Int))).length = 256 := beginning_len (epoch + (1 : Int))
 refine ⟨hm230.at 2 rfl, ?_⟩
 simp only [nz]
 refine one_ready 4 (by kernel_rfl) ?_
 refine opd rfl (wanted_none rfl) (m_make (c := #[.string (tx (beginning_m (epoch + (1 : Int))))]) (T := 9) (fun g => Sl g 0 1 1) hm230 50 rfl (by unfold execOp; go_simp; try rfl) (fun g234 w232 hm233 => ?_))
 refine ⟨hm233.at 2 rfl, ?_⟩
 simp only [nz]
 refine one_ready 5 (by kernel_rfl) ?_
 have hm237 : Mm none S w w232 [.see (DkR d dv0 dv1) Fd, .see (Rs eWr 2 l lv0) Fl, .blk g4 #[v201, v202, J (((flush_m (Dk.mk y47 y50 y53 y54)).1).fuse), .bool (((flush_m (Dk.mk y47 y50 y53 y54)).1).down)] 25, .blk g7 #[v56, v59, J (y61 : Int), .bool (y62)] 25, .see (Rs eS 1 y47 v48) F49, .see (Rs eWr 2 y50 v51) F52, .see (Rs eS 1 y55 v56) F57, .see (Rs eWr 2 y58 v59) F60, .see (DkR ((flush_m (Dk.mk y47 y50 y53 y54)).1) v201 v202) F204, .see (Rs eS 1 ([(beginning_m (epoch + (1 : Int)))] : List (List UInt8)) (Sl g234 0 1 1)) (fp (Sl g234 0 1 1) (List.flatMap eS ([(beginning_m (epoch + (1 : Int)))] : List (List UInt8))))] := hm233.freezeB 9 rfl rfl rfl eS_len
 refine opd rfl (wanted_none rfl) (m_callx hm237 51 rfl (run_putfl rfl rfl rfl rfl) (putfl_any ((flush_m (Dk.mk y47 y50 y53 y54)).1) 0 ([(beginning_m (epoch + (1 : Int)))] : List (List UInt8)) v201 v202 (Sl g234 0 1 1) (seeS _) _ (hm237.from 8 rfl) (hm237.from 9 rfl) (by omega) (by omega) (by omega) (by simp; done) (by omega) (by omega)) (fun vv243 w235 hR244 hb245 hm236 => ?_))
 obtain ⟨v239, v240, rfl, hg246⟩ := hR244
 obtain ⟨F242, hm247⟩ : ∃ F242, Mm none S w w235 [.see (DkR d dv0 dv1) Fd, .see (Rs eWr 2 l lv0) Fl, .blk g4 #[v201, v202, J (((flush_m (Dk.mk y47 y50 y53 y54)).1).fuse), .bool (((flush_m (Dk.mk y47 y50 y53 y54)).1).down)] 25, .blk g7 #[v56, v59, J (y61 : Int), .bool (y62)] 25, .see (Rs eS 1 y47 v48) F49, .see (Rs eWr 2 y50 v51) F52, .see (Rs eS 1 y55 v56) F57, .see (Rs eWr 2 y58 v59) F60, .see (DkR ((flush_m (Dk.mk y47 y50 y53 y54)).1) v201 v202) F204, .see (Rs eS 1 ([(beginning_m (epoch + (1 : Int)))] : List (List UInt8)) (Sl g234 0 1 1)) (fp (Sl g234 0 1 1) (List.flatMap eS ([(beginning_m (epoch + (1 : Int)))] : List (List UInt8)))), .see (DkR ((QeG2 y47 y50 y53 y54 epoch).1) v239 v240) F242] := Mm.tookS hm237 hb245 hg246
 clear hm236 hg246 hb245
 have hf248 : (QeG2 y47 y50 y53 y54 epoch).1.safe.length = ((flush_m (Dk.mk y47 y50 y53 y54)).1).safe.length := (putfl_near ((flush_m (Dk.mk y47 y50 y53 y54)).1) 0 ([(beginning_m (epoch + (1 : Int)))] : List (List UInt8))).1
 have hf249 : (QeG2 y47 y50 y53 y54 epoch).1.loose.length ≤ ((flush_m (Dk.mk y47 y50 y53 y54)).1).loose.length + (([(beginning_m (epoch + (1 : Int)))] : List (List UInt8)) : List (List UInt8)).length := (putfl_near ((flush_m (Dk.mk y47 y50 y53 y54)).1) 0 ([(beginning_m (epoch + (1 : Int)))] : List (List UInt8))).2.1
 have hf250 : (QeG2 y47 y50 y53 y54 epoch).1.fuse ≤ 9223372036854775807 := (putfl_near ((flush_m (Dk.mk y47 y50 y53 y54)).1) 0 ([(beginning_m (epoch + (1 : Int)))] : List (List UInt8))).2.2 (show ((flush_m (Dk.mk y47 y50 y53 y54)).1).fuse ≤ 9223372036854775807 from (by omega))
 refine ⟨hm247.at 2 rfl, ?_⟩
 simp only [nz]
 refine tk 6 52 (.agg #[v239, v240, J (((QeG2 y47 y50 y53 y54 epoch).1).fuse), .bool (((QeG2 y47 y50 y53 y54 epoch).1).down)]) rfl rfl (fun _ hw => run_ex rfl rfl rfl) (hm247.at 2 rfl) ?_
 simp only [nz]
 refine tk 7 53 (J ((QeG2 y47 y50 y53 y54 epoch).2)) rfl rfl (fun _ hw => run_ex rfl rfl rfl) (hm247.at 2 rfl) ?_
 simp only [nz]
 refine one_ready 8 (by kernel_rfl) ?_
 have ho253 := (rd_one ((hm247.see 10 rfl).1))
 have ho254 := (rd_one ((hm247.see 10 rfl).2))
 refine opd rfl (wanted_none rfl) (m_store 3 25 _ _ 0 (.agg #[v239, v240, J (((QeG2 y47 y50 y53 y54 epoch).1).fuse), .bool (((QeG2 y47 y50 y53 y54 epoch).1).down)]) (old := #[v56, v59, J (y61 : Int), .bool (y62)]) (new := #[v239, v240, J (((QeG2 y47 y50 y53 y54 epoch).1).fuse), .bool (((QeG2 y47 y50 y53 y54 epoch).1).down)]) hm247 rfl rfl rfl rfl rfl (by exact sz_25) (show 0 + 4 ≤ 4 from by decide) a4 rfl (fun w251 hm252 => ?_))
 refine ⟨hm252.at 2 rfl, ?_⟩
 refine one_ready 9 (by kernel_rfl) ?_
 refine opd rfl (wanted_none rfl) (w_value 7 (J ((QeG2 y47 y50 y53 y54 epoch).2)) rfl (run_as rfl rfl) ⟨hm252.at 2 rfl, ?_⟩)
 simp only [nz]
 refine wpAnyH_done (by kernel_rfl) ?_ _
 refine tj (hK226 _ _ (wp_ret ?_))
 have he255 : bring_m d epoch l = (((QeG2 y47 y50 y53 y54 epoch).1), (QeG2 y47 y50 y53 y54 epoch).2) := (hq197.trans (show bring_m_k0 d epoch l y46 y47 y50 y53 y54 y55 y58 y61 y62 = (((QeG2 y47 y50 y53 y54 epoch).1), (QeG2 y47 y50 y53 y54 epoch).2) from by unfold bring_m_k0; rw [if_neg hc219] <;> rfl))
 exact ⟨rfl, .tuple #[.agg #[v239, v240, J (((QeG2 y47 y50 y53 y54 epoch).1).fuse), .bool (((QeG2 y47 y50 y53 y54 epoch).1).down)], J ((QeG2 y47 y50 y53 y54 epoch).2)], Mem.res_ct rfl rfl (hm252.at 3 rfl) Tryd.underlying25 rfl (by exact sz_25) rfl, ⟨⟨_, rfl, v239, v240, (by rw [he255]), by rw [he255]; exact hm252.give (hm252.from 10 rfl)⟩, hm252.below⟩⟩
theorem run_bring {o : Oper} {a : Act} {w : World} {x0 x1 x2 : Operand} {v0 v1 v2 : Value} (ho : o.op = .call { callee := .value (.func 49), args := #[x0, x1, x2], argTypes := #[25, 3, 23] }) (h0 : a.eval x0 = v0) (h1 : a.eval x1 = v1) (h2 : a.eval x2 = v2) :
  (execOp a.eval o).run Tryd.prog w = .ok (.enter 49 #[v0, v1, v2]) w := by
 unfold execOp
 simp only [ho]
 have hf : a.eval (.func 49) = .func (.func 49) #[] #[] := rfl
 generalize a.eval = f at *
 go_simp
end Go.Proofs.YtnmaaijeamlplaaDoor.Bk
