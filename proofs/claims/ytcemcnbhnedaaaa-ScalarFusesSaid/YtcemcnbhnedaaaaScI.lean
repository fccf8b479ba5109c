/- Layer 4: what the laws need: numbers compared, texts of numbers, the document's example. -/
import Derived.Test.YtcemcnbhnedaaaaScD
import Derived.Test.YtcemcnbhnedaaaaSy
import Derived.Stop.BytesEq
import Derived.Lib.Hide
namespace Go.Proofs.Ytcemcnbhnedaaaa.Fld
open Go.RowKit Go.Shelf
open Go.Proofs.Ytcemcnbhnedaaaa.Num (val up val_congr val_add val_lt val_up val_digits val_word)
open Go.Proofs.Ytcemcnbhnedaaaa.Arr Go.Proofs.Ytcemcnbhnedaaaa.Sym Go.Proofs.Ytcemcnbhnedaaaa.Sx

theorem bytes_same (m n : Nat) (hm : m < MM) (hn : n < MM) : (∀ j, j < 32 → bt m j = bt n j) ↔ m = n := by
  constructor
  · intro h
    have := val_congr (b := 256) (f := bt m) (g := bt n) (n := 32) h
    rw [val_bt, val_bt, ← MM_eq_b, Nat.mod_eq_of_lt hm, Nat.mod_eq_of_lt hn] at this
    exact this
  · rintro rfl _ _; rfl
/-- Two rows of whole numbers are compared. -/
theorem run_equal_rows {P : Program} (w : World) (d : Nat) (t e : TypeId) (k : IntKind) (n : Nat) (ht : P.underlying t = some (.array n e)) (he : P.underlying e = some (.int k)) (hsz : ∀ w, (sizeOf e).run P w = .ok 1 w) (f g : Nat → Nat) :
    (Op.equalIn (d + 2) t (.agg (rowOf k f n)) (.agg (rowOf k g n))).run P w = .ok ((List.range n).all fun i => f i == g i) w := by
  rw [List.range_eq_range', Op.equalIn]
  simp only [Sem.run_bind, run_underlying ht, Result.andThen_ok, hsz, Std.Legacy.Range.forIn_eq_forIn_range', Std.Legacy.Range.size, Nat.sub_zero, Nat.add_sub_cancel, Nat.div_one]
  have hl : ∀ i ∈ List.range' 0 n 1, i < n := fun i hi => by simpa using (List.mem_range'_1.1 hi).2
  generalize List.range' 0 n 1 = l at hl ⊢
  induction l with
  | nil => simp
  | cons i l ih =>
    have hi : i < n := hl i (by simp)
    have px : (_root_.Go.part e (rowOf k f n) (i * 1)).run P w = .ok (.int k (f i : Int)) w := by
      simp [_root_.Go.part, isAgg, run_underlying he, rowOf_get k f n i hi]
    have py : (_root_.Go.part e (rowOf k g n) (i * 1)).run P w = .ok (.int k (g i : Int)) w := by
      simp [_root_.Go.part, isAgg, run_underlying he, rowOf_get k g n i hi]
    have pe : (Op.equalIn (d + 1) e (.int k (f i : Int)) (.int k (g i : Int))).run P w = .ok (f i == g i) w := by
      rw [run_equalIn_int w d e k k _ _ he]
      congr 1
      rw [Bool.eq_iff_iff]
      simp
      omega
    simp only [List.forIn_cons, Sem.run_bind, px, py, pe, Result.andThen_ok, List.all_cons]
    cases hb : (f i == g i)
    · simp
    · simp only [Bool.not_true, Bool.false_eq_true, if_false, Sem.run_pure, Result.andThen_ok, Bool.true_and]
      exact ih fun j hj => hl j (by simp [hj])
theorem all_b (m n : Nat) (hm : m < MM) (hn : n < MM) : ((List.range 32).all fun i => bt m i == bt n i) = decide (m = n) := by
  rw [Bool.eq_iff_iff, List.all_eq_true, decide_eq_true_iff, ← bytes_same m n hm hn]
  constructor
  · intro h j hj; simpa using h j (by simpa using hj)
  · intro h j hj; simpa using h j (by simpa using hj)
theorem size5 : ∀ w, (sizeOf 5).run Try.prog w = .ok 1 w := Try.sizeOf5
theorem run_eqN {o : Oper} {a : Act} {w : World} {x y : Operand} (m n : Nat) (hm : m < MM) (hn : n < MM) (c : Bool) (hc : decide (m = n) = c) (ho : o.op = .binOp .eql 23 x y 23) (hx : a.eval x = .agg (bs m)) (hy : a.eval y = .agg (bs n)) :
    (execOp a.eval o).run Try.prog w = .ok (.value (.bool c)) w := by
  have e := run_equal_rows (P := Try.prog) w 9998 23 5 .u8 32 Try.underlying23 Try.underlying5 size5 (bt m) (bt n)
  rw [all_b m n hm hn, hc] at e
  have e' : (Op.equalIn 10000 23 (.agg (bs m)) (.agg (bs n))).run Try.prog w = .ok c w := e
  clear e
  unfold execOp
  simp only [ho, hx, hy]
  generalize a.eval = f at *
  go_simp
theorem run_eqB {o : Oper} {a : Act} {w : World} {x y : Operand} (c d : Bool) (ho : o.op = .binOp .eql 4 x y 4) (hx : a.eval x = .bool c) (hy : a.eval y = .bool d) :
    (execOp a.eval o).run Try.prog w = .ok (.value (.bool (c == d))) w := by
  unfold execOp
  simp only [ho, hx, hy]
  generalize a.eval = f at *
  go_simp
theorem run_eqBt {o : Oper} {a : Act} {w : World} {x y : Operand} (c d : Bool) (h : c = d) (ho : o.op = .binOp .eql 4 x y 4) (hx : a.eval x = .bool c) (hy : a.eval y = .bool d) :
    (execOp a.eval o).run Try.prog w = .ok (.value (.bool true)) w := by
  have := run_eqB (w := w) c d ho hx hy
  rw [this, h]; simp
theorem canon_true (a : Nat) (h : a < LL) (w : World) : Calls Try.prog 11 #[.agg (bs a)] w fun e w' => e = .returned (.bool true) ∧ Below w.heap.size w w' := by
  have := canon_any a (Nat.lt_trans h (by decide)) w
  rw [decide_eq_true h] at this
  exact this
theorem canon_false (a : Nat) (ha : a < MM) (h : ¬ a < LL) (w : World) : Calls Try.prog 11 #[.agg (bs a)] w fun e w' => e = .returned (.bool false) ∧ Below w.heap.size w w' := by
  have := canon_any a ha w
  rw [decide_eq_false h] at this
  exact this
/-- The text of a number's 32 bytes. -/
def nb (a : Nat) : ByteArray := txt (bt a) 32
theorem nb_size (a : Nat) : (nb a).size = 32 := txt_size _ _
theorem cat_size (a b : Nat) : (nb a ++ nb b).size = 64 := by rw [ByteArray.size_append, nb_size, nb_size]
theorem sb_txt (f : Nat → Nat) (n j : Nat) (hf : f j < 256) (hj : j < n) : sb (txt f n) j = f j := by
  have h : j < (txt f n).size := by rw [txt_size]; exact hj
  unfold sb
  rw [dif_pos h]
  exact txt_at f n j h hf
theorem sb_cat (s t : ByteArray) (j : Nat) : sb (s ++ t) j = if j < s.size then sb s j else sb t (j - s.size) := by
  have hz := ByteArray.size_append (a := s) (b := t)
  unfold sb
  by_cases h : j < s.size
  · rw [if_pos h, dif_pos h, dif_pos (by omega), ByteArray.getElem_append_left h]
  · rw [if_neg h]
    by_cases h2 : j < s.size + t.size
    · rw [dif_pos (by omega), dif_pos (by omega), ByteArray.getElem_append_right (by omega)]
    · rw [dif_neg (by omega), dif_neg (by omega)]
theorem n64_cat (a b : Nat) (ha : a < MM) (hb : b < MM) : n64 (nb a ++ nb b) = a + MM * b := by
  have h1 : lo32 (nb a ++ nb b) = a := by
    unfold lo32
    rw [val_congr (g := bt a) (fun j hj => by rw [sb_cat, if_pos (by rw [nb_size]; exact hj)]; exact sb_txt _ _ _ (bt_lt _ _) hj), val_bt, ← MM_eq_b, Nat.mod_eq_of_lt ha]
  have h2 : hi32 (nb a ++ nb b) = b := by
    unfold hi32
    rw [val_congr (g := bt b) (fun j hj => by rw [sb_cat, if_neg (by rw [nb_size]; omega), nb_size, Nat.add_sub_cancel_left]; exact sb_txt _ _ _ (bt_lt _ _) hj), val_bt, ← MM_eq_b, Nat.mod_eq_of_lt hb]
  rw [← n64_eq, h1, h2]
theorem wide_cat (a b : Nat) (ha : a < MM) (hb : b < MM) (w : World) : Calls Try.prog 8 #[.string (nb a ++ nb b)] w fun e w' => e = .returned (.tuple #[.agg (bs ((a + MM * b) % LL)), .bool true]) ∧ Below w.heap.size w w' := by
  have h := wide_yes (nb a ++ nb b) (cat_size a b) w
  rw [n64_cat a b ha hb] at h
  exact h
def zs : ByteArray := txt (fun _ => 0) 64
theorem zs_0 : n64 zs % LL = 0 := by
  have : n64 zs = 0 := by
    unfold n64 zs
    rw [val_congr (g := fun _ => 0) (fun j hj => sb_txt (fun _ => 0) 64 j (by decide) hj)]
    decide
  rw [this]; decide
theorem wide_zs (w : World) : Calls Try.prog 8 #[.string zs] w fun e w' => e = .returned (.tuple #[.agg (bs 0), .bool true]) ∧ Below w.heap.size w w' := by
  have h := wide_yes zs (txt_size _ _) w
  rw [zs_0] at h
  exact h
theorem fuse22 (w : World) : Calls Try.prog 13 #[.agg (bs 3), .agg (bs 5), .agg (bs 7)] w fun e w' => e = .returned (.agg (bs 22)) ∧ Below w.heap.size w w' := by
  have h := fuse_any 3 5 7 (by decide) (by decide) (by decide) w
  rw [show (3 * 5 + 7) % LL = 22 by decide] at h
  exact h
set_option maxHeartbeats 2000000 in
set_option maxRecDepth 100000 in
theorem awake_any  (w : World) : Calls Try.prog 10 #[] w (fun e w' => e = .returned (.bool true) ∧ Below w.heap.size w w') := by
  go_enter Try.func10, Try.ntmps10
  have hm0 := Mm.nil w
  refine wp_seq_k (fun K1 hK1 => ?_)
  refine wp_region_lit ?_
  refine lst (wanted_none rfl) (w_value 0 (.bool false) rfl (run_as rfl rfl) ?_)
  simp only [List.setIfInBounds_toArray, List.set_cons_zero]
  refine wpList_nil ?_
  refine then_n (hK1 _ _ ?_)
  refine wp_seq_k (fun K2 hK2 => ?_)
  refine wp_region_lit ?_
  obtain ⟨iq, hiq, hz1, hz2, hz3⟩ : ∃ i, Try.prog.info? 5 = some i ∧ i.zero = some (.int .u8 0) ∧ i.size = 1 ∧ i.bytes = 1 := ⟨_, rfl, rfl, rfl, rfl⟩
  refine lst (wanted_none rfl) (m_make (c := rowOf .u8 (fun _ => 0) 64) (T := 5) (fun g => .slice (some ⟨g, 0, none⟩) 64 64) hm0 4 rfl (r_make 64 iq (by decide) Try.underlying31 hiq hz1 hz2 hz3 rfl rfl rfl) (fun g3 w4 (hm5 : Mm w w4 [(g3, rowOf .u8 (fun _ => 0) 64, 5)]) => ?_))
  simp only [List.setIfInBounds_toArray, List.set_cons_zero, List.set_cons_succ]
  refine lst (wanted_none rfl) (w_value 5 (.string zs) rfl (r_string g3 64 64 (fun _ => 0) 5 (fun _ _ => (by decide)) (hm5.at 0 rfl) Try.underlying31 Try.underlying5 Try.underlying9 rfl rfl) ?_)
  simp only [List.setIfInBounds_toArray, List.set_cons_zero, List.set_cons_succ]
  refine lst (wanted_none rfl) (m_call hm5 6 (.tuple #[.agg (bs 0), .bool true]) rfl (run_Wide rfl rfl) (wide_zs _) (fun w6 hm7 => ?_))
  simp only [List.setIfInBounds_toArray, List.set_cons_zero, List.set_cons_succ]
  refine lst (wanted_none rfl) (w_value 3 (.tuple #[.agg (bs 0), .bool true]) rfl (run_mv rfl rfl) ?_)
  simp only [List.setIfInBounds_toArray, List.set_cons_zero, List.set_cons_succ]
  refine lst (wanted_none rfl) (w_value 7 (.agg (bs 0)) rfl (run_ex rfl rfl rfl) ?_)
  simp only [List.setIfInBounds_toArray, List.set_cons_zero, List.set_cons_succ]
  refine lst (wanted_none rfl) (w_value 8 (.bool true) rfl (run_ex rfl rfl rfl) ?_)
  simp only [List.setIfInBounds_toArray, List.set_cons_zero, List.set_cons_succ]
  refine lst (wanted_none rfl) (m_alloc (c := bs 0) (T := 23) hm7 1 rfl (al_N rfl) (fun g8 w9 (hm10 : Mm w w9 [(g3, rowOf .u8 (fun _ => 0) 64, 5), (g8, bs 0, 23)]) => ?_))
  simp only [List.setIfInBounds_toArray, List.set_cons_zero, List.set_cons_succ]
  refine lst (wanted_none rfl) (m_store 1 23 _ _ (bs 0) (old := bs 0) hm10 rfl rfl rfl rfl rfl (by rw [bs_sz]; exact info_b) ((bs_sz _).trans (bs_sz _).symm) (bs_one _) (fun w11 (hm12 : Mm w w11 [(g3, rowOf .u8 (fun _ => 0) 64, 5), (g8, bs 0, 23)]) => ?_))
  refine lst (wanted_none rfl) (w_value 2 (.bool true) rfl (run_as rfl rfl) ?_)
  simp only [List.setIfInBounds_toArray, List.set_cons_zero, List.set_cons_succ]
  refine wpList_nil ?_
  refine then_n (hK2 _ _ ?_)
  refine wp_seq_k (fun K13 hK13 => ?_)
  refine wp_region_lit ?_
  refine lst (wanted_none rfl) (w_value 9 (.bool true) rfl (run_mv rfl rfl) ?_)
  simp only [List.setIfInBounds_toArray, List.set_cons_zero, List.set_cons_succ]
  refine lst (wanted_none rfl) (w_value 10 (.bool true) rfl (run_mv rfl rfl) ?_)
  simp only [List.setIfInBounds_toArray, List.set_cons_zero, List.set_cons_succ]
  refine lst rfl (w_value 11 (.agg (bs 0)) rfl (run_row rfl rfl (hm12.at 1 rfl) Try.underlying23 rfl (by rw [bs_sz]; exact info_b)) ?_)
  simp only [List.setIfInBounds_toArray, List.set_cons_zero, List.set_cons_succ]
  refine lst rfl (w_value 12 (.agg (bs 0)) rfl (by unfold execOp; go_simp; rfl) ?_)
  simp only [List.setIfInBounds_toArray, List.set_cons_zero, List.set_cons_succ]
  refine lst rfl (w_value 13 (.bool true) rfl (run_eqN 0 0 (by decide) (by decide) true (decide_eq_true rfl) rfl rfl rfl) ?_)
  simp only [List.setIfInBounds_toArray, List.set_cons_zero, List.set_cons_succ]
  refine lst (wanted_none rfl) (w_value 14 (.bool true) rfl (run_pick rfl rfl rfl) ?_)
  simp only [List.setIfInBounds_toArray, List.set_cons_zero, List.set_cons_succ]
  refine lst (wanted_none rfl) (w_value 15 (.bool true) rfl (run_mv rfl rfl) ?_)
  simp only [List.setIfInBounds_toArray, List.set_cons_zero, List.set_cons_succ]
  refine lst rfl (w_value 16 (.agg (bs 3)) rfl (by unfold execOp; go_simp; rfl) ?_)
  simp only [List.setIfInBounds_toArray, List.set_cons_zero, List.set_cons_succ]
  refine lst rfl (w_value 17 (.agg (bs 5)) rfl (by unfold execOp; go_simp; rfl) ?_)
  simp only [List.setIfInBounds_toArray, List.set_cons_zero, List.set_cons_succ]
  refine lst rfl (w_value 18 (.agg (bs 7)) rfl (by unfold execOp; go_simp; rfl) ?_)
  simp only [List.setIfInBounds_toArray, List.set_cons_zero, List.set_cons_succ]
  refine lst rfl (m_call hm12 19 (.agg (bs 22)) rfl (run_Fuse rfl rfl rfl rfl) (fuse22 _) (fun w14 hm15 => ?_))
  simp only [List.setIfInBounds_toArray, List.set_cons_zero, List.set_cons_succ]
  refine lst rfl (w_value 20 (.agg (bs 22)) rfl (by unfold execOp; go_simp; rfl) ?_)
  simp only [List.setIfInBounds_toArray, List.set_cons_zero, List.set_cons_succ]
  refine lst rfl (w_value 21 (.bool true) rfl (run_eqN 22 22 (by decide) (by decide) true (decide_eq_true rfl) rfl rfl rfl) ?_)
  simp only [List.setIfInBounds_toArray, List.set_cons_zero, List.set_cons_succ]
  refine lst (wanted_none rfl) (w_value 22 (.bool true) rfl (run_pick rfl rfl rfl) ?_)
  simp only [List.setIfInBounds_toArray, List.set_cons_zero, List.set_cons_succ]
  refine lst (wanted_none rfl) (w_value 23 (.bool true) rfl (run_mv rfl rfl) ?_)
  simp only [List.setIfInBounds_toArray, List.set_cons_zero, List.set_cons_succ]
  refine lst rfl (w_value 24 (.agg (bs 1)) rfl (by unfold execOp; go_simp; rfl) ?_)
  simp only [List.setIfInBounds_toArray, List.set_cons_zero, List.set_cons_succ]
  refine lst rfl (m_call hm15 25 (.bool true) rfl (run_Canon rfl rfl) (canon_true 1 (by decide) _) (fun w16 hm17 => ?_))
  simp only [List.setIfInBounds_toArray, List.set_cons_zero, List.set_cons_succ]
  refine lst (wanted_none rfl) (w_value 26 (.bool true) rfl (run_pick rfl rfl rfl) ?_)
  simp only [List.setIfInBounds_toArray, List.set_cons_zero, List.set_cons_succ]
  refine lst (wanted_none rfl) (w_value 0 (.bool true) rfl (run_as rfl rfl) ?_)
  simp only [List.setIfInBounds_toArray, List.set_cons_zero]
  refine wpList_nil ?_
  refine then_n (hK13 _ _ ?_)
  refine wp_ret ?_
  exact ⟨rfl, .bool true, res_t rfl rfl, ⟨rfl, hm17.below⟩⟩
end Go.Proofs.Ytcemcnbhnedaaaa.Fld
