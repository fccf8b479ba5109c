/- Layer 10: texts of records. -/
import Derived.Test.YtglnifckngcpkaaDoorPxN
namespace Go.Proofs.YtglnifckngcpkaaDoor.Px
open Go.RowKit
open Go.Proofs.YtglnifckngcpkaaDoor.Sym Go.Proofs.YtglnifckngcpkaaDoor.Mem
open Go.Proofs.YtglnifckngcpkaaDoor.Sx hiding Mm m_alloc m_store m_put m_call m_callx m_make m_append r_string r_ixS
set_option linter.unusedVariables false
attribute [local irreducible] plen_m itoa_m atoi_v atoi_ok cut_m key_m pdig_m ib_m record_m first_m
attribute [local irreducible] wpList Oper.wp

def encode_m_b0 (l : List Par) (rec : (List UInt8) × Nat → Sum ((List UInt8) × Nat) ((List UInt8) × Int)) (l7 : List UInt8) (x9 : Nat) : Sum ((List UInt8) × Nat) ((List UInt8) × Int) :=
  if x9 < l.length then
    if (!(key_m ((l.getD x9 dPar).key))) = true then
      .inr (([]), 1)
    else
      if 1048576 < ((l.getD x9 dPar).key).length then
        .inr (([]), 3)
      else
        if 1048576 < ((l.getD x9 dPar).value).length then
          .inr (([]), 3)
        else
          if 1048576 < l7.length then
            .inr (([]), 3)
          else
            rec ((l7 ++ (record_m (l.getD x9 dPar))), (x9 + 1))
  else
    .inl (l7, x9)
def encode_m_l0 (l : List Par) : Nat → (List UInt8) × Nat → Sum ((List UInt8) × Nat) ((List UInt8) × Int)
  | 0, zz => .inl zz
  | nq + 1, zz => encode_m_b0 l (encode_m_l0 l nq) zz.1 zz.2

def encode_m_k0 (l : List Par) (y13 : List UInt8) (y15 : Nat) : (List UInt8) × Int :=
  if 1048576 < y13.length then
    (([]), 3)
  else
    (y13, 0)

def encode_m (l : List Par) : (List UInt8) × Int :=
  fin (encode_m_l0 l ((l.length - 0) + 1) (([] : List UInt8), 0)) (fun r => r) (fun zz => encode_m_k0 l zz.1 zz.2)

set_option maxHeartbeats 4000000 in
set_option maxRecDepth 100000 in
theorem encode_any (l : List Par) (lv0 : Value) (w : World) (hl : Rs ePar 2 l lv0 w) (hT : Laid w) (hp0 : l.length ≤ 4398046511104) : Calls Tryd.prog 25 #[lv0] w (fun e w' => e = .returned (.tuple #[.string (tx ((encode_m l).1)), .int .i64 ((encode_m l).2)]) ∧ Below w.heap.size w w') := by
  go_enter Tryd.func25, Tryd.ntmps25
  have hm00 := Mm.nil none (fun _ => True) w
  obtain ⟨Fl, hm01⟩ : ∃ Fl, Mm none (fun _ => True) w w [.see (Rs ePar 2 l lv0) Fl] := hm00.come (Rs.all hl)
  have hm0 := hm01
  refine wp_seq_k (fun K1 hK1 => ?_)
  refine wp_region_lit ?_
  refine lvw 2 (.string (tx ([]))) rfl rfl (run_as rfl rfl) ?_
  simp only [nz1, nz2, nz3]
  refine lvw 3 (.int .i64 0) rfl rfl (run_as rfl rfl) ?_
  simp only [nz1, nz2, nz3]
  refine wpList_nil ?_
  refine then_n (hK1 _ _ ?_)
  refine wp_seq_k (fun K2 hK2 => ?_)
  refine wp_region_lit ?_
  refine lvw 4 (.slice none 0 0) rfl rfl (run_as rfl rfl) ?_
  simp only [nz1, nz2, nz3]
  refine wpList_nil ?_
  refine then_n (hK2 _ _ ?_)
  refine wp_seq_k (fun K3 hK3 => ?_)
  refine wp_seq_k (fun K4 hK4 => ?_)
  refine wp_region_lit ?_
  refine lvw 7 (lv0) rfl rfl (run_mv rfl rfl) ?_
  simp only [nz1, nz2, nz3]
  refine lvw 8 (.int .i64 ((l.length : Nat) : Int)) rfl rfl (s_len ((hm0.see 0 rfl)) rfl Tryd.underlying36 rfl) ?_
  simp only [nz1, nz2, nz3]
  refine lvw 9 (.int .i64 0) rfl rfl (run_mv rfl rfl) ?_
  simp only [nz1, nz2, nz3]
  refine wpList_nil ?_
  refine then_n (hK4 _ _ ?_)
  have hm6 : Mm none (fun _ => True) w w [.see (Rs ePar 2 l lv0) Fl, .row (.slice none 0 0) ([] : List UInt8).length (([] : List UInt8).flatMap eB) 5 1] := hm0.nilrow 5 1
  refine wp_cutK (fun a' w' => ∃ (y13 : List UInt8) (y15 : Nat) (v14 : Value) (yu0 : Nat → Value), encode_m_l0 l ((l.length - 0) + 1) (([] : List UInt8), 0) = .inl (y13, y15) ∧ (y13.length ≤ 3145776) ∧ a' = ⟨#[lv0, undef, yu0 0, yu0 1, v14, undef, yu0 2, lv0, .int .i64 ((l.length : Nat) : Int), .int .i64 ((y15 : Nat) : Int), yu0 3, yu0 4, yu0 5, yu0 6, yu0 7, yu0 8, yu0 9, yu0 10, yu0 11, yu0 12, yu0 13, yu0 14, yu0 15, yu0 16, yu0 17, yu0 18, yu0 19, yu0 20, yu0 21, yu0 22, yu0 23, yu0 24, yu0 25, yu0 26, yu0 27, yu0 28, yu0 29, undef, undef, undef, undef, undef], []⟩ ∧ Mm none (fun _ => True) w w' [.see (Rs ePar 2 l lv0) Fl, .row v14 y13.length (y13.flatMap eB) 5 1]) ?_ ?_
  · refine wp_block ?_
    refine wp_loop_n (fun n' a' w' => ∃ (n10 : Nat) (l7 : List UInt8) (x9 : Nat) (v8 : Value) (u0 : Nat → Value), n' = n10 ∧ (l.length - x9) < n10 ∧ encode_m_l0 l ((l.length - 0) + 1) (([] : List UInt8), 0) = encode_m_l0 l n10 (l7, x9) ∧ (l7.length ≤ 3145776) ∧ a' = ⟨#[lv0, undef, u0 0, u0 1, v8, undef, u0 2, lv0, .int .i64 ((l.length : Nat) : Int), .int .i64 ((x9 : Nat) : Int), u0 3, u0 4, u0 5, u0 6, u0 7, u0 8, u0 9, u0 10, u0 11, u0 12, u0 13, u0 14, u0 15, u0 16, u0 17, u0 18, u0 19, u0 20, u0 21, u0 22, u0 23, u0 24, u0 25, u0 26, u0 27, u0 28, u0 29, undef, undef, undef, undef, undef], []⟩ ∧ Mm none (fun _ => True) w w' [.see (Rs ePar 2 l lv0) Fl, .row v8 l7.length (l7.flatMap eB) 5 1]) ⟨((l.length - 0) + 1), ([] : List UInt8), 0, .slice none 0 0, (fun qq => bif Nat.blt qq 24 then List.getD [.string (tx ([])), .int .i64 0, undef, undef, undef, undef, undef, undef, undef, undef, undef, undef, undef, undef, undef, undef, undef, undef, undef, undef, undef, undef, undef, undef] qq undef else List.getD [undef, undef, undef, undef, undef, undef] (qq - 24) undef), rfl, Nat.lt_succ_self _, rfl, (by first | omega | (simp; done) | (simp; omega) | (simp at *; omega)), rfl, hm6⟩ ?_
    rintro n10 _ w17 ⟨_, l7, x9, v8, u0, rfl, hl21, hi12, hen, rfl, hm18⟩ R19 hR19
    obtain ⟨k11, rfl⟩ : ∃ k, n10 = k + 1 := ⟨n10 - 1, by omega⟩
    refine wp_seq_k (fun K22 hK22 => ?_)
    refine wp_region_lit ?_
    refine lvw 10 (.bool (decide (x9 < l.length))) rfl rfl (r_lss x9 l.length rfl rfl rfl) ?_
    simp only [nz1, nz2, nz3]
    refine wpList_nil ?_
    refine then_n (hK22 _ _ ?_)
    refine wp_seq_k (fun K23 hK23 => ?_)
    refine cond_d (x9 < l.length) rfl (fun hc24 => ?_) (fun hc24 => ?_)
    rotate_left
    · refine wp_exit ?_
      refine then_x ?_
      refine then_x ?_
      refine blk_x ?_
      refine then_n ?_
      exact ⟨l7, x9, v8, (fun qq => bif Nat.blt qq 24 then List.getD [u0 0, u0 1, u0 2, .bool (decide (x9 < l.length)), u0 4, u0 5, u0 6, u0 7, u0 8, u0 9, u0 10, u0 11, u0 12, u0 13, u0 14, u0 15, u0 16, u0 17, u0 18, u0 19, u0 20, u0 21, u0 22, u0 23] qq undef else List.getD [u0 24, u0 25, u0 26, u0 27, u0 28, u0 29] (qq - 24) undef), (hi12.trans (show encode_m_b0 l (encode_m_l0 l k11) l7 x9 = .inl (l7, x9) from by unfold encode_m_b0; rw [if_neg hc24] <;> rfl)), (by first | omega | (simp; done) | (simp; omega) | (simp at *; omega)), rfl, hm18⟩
    refine wp_skip ?_
    refine then_n (hK23 _ _ ?_)
    refine wp_seq_k (fun K25 hK25 => ?_)
    refine wp_block ?_
    refine wp_seq_k (fun K26 hK26 => ?_)
    refine wp_region_lit ?_
    refine lvw 11 (.pointer (some ⟨(bk lv0), (po lv0 + x9 * 2), none⟩)) rfl rfl (r_ixv ((hm18.see 0 rfl)) x9 (by omega) Tryd.underlying36 sz_47 rfl rfl rfl) ?_
    simp only [nz1, nz2, nz3]
    refine lvw 12 (.agg #[.string (tx ((l.getD x9 dPar).key)), .string (tx ((l.getD x9 dPar).value))]) rfl rfl (r_partw (fun j u hj => Rs.cell ((hm18.see 0 rfl)) ePar_len dPar x9 (by omega) j u (arr_get hj)) Tryd.underlying47 rfl (by exact sz_47) rfl rfl) ?_
    simp only [nz1, nz2, nz3]
    refine lst rfl (m_alloc (c := #[.string (tx ([])), .string (tx ([]))]) (T := 47) hm18 6 rfl (by unfold execOp; go_simp; try rfl) (fun g29 w27 (hm28 : Mm none (fun _ => True) w w27 [.see (Rs ePar 2 l lv0) Fl, .row v8 l7.length (l7.flatMap eB) 5 1, .blk g29 #[.string (tx ([])), .string (tx ([]))] 47]) => ?_))
    simp only [nz1, nz2, nz3]
    refine lst rfl (m_store 2 47 _ _ 0 (.agg #[.string (tx ((l.getD x9 dPar).key)), .string (tx ((l.getD x9 dPar).value))]) (old := #[.string (tx ([])), .string (tx ([]))]) (new := #[.string (tx ((l.getD x9 dPar).key)), .string (tx ((l.getD x9 dPar).value))]) hm28 rfl rfl rfl rfl rfl (by exact sz_47) (show 0 + 2 ≤ 2 from by decide) (by simp [Value.cells, Value.oneCell']) rfl (fun w30 (hm31 : Mm none (fun _ => True) w w30 [.see (Rs ePar 2 l lv0) Fl, .row v8 l7.length (l7.flatMap eB) 5 1, .blk g29 #[.string (tx ((l.getD x9 dPar).key)), .string (tx ((l.getD x9 dPar).value))] 47]) => ?_))
    refine wpList_nil ?_
    refine then_n (hK26 _ _ ?_)
    refine wp_seq_k (fun K32 hK32 => ?_)
    refine wp_seq_k (fun K33 hK33 => ?_)
    refine wp_region_lit ?_
    refine lvw 13 (.pointer (some ⟨g29, 0, none⟩)) rfl rfl (r_fa47_0 g29 0 rfl rfl) ?_
    simp only [nz1, nz2, nz3]
    refine lvw 14 (.string (tx ((l.getD x9 dPar).key))) rfl rfl (r_load (hm31.at 2 rfl) rfl Tryd.underlying9 rfl rfl rfl) ?_
    simp only [nz1, nz2, nz3]
    refine lst rfl (m_call hm31 15 (.bool ((key_m ((l.getD x9 dPar).key)))) rfl (run_key rfl rfl) (key_any ((l.getD x9 dPar).key)  _  ) (fun w34 (hm35 : Mm none (fun _ => True) w w34 [.see (Rs ePar 2 l lv0) Fl, .row v8 l7.length (l7.flatMap eB) 5 1, .blk g29 #[.string (tx ((l.getD x9 dPar).key)), .string (tx ((l.getD x9 dPar).value))] 47]) => ?_))
    simp only [nz1, nz2, nz3]
    refine lvw 16 (.bool (!(key_m ((l.getD x9 dPar).key)))) rfl rfl (r_not (key_m ((l.getD x9 dPar).key)) rfl rfl) ?_
    simp only [nz1, nz2, nz3]
    refine wpList_nil ?_
    refine then_n (hK33 _ _ ?_)
    refine cond_B (!(key_m ((l.getD x9 dPar).key))) rfl (fun hc36 => ?_) (fun hc36 => ?_)
    · refine wp_seq_k (fun K37 hK37 => ?_)
      refine wp_region_lit ?_
      refine lvw 2 (.string (tx ([]))) rfl rfl (run_as rfl rfl) ?_
      simp only [nz1, nz2, nz3]
      refine lvw 3 (.int .i64 1) rfl rfl (run_as rfl rfl) ?_
      simp only [nz1, nz2, nz3]
      refine wpList_nil ?_
      refine then_n (hK37 _ _ ?_)
      refine wp_ret ?_
      refine then_r ?_
      refine blk_r ?_
      refine then_r ?_
      refine then_r ?_
      refine blk_r ?_
      refine then_r ?_
      refine then_r ?_
      have he38 : encode_m_l0 l ((l.length - 0) + 1) (([] : List UInt8), 0) = .inr (([]), 1) := (hi12.trans (show encode_m_b0 l (encode_m_l0 l k11) l7 x9 = .inr (([]), 1) from by unfold encode_m_b0; rw [if_pos hc24, if_pos hc36] <;> rfl))
      have he39 : encode_m l = (([]), 1) := (show encode_m l = (([]), 1) from by unfold encode_m; rw [he38] <;> rfl)
      exact ⟨rfl, .tuple #[.string (tx ([])), .int .i64 1], res_tt rfl rfl rfl, ⟨by rw [he39], hm35.below⟩⟩
    refine wp_skip ?_
    refine then_n (hK32 _ _ ?_)
    refine wp_seq_k (fun K40 hK40 => ?_)
    refine wp_seq_k (fun K41 hK41 => ?_)
    refine wp_region_lit ?_
    refine lvw 17 (.pointer (some ⟨g29, 0, none⟩)) rfl rfl (r_fa47_0 g29 0 rfl rfl) ?_
    simp only [nz1, nz2, nz3]
    refine lvw 18 (.string (tx ((l.getD x9 dPar).key))) rfl rfl (r_load (hm35.at 2 rfl) rfl Tryd.underlying9 rfl rfl rfl) ?_
    simp only [nz1, nz2, nz3]
    refine lvw 19 (.int .i64 ((((l.getD x9 dPar).key).length : Nat) : Int)) rfl rfl (t_len rfl Tryd.underlying9 rfl) ?_
    simp only [nz1, nz2, nz3]
    refine lvb 20 (1048576 < ((l.getD x9 dPar).key).length) rfl rfl (r_gtr (((l.getD x9 dPar).key).length) 1048576 rfl rfl rfl) (fun hs42 => ?_) (fun hs42 => ?_)
    · simp only [nz1, nz2, nz3]
      refine lvw 21 (.bool true) rfl rfl (run_mv rfl rfl) ?_
      simp only [nz1, nz2, nz3]
      refine lst_skip 22 rfl rfl ?_
      simp only [nz1, nz2, nz3]
      refine lst_skip 23 rfl rfl ?_
      simp only [nz1, nz2, nz3]
      refine lst_skip 24 rfl rfl ?_
      simp only [nz1, nz2, nz3]
      refine lst_skip 25 rfl rfl ?_
      simp only [nz1, nz2, nz3]
      refine lvw 26 (.bool true) rfl rfl (run_pick rfl rfl rfl) ?_
      simp only [nz1, nz2, nz3]
      refine lvw 27 (.bool true) rfl rfl (run_mv rfl rfl) ?_
      simp only [nz1, nz2, nz3]
      refine lst_skip 28 rfl rfl ?_
      simp only [nz1, nz2, nz3]
      refine lst_skip 29 rfl rfl ?_
      simp only [nz1, nz2, nz3]
      refine lst_skip 30 rfl rfl ?_
      simp only [nz1, nz2, nz3]
      refine lvw 31 (.bool true) rfl rfl (run_pick rfl rfl rfl) ?_
      simp only [nz1, nz2, nz3]
      refine wpList_nil ?_
      refine then_n (hK41 _ _ ?_)
      refine cond_t rfl ?_
      refine wp_seq_k (fun K43 hK43 => ?_)
      refine wp_region_lit ?_
      refine lvw 2 (.string (tx ([]))) rfl rfl (run_as rfl rfl) ?_
      simp only [nz1, nz2, nz3]
      refine lvw 3 (.int .i64 3) rfl rfl (run_as rfl rfl) ?_
      simp only [nz1, nz2, nz3]
      refine wpList_nil ?_
      refine then_n (hK43 _ _ ?_)
      refine wp_ret ?_
      refine then_r ?_
      refine blk_r ?_
      refine then_r ?_
      refine then_r ?_
      refine blk_r ?_
      refine then_r ?_
      refine then_r ?_
      have he44 : encode_m_l0 l ((l.length - 0) + 1) (([] : List UInt8), 0) = .inr (([]), 3) := (hi12.trans (show encode_m_b0 l (encode_m_l0 l k11) l7 x9 = .inr (([]), 3) from by unfold encode_m_b0; rw [if_pos hc24, if_neg hc36, if_pos hs42] <;> rfl))
      have he45 : encode_m l = (([]), 3) := (show encode_m l = (([]), 3) from by unfold encode_m; rw [he44] <;> rfl)
      exact ⟨rfl, .tuple #[.string (tx ([])), .int .i64 3], res_tt rfl rfl rfl, ⟨by rw [he45], hm35.below⟩⟩
    simp only [nz1, nz2, nz3]
    refine lvw 21 (.bool false) rfl rfl (run_mv rfl rfl) ?_
    simp only [nz1, nz2, nz3]
    refine lvw 22 (.pointer (some ⟨g29, 1, none⟩)) rfl rfl (r_fa47_1 g29 0 rfl rfl) ?_
    simp only [nz1, nz2, nz3]
    refine lvw 23 (.string (tx ((l.getD x9 dPar).value))) rfl rfl (r_load (hm35.at 2 rfl) rfl Tryd.underlying9 rfl rfl rfl) ?_
    simp only [nz1, nz2, nz3]
    refine lvw 24 (.int .i64 ((((l.getD x9 dPar).value).length : Nat) : Int)) rfl rfl (t_len rfl Tryd.underlying9 rfl) ?_
    simp only [nz1, nz2, nz3]
    refine lvb 25 (1048576 < ((l.getD x9 dPar).value).length) rfl rfl (r_gtr (((l.getD x9 dPar).value).length) 1048576 rfl rfl rfl) (fun hs46 => ?_) (fun hs46 => ?_)
    · simp only [nz1, nz2, nz3]
      refine lvw 26 (.bool true) rfl rfl (run_pickf rfl rfl rfl) ?_
      simp only [nz1, nz2, nz3]
      refine lvw 27 (.bool true) rfl rfl (run_mv rfl rfl) ?_
      simp only [nz1, nz2, nz3]
      refine lst_skip 28 rfl rfl ?_
      simp only [nz1, nz2, nz3]
      refine lst_skip 29 rfl rfl ?_
      simp only [nz1, nz2, nz3]
      refine lst_skip 30 rfl rfl ?_
      simp only [nz1, nz2, nz3]
      refine lvw 31 (.bool true) rfl rfl (run_pick rfl rfl rfl) ?_
      simp only [nz1, nz2, nz3]
      refine wpList_nil ?_
      refine then_n (hK41 _ _ ?_)
      refine cond_t rfl ?_
      refine wp_seq_k (fun K47 hK47 => ?_)
      refine wp_region_lit ?_
      refine lvw 2 (.string (tx ([]))) rfl rfl (run_as rfl rfl) ?_
      simp only [nz1, nz2, nz3]
      refine lvw 3 (.int .i64 3) rfl rfl (run_as rfl rfl) ?_
      simp only [nz1, nz2, nz3]
      refine wpList_nil ?_
      refine then_n (hK47 _ _ ?_)
      refine wp_ret ?_
      refine then_r ?_
      refine blk_r ?_
      refine then_r ?_
      refine then_r ?_
      refine blk_r ?_
      refine then_r ?_
      refine then_r ?_
      have he48 : encode_m_l0 l ((l.length - 0) + 1) (([] : List UInt8), 0) = .inr (([]), 3) := (hi12.trans (show encode_m_b0 l (encode_m_l0 l k11) l7 x9 = .inr (([]), 3) from by unfold encode_m_b0; rw [if_pos hc24, if_neg hc36, if_neg hs42, if_pos hs46] <;> rfl))
      have he49 : encode_m l = (([]), 3) := (show encode_m l = (([]), 3) from by unfold encode_m; rw [he48] <;> rfl)
      exact ⟨rfl, .tuple #[.string (tx ([])), .int .i64 3], res_tt rfl rfl rfl, ⟨by rw [he49], hm35.below⟩⟩
    simp only [nz1, nz2, nz3]
    refine lvw 26 (.bool false) rfl rfl (run_pickf rfl rfl rfl) ?_
    simp only [nz1, nz2, nz3]
    refine lvw 27 (.bool false) rfl rfl (run_mv rfl rfl) ?_
    simp only [nz1, nz2, nz3]
    refine lvw 28 (v8) rfl rfl (run_mv rfl rfl) ?_
    simp only [nz1, nz2, nz3]
    refine lvw 29 (.int .i64 ((l7.length : Nat) : Int)) rfl rfl (s_len (Rs.row (hm35.row 1 rfl)) rfl Tryd.underlying34 rfl) ?_
    simp only [nz1, nz2, nz3]
    refine lvw 30 (.bool (decide (1048576 < l7.length))) rfl rfl (r_gtr l7.length 1048576 rfl rfl rfl) ?_
    simp only [nz1, nz2, nz3]
    refine lvw 31 (.bool (decide (1048576 < l7.length))) rfl rfl (run_pickf rfl rfl rfl) ?_
    simp only [nz1, nz2, nz3]
    refine wpList_nil ?_
    refine then_n (hK41 _ _ ?_)
    refine cond_d (1048576 < l7.length) rfl (fun hc50 => ?_) (fun hc50 => ?_)
    · refine wp_seq_k (fun K51 hK51 => ?_)
      refine wp_region_lit ?_
      refine lvw 2 (.string (tx ([]))) rfl rfl (run_as rfl rfl) ?_
      simp only [nz1, nz2, nz3]
      refine lvw 3 (.int .i64 3) rfl rfl (run_as rfl rfl) ?_
      simp only [nz1, nz2, nz3]
      refine wpList_nil ?_
      refine then_n (hK51 _ _ ?_)
      refine wp_ret ?_
      refine then_r ?_
      refine blk_r ?_
      refine then_r ?_
      refine then_r ?_
      refine blk_r ?_
      refine then_r ?_
      refine then_r ?_
      have he52 : encode_m_l0 l ((l.length - 0) + 1) (([] : List UInt8), 0) = .inr (([]), 3) := (hi12.trans (show encode_m_b0 l (encode_m_l0 l k11) l7 x9 = .inr (([]), 3) from by unfold encode_m_b0; rw [if_pos hc24, if_neg hc36, if_neg hs42, if_neg hs46, if_pos hc50] <;> rfl))
      have he53 : encode_m l = (([]), 3) := (show encode_m l = (([]), 3) from by unfold encode_m; rw [he52] <;> rfl)
      exact ⟨rfl, .tuple #[.string (tx ([])), .int .i64 3], res_tt rfl rfl rfl, ⟨by rw [he53], hm35.below⟩⟩
    refine wp_skip ?_
    refine then_n (hK40 _ _ ?_)
    refine wp_region_lit ?_
    refine lvw 32 (v8) rfl rfl (run_mv rfl rfl) ?_
    simp only [nz1, nz2, nz3]
    refine lvw 33 (.agg #[.string (tx ((l.getD x9 dPar).key)), .string (tx ((l.getD x9 dPar).value))]) rfl rfl (r_whole (hm35.at 2 rfl) Tryd.underlying47 rfl (by exact sz_47) rfl rfl) ?_
    simp only [nz1, nz2, nz3]
    refine lst rfl (m_call hm35 34 (.string (tx (record_m (l.getD x9 dPar)))) rfl (run_record rfl rfl) (record_any (l.getD x9 dPar)  _  (Laid.below hT hm35.below) (by first | omega | assumption | (simp only [List.length_append, List.length_cons, List.length_nil]; omega) | (simp only [List.length_append, List.length_cons, List.length_nil] at *; omega) | (simp; done) | (simp; omega) | decide) (by first | omega | assumption | (simp only [List.length_append, List.length_cons, List.length_nil]; omega) | (simp only [List.length_append, List.length_cons, List.length_nil] at *; omega) | (simp; done) | (simp; omega) | decide)) (fun w54 (hm55 : Mm none (fun _ => True) w w54 [.see (Rs ePar 2 l lv0) Fl, .row v8 l7.length (l7.flatMap eB) 5 1, .blk g29 #[.string (tx ((l.getD x9 dPar).key)), .string (tx ((l.getD x9 dPar).value))] 47]) => ?_))
    have hf56 : (record_m (l.getD x9 dPar)).length ≤ 2097200 := record_len (l.getD x9 dPar) (by omega) (by omega)
    simp only [nz1, nz2, nz3]
    obtain ⟨iq, hiq, hz1, hz2, hz3⟩ := inf_5
    refine lst rfl (m_appendTR 1 (l := l7) iq _ _ _ _ (record_m (l.getD x9 dPar)) hm55 rfl 35 rfl rfl Tryd.underlying34 Tryd.underlying9 hiq hz1 hz2 hz3 rfl rfl (by first | omega | (simp; omega)) (fun v59 w57 (hm58 : Mm none (fun _ => True) w w57 [.see (Rs ePar 2 l lv0) Fl, .row v59 (l7 ++ (record_m (l.getD x9 dPar))).length ((l7 ++ (record_m (l.getD x9 dPar))).flatMap eB) 5 1, .blk g29 #[.string (tx ((l.getD x9 dPar).key)), .string (tx ((l.getD x9 dPar).value))] 47]) => ?_))
    simp only [nz1, nz2, nz3]
    refine lvw 4 (v59) rfl rfl (run_as rfl rfl) ?_
    simp only [nz1, nz2, nz3]
    refine wpList_nil ?_
    refine blk_n ?_
    refine then_n (hK25 _ _ ?_)
    refine wp_region_lit ?_
    refine lvw 36 (.int .i64 (((x9 + 1) : Nat) : Int)) rfl rfl (r_add x9 1 (show (x9 + 1) < 9223372036854775808 from by omega) rfl rfl rfl) ?_
    simp only [nz1, nz2, nz3]
    refine lvw 9 (.int .i64 (((x9 + 1) : Nat) : Int)) rfl rfl (run_mv rfl rfl) ?_
    simp only [nz1, nz2, nz3]
    refine wpList_nil ?_
    refine then_n (hR19 _ _ _ ⟨k11, (l7 ++ (record_m (l.getD x9 dPar))), (x9 + 1), v59, (fun qq => bif Nat.blt qq 24 then List.getD [u0 0, u0 1, .pointer (some ⟨g29, 0, none⟩), .bool (decide (x9 < l.length)), .pointer (some ⟨(bk lv0), (po lv0 + x9 * 2), none⟩), .agg #[.string (tx ((l.getD x9 dPar).key)), .string (tx ((l.getD x9 dPar).value))], .pointer (some ⟨g29, 0, none⟩), .string (tx ((l.getD x9 dPar).key)), .bool ((key_m ((l.getD x9 dPar).key))), .bool (!(key_m ((l.getD x9 dPar).key))), .pointer (some ⟨g29, 0, none⟩), .string (tx ((l.getD x9 dPar).key)), .int .i64 ((((l.getD x9 dPar).key).length : Nat) : Int), .bool false, .bool false, .pointer (some ⟨g29, 1, none⟩), .string (tx ((l.getD x9 dPar).value)), .int .i64 ((((l.getD x9 dPar).value).length : Nat) : Int), .bool false, .bool false, .bool false, v8, .int .i64 ((l7.length : Nat) : Int), .bool (decide (1048576 < l7.length))] qq undef else List.getD [.bool (decide (1048576 < l7.length)), v8, .agg #[.string (tx ((l.getD x9 dPar).key)), .string (tx ((l.getD x9 dPar).value))], .string (tx (record_m (l.getD x9 dPar))), v59, .int .i64 (((x9 + 1) : Nat) : Int)] (qq - 24) undef), rfl, (by first | omega | (simp; omega) | (simp at *; omega)), (hi12.trans (show encode_m_b0 l (encode_m_l0 l k11) l7 x9 = encode_m_l0 l k11 ((l7 ++ (record_m (l.getD x9 dPar))), (x9 + 1)) from by unfold encode_m_b0; rw [if_pos hc24, if_neg hc36, if_neg hs42, if_neg hs46, if_neg hc50] <;> rfl)), (by rw [List.length_append]; omega), rfl, (Mm.reorder hm58 [0, 1] (by decide) rfl)⟩ ?_)
    omega
  rintro _ w60 ⟨y13, y15, v14, yu0, hx16, hen, rfl, hm61⟩
  have hq62 : encode_m l = encode_m_k0 l y13 y15 := (show encode_m l = encode_m_k0 l y13 y15 from by unfold encode_m; rw [hx16] <;> rfl)
  refine then_n (hK3 _ _ ?_)
  refine wp_seq_k (fun K63 hK63 => ?_)
  refine wp_seq_k (fun K64 hK64 => ?_)
  refine wp_region_lit ?_
  refine lvw 37 (v14) rfl rfl (run_mv rfl rfl) ?_
  simp only [nz1, nz2, nz3]
  refine lvw 38 (.int .i64 ((y13.length : Nat) : Int)) rfl rfl (s_len (Rs.row (hm61.row 1 rfl)) rfl Tryd.underlying34 rfl) ?_
  simp only [nz1, nz2, nz3]
  refine lvw 39 (.bool (decide (1048576 < y13.length))) rfl rfl (r_gtr y13.length 1048576 rfl rfl rfl) ?_
  simp only [nz1, nz2, nz3]
  refine wpList_nil ?_
  refine then_n (hK64 _ _ ?_)
  refine cond_d (1048576 < y13.length) rfl (fun hc65 => ?_) (fun hc65 => ?_)
  · refine wp_seq_k (fun K66 hK66 => ?_)
    refine wp_region_lit ?_
    refine lvw 2 (.string (tx ([]))) rfl rfl (run_as rfl rfl) ?_
    simp only [nz1, nz2, nz3]
    refine lvw 3 (.int .i64 3) rfl rfl (run_as rfl rfl) ?_
    simp only [nz1, nz2, nz3]
    refine wpList_nil ?_
    refine then_n (hK66 _ _ ?_)
    refine wp_ret ?_
    refine then_r ?_
    have he67 : encode_m l = (([]), 3) := (hq62.trans (show encode_m_k0 l y13 y15 = (([]), 3) from by unfold encode_m_k0; rw [if_pos hc65] <;> rfl))
    exact ⟨rfl, .tuple #[.string (tx ([])), .int .i64 3], res_tt rfl rfl rfl, ⟨by rw [he67], hm61.below⟩⟩
  refine wp_skip ?_
  refine then_n (hK63 _ _ ?_)
  refine wp_seq_k (fun K68 hK68 => ?_)
  refine wp_region_lit ?_
  refine lvw 40 (v14) rfl rfl (run_mv rfl rfl) ?_
  simp only [nz1, nz2, nz3]
  refine lvw 41 (.string (tx y13)) rfl rfl (r_stringR y13 (by have h := (Rs.row (hm61.row 1 rfl)); unfold Rs at h; rw [eB_map] at h; exact h) Tryd.underlying34 Tryd.underlying5 Tryd.underlying9 rfl rfl) ?_
  simp only [nz1, nz2, nz3]
  refine lvw 2 (.string (tx y13)) rfl rfl (run_as rfl rfl) ?_
  simp only [nz1, nz2, nz3]
  refine lvw 3 (.int .i64 0) rfl rfl (run_as rfl rfl) ?_
  simp only [nz1, nz2, nz3]
  refine wpList_nil ?_
  refine then_n (hK68 _ _ ?_)
  refine wp_ret ?_
  have he69 : encode_m l = (y13, 0) := (hq62.trans (show encode_m_k0 l y13 y15 = (y13, 0) from by unfold encode_m_k0; rw [if_neg hc65] <;> rfl))
  exact ⟨rfl, .tuple #[.string (tx y13), .int .i64 0], res_tt rfl rfl rfl, ⟨by rw [he69], hm61.below⟩⟩
theorem run_encode {o : Oper} {a : Act} {w : World} {x0 : Operand} {v0 : Value} (ho : o.op = .call { callee := .value (.func 25), args := #[x0], argTypes := #[36] }) (h0 : a.eval x0 = v0) :
    (execOp a.eval o).run Tryd.prog w = .ok (.enter 25 #[v0]) w := by
  unfold execOp
  simp only [ho]
  have hf : a.eval (.func 25) = .func (.func 25) #[] #[] := rfl
  generalize a.eval = f at *
  go_simp
def decode_m_b0 (s : List UInt8) (rec : (List UInt8) × (List Par) → Sum ((List UInt8) × (List Par)) ((List Par) × Int)) (x11 : List UInt8) (l12 : List Par) : Sum ((List UInt8) × (List Par)) ((List Par) × Int) :=
  if ¬ x11 = [] then
    if (first_m x11).2 = 0 then
      .inr (([] : List Par), 2)
    else
      rec ((x11.drop (((first_m x11).2).toNat)), (l12 ++ [((first_m x11).1)]))
  else
    .inl (x11, l12)
def decode_m_l0 (s : List UInt8) : Nat → (List UInt8) × (List Par) → Sum ((List UInt8) × (List Par)) ((List Par) × Int)
  | 0, zz => .inl zz
  | nq + 1, zz => decode_m_b0 s (decode_m_l0 s nq) zz.1 zz.2

def decode_m_k0 (s : List UInt8) (y17 : List UInt8) (y18 : List Par) : (List Par) × Int :=
  (y18, 0)

def decode_m (s : List UInt8) : (List Par) × Int :=
  if 1048576 < s.length then
    (([] : List Par), 3)
  else
    fin (decode_m_l0 s (s.length + 1) (s, ([] : List Par))) (fun r => r) (fun zz => decode_m_k0 s zz.1 zz.2)

set_option maxHeartbeats 4000000 in
set_option maxRecDepth 100000 in
theorem decode_any (s : List UInt8) (S : Nat → Prop) (w : World)  (hT : Laid w)  : Calls Tryd.prog 31 #[.string (tx s)] w (fun e w' => (∃ v, e = .returned v ∧ ∃ o0 : Value, v = .tuple #[o0, .int .i64 ((decode_m s).2)] ∧ Gives w w' S (Rs ePar 2 ((decode_m s).1) o0)) ∧ Below w.heap.size w w') := by
  go_enter Tryd.func31, Tryd.ntmps31
  have hm00 := Mm.nil none S w
  have hm0 := hm00
  refine wp_seq_k (fun K1 hK1 => ?_)
  refine wp_region_lit ?_
  refine lvw 2 (.slice none 0 0) rfl rfl (run_as rfl rfl) ?_
  simp only [nz1, nz2, nz3]
  refine lvw 3 (.int .i64 0) rfl rfl (run_as rfl rfl) ?_
  simp only [nz1, nz2, nz3]
  refine wpList_nil ?_
  refine then_n (hK1 _ _ ?_)
  refine wp_seq_k (fun K2 hK2 => ?_)
  refine wp_seq_k (fun K3 hK3 => ?_)
  refine wp_region_lit ?_
  refine lvw 7 (.string (tx s)) rfl rfl (run_mv rfl rfl) ?_
  simp only [nz1, nz2, nz3]
  refine lvw 8 (.int .i64 ((s.length : Nat) : Int)) rfl rfl (t_len rfl Tryd.underlying9 rfl) ?_
  simp only [nz1, nz2, nz3]
  refine lvw 9 (.bool (decide (1048576 < s.length))) rfl rfl (r_gtr s.length 1048576 rfl rfl rfl) ?_
  simp only [nz1, nz2, nz3]
  refine wpList_nil ?_
  refine then_n (hK3 _ _ ?_)
  refine cond_d (1048576 < s.length) rfl (fun hc4 => ?_) (fun hc4 => ?_)
  · refine wp_seq_k (fun K5 hK5 => ?_)
    refine wp_region_lit ?_
    refine lvw 2 (.slice none 0 0) rfl rfl (run_as rfl rfl) ?_
    simp only [nz1, nz2, nz3]
    refine lvw 3 (.int .i64 3) rfl rfl (run_as rfl rfl) ?_
    simp only [nz1, nz2, nz3]
    refine wpList_nil ?_
    refine then_n (hK5 _ _ ?_)
    refine wp_ret ?_
    refine then_r ?_
    have he6 : decode_m s = (([] : List Par), 3) := (show decode_m s = (([] : List Par), 3) from by unfold decode_m; rw [if_pos hc4] <;> rfl)
    exact ⟨rfl, .tuple #[.slice none 0 0, .int .i64 3], res_tt rfl rfl rfl, ⟨⟨_, rfl, (.slice none 0 0), (by first | rfl | rw [he6]), by rw [he6]; exact hm0.give (From.pure (fun W => Rs.nil ePar 2 W))⟩, hm0.below⟩⟩
  refine wp_skip ?_
  refine then_n (hK2 _ _ ?_)
  refine wp_seq_k (fun K7 hK7 => ?_)
  refine wp_region_lit ?_
  refine lvw 4 (.slice none 0 0) rfl rfl (run_as rfl rfl) ?_
  simp only [nz1, nz2, nz3]
  refine wpList_nil ?_
  refine then_n (hK7 _ _ ?_)
  refine wp_seq_k (fun K8 hK8 => ?_)
  have hm10 : Mm none S w w [.row (.slice none 0 0) ([] : List Par).length (([] : List Par).flatMap ePar) 47 2] := hm0.nilrow 47 2
  refine wp_cutK (fun a' w' => ∃ (y17 : List UInt8) (y18 : List Par) (v19 : Value) (yu0 : Nat → Value), decode_m_l0 s (s.length + 1) (s, ([] : List Par)) = .inl (y17, y18) ∧ (y18.length + y17.length ≤ 1048576) ∧ a' = ⟨#[.string (tx y17), undef, yu0 0, yu0 1, v19, yu0 2, yu0 3, .string (tx s), .int .i64 ((s.length : Nat) : Int), .bool (decide (1048576 < s.length)), yu0 4, yu0 5, yu0 6, yu0 7, yu0 8, yu0 9, yu0 10, yu0 11, yu0 12, yu0 13, yu0 14, yu0 15, yu0 16, yu0 17, yu0 18, yu0 19, undef], []⟩ ∧ Mm none S w w' [.row v19 y18.length (y18.flatMap ePar) 47 2]) ?_ ?_
  · refine wp_block ?_
    refine wp_loop_n (fun n' a' w' => ∃ (n14 : Nat) (x11 : List UInt8) (l12 : List Par) (v13 : Value) (u0 : Nat → Value), n' = n14 ∧ x11.length < n14 ∧ decode_m_l0 s (s.length + 1) (s, ([] : List Par)) = decode_m_l0 s n14 (x11, l12) ∧ (l12.length + x11.length ≤ 1048576) ∧ a' = ⟨#[.string (tx x11), undef, u0 0, u0 1, v13, u0 2, u0 3, .string (tx s), .int .i64 ((s.length : Nat) : Int), .bool (decide (1048576 < s.length)), u0 4, u0 5, u0 6, u0 7, u0 8, u0 9, u0 10, u0 11, u0 12, u0 13, u0 14, u0 15, u0 16, u0 17, u0 18, u0 19, undef], []⟩ ∧ Mm none S w w' [.row v13 l12.length (l12.flatMap ePar) 47 2]) ⟨(s.length + 1), s, ([] : List Par), .slice none 0 0, (fun qq => List.getD [.slice none 0 0, .int .i64 0, undef, undef, undef, undef, undef, undef, undef, undef, undef, undef, undef, undef, undef, undef, undef, undef, undef, undef] qq undef), rfl, Nat.lt_succ_self _, rfl, (by first | omega | (simp; done) | (simp; omega) | (simp at *; omega)), rfl, hm10⟩ ?_
    rintro n14 _ w21 ⟨_, x11, l12, v13, u0, rfl, hl25, hi16, hdn, rfl, hm22⟩ R23 hR23
    obtain ⟨k15, rfl⟩ : ∃ k, n14 = k + 1 := ⟨n14 - 1, by omega⟩
    refine wp_seq_k (fun K26 hK26 => ?_)
    refine wp_seq_k (fun K27 hK27 => ?_)
    refine wp_region_lit ?_
    refine lvw 10 (.string (tx x11)) rfl rfl (run_mv rfl rfl) ?_
    simp only [nz1, nz2, nz3]
    refine lvw 11 (.bool (decide (¬ x11 = []))) rfl rfl (t_neq x11 ([]) rfl rfl rfl) ?_
    simp only [nz1, nz2, nz3]
    refine wpList_nil ?_
    refine then_n (hK27 _ _ ?_)
    refine cond_d (¬ x11 = []) rfl (fun hc28 => ?_) (fun hc28 => ?_)
    rotate_left
    · refine wp_exit ?_
      refine then_x ?_
      refine then_x ?_
      refine blk_x ?_
      refine then_n ?_
      exact ⟨x11, l12, v13, (fun qq => List.getD [u0 0, u0 1, u0 2, u0 3, .string (tx x11), .bool (decide (¬ x11 = [])), u0 6, u0 7, u0 8, u0 9, u0 10, u0 11, u0 12, u0 13, u0 14, u0 15, u0 16, u0 17, u0 18, u0 19] qq undef), (hi16.trans (show decode_m_b0 s (decode_m_l0 s k15) x11 l12 = .inl (x11, l12) from by unfold decode_m_b0; rw [if_neg hc28] <;> rfl)), (by first | omega | (simp; done) | (simp; omega) | (simp at *; omega)), rfl, hm22⟩
    refine wp_skip ?_
    refine then_n (hK26 _ _ ?_)
    refine wp_block ?_
    refine wp_seq_k (fun K29 hK29 => ?_)
    refine wp_region_lit ?_
    refine lvw 13 (.string (tx x11)) rfl rfl (run_mv rfl rfl) ?_
    simp only [nz1, nz2, nz3]
    refine lst rfl (m_call hm22 14 (.tuple #[.agg #[.string (tx (((first_m x11).1).key)), .string (tx (((first_m x11).1).value))], .int .i64 ((first_m x11).2)]) rfl (run_first rfl rfl) (first_any x11  _  (Laid.below hT hm22.below) (by first | omega | assumption | (simp only [List.length_append, List.length_cons, List.length_nil]; omega) | (simp only [List.length_append, List.length_cons, List.length_nil] at *; omega) | (simp; done) | (simp; omega) | decide)) (fun w30 (hm31 : Mm none S w w30 [.row v13 l12.length (l12.flatMap ePar) 47 2]) => ?_))
    have hf32 : 0 ≤ (first_m x11).2 ∧ (first_m x11).2 ≤ ((x11.length : Nat) : Int) := first_rng x11
    simp only [nz1, nz2, nz3]
    refine lvw 12 (.tuple #[.agg #[.string (tx (((first_m x11).1).key)), .string (tx (((first_m x11).1).value))], .int .i64 ((first_m x11).2)]) rfl rfl (run_mv rfl rfl) ?_
    simp only [nz1, nz2, nz3]
    refine lvw 15 (.agg #[.string (tx (((first_m x11).1).key)), .string (tx (((first_m x11).1).value))]) rfl rfl (run_ex rfl rfl rfl) ?_
    simp only [nz1, nz2, nz3]
    refine lvw 16 (.int .i64 ((first_m x11).2)) rfl rfl (run_ex rfl rfl rfl) ?_
    simp only [nz1, nz2, nz3]
    refine lst rfl (m_alloc (c := #[.string (tx ([])), .string (tx ([]))]) (T := 47) hm31 5 rfl (by unfold execOp; go_simp; try rfl) (fun g35 w33 (hm34 : Mm none S w w33 [.row v13 l12.length (l12.flatMap ePar) 47 2, .blk g35 #[.string (tx ([])), .string (tx ([]))] 47]) => ?_))
    simp only [nz1, nz2, nz3]
    refine lst rfl (m_store 1 47 _ _ 0 (.agg #[.string (tx (((first_m x11).1).key)), .string (tx (((first_m x11).1).value))]) (old := #[.string (tx ([])), .string (tx ([]))]) (new := #[.string (tx (((first_m x11).1).key)), .string (tx (((first_m x11).1).value))]) hm34 rfl rfl rfl rfl rfl (by exact sz_47) (show 0 + 2 ≤ 2 from by decide) (by simp [Value.cells, Value.oneCell']) rfl (fun w36 (hm37 : Mm none S w w36 [.row v13 l12.length (l12.flatMap ePar) 47 2, .blk g35 #[.string (tx (((first_m x11).1).key)), .string (tx (((first_m x11).1).value))] 47]) => ?_))
    refine lvw 6 (.int .i64 ((first_m x11).2)) rfl rfl (run_as rfl rfl) ?_
    simp only [nz1, nz2, nz3]
    refine wpList_nil ?_
    refine then_n (hK29 _ _ ?_)
    refine wp_seq_k (fun K38 hK38 => ?_)
    refine wp_seq_k (fun K39 hK39 => ?_)
    refine wp_region_lit ?_
    refine lvw 17 (.int .i64 ((first_m x11).2)) rfl rfl (run_mv rfl rfl) ?_
    simp only [nz1, nz2, nz3]
    refine lvw 18 (.bool (decide ((first_m x11).2 = 0))) rfl rfl (z_eql ((first_m x11).2) 0 rfl rfl rfl) ?_
    simp only [nz1, nz2, nz3]
    refine wpList_nil ?_
    refine then_n (hK39 _ _ ?_)
    refine cond_d ((first_m x11).2 = 0) rfl (fun hc40 => ?_) (fun hc40 => ?_)
    · refine wp_seq_k (fun K41 hK41 => ?_)
      refine wp_region_lit ?_
      refine lvw 2 (.slice none 0 0) rfl rfl (run_as rfl rfl) ?_
      simp only [nz1, nz2, nz3]
      refine lvw 3 (.int .i64 2) rfl rfl (run_as rfl rfl) ?_
      simp only [nz1, nz2, nz3]
      refine wpList_nil ?_
      refine then_n (hK41 _ _ ?_)
      refine wp_ret ?_
      refine then_r ?_
      refine blk_r ?_
      refine then_r ?_
      refine blk_r ?_
      refine then_r ?_
      refine then_r ?_
      have he42 : decode_m_l0 s (s.length + 1) (s, ([] : List Par)) = .inr (([] : List Par), 2) := (hi16.trans (show decode_m_b0 s (decode_m_l0 s k15) x11 l12 = .inr (([] : List Par), 2) from by unfold decode_m_b0; rw [if_pos hc28, if_pos hc40] <;> rfl))
      have he43 : decode_m s = (([] : List Par), 2) := (show decode_m s = (([] : List Par), 2) from by unfold decode_m; rw [if_neg hc4, he42] <;> rfl)
      exact ⟨rfl, .tuple #[.slice none 0 0, .int .i64 2], res_tt rfl rfl rfl, ⟨⟨_, rfl, (.slice none 0 0), (by first | rfl | rw [he43]), by rw [he43]; exact hm37.give (From.pure (fun W => Rs.nil ePar 2 W))⟩, hm37.below⟩⟩
    refine wp_skip ?_
    refine then_n (hK38 _ _ ?_)
    refine wp_seq_k (fun K44 hK44 => ?_)
    refine wp_region_lit ?_
    refine lvw 19 (v13) rfl rfl (run_mv rfl rfl) ?_
    simp only [nz1, nz2, nz3]
    refine lvw 20 (.agg #[.string (tx (((first_m x11).1).key)), .string (tx (((first_m x11).1).value))]) rfl rfl (r_whole (hm37.at 1 rfl) Tryd.underlying47 rfl (by exact sz_47) rfl rfl) ?_
    simp only [nz1, nz2, nz3]
    refine lst rfl (m_make (c := #[.string (tx (((first_m x11).1).key)), .string (tx (((first_m x11).1).value))]) (T := 47) (fun g => .slice (some ⟨g, 0, none⟩) 1 1) hm37 21 rfl (by unfold execOp; go_simp; try rfl) (fun g47 w45 (hm46 : Mm none S w w45 [.row v13 l12.length (l12.flatMap ePar) 47 2, .blk g35 #[.string (tx (((first_m x11).1).key)), .string (tx (((first_m x11).1).value))] 47, .blk g47 #[.string (tx (((first_m x11).1).key)), .string (tx (((first_m x11).1).value))] 47]) => ?_))
    simp only [nz1, nz2, nz3]
    obtain ⟨iq, hiq, hz1, hz2, hz3⟩ := inf_47
    refine lst rfl (m_appendR 0 (l := l12) (l2 := [((first_m x11).1)]) iq _ _ _ (.slice (some ⟨g47, 0, none⟩) 1 1) hm46 rfl 22 rfl rfl Tryd.underlying36 hiq hz1 hz2 hz3 ePar_len ePar_one rfl (by decide) rfl rfl (Rs.blk (l := [((first_m x11).1)]) (hm46.at 2 rfl) rfl rfl ePar_len) (by first | omega | (simp; omega)) (by first | omega | (simp; omega)) (fun v50 w48 (hm49 : Mm none S w w48 [.row v50 (l12 ++ [((first_m x11).1)]).length ((l12 ++ [((first_m x11).1)]).flatMap ePar) 47 2, .blk g35 #[.string (tx (((first_m x11).1).key)), .string (tx (((first_m x11).1).value))] 47, .blk g47 #[.string (tx (((first_m x11).1).key)), .string (tx (((first_m x11).1).value))] 47]) => ?_))
    simp only [nz1, nz2, nz3]
    refine lvw 4 (v50) rfl rfl (run_as rfl rfl) ?_
    simp only [nz1, nz2, nz3]
    refine wpList_nil ?_
    refine then_n (hK44 _ _ ?_)
    refine wp_region_lit ?_
    refine lvw 23 (.string (tx x11)) rfl rfl (run_mv rfl rfl) ?_
    simp only [nz1, nz2, nz3]
    refine lvw 24 (.int .i64 ((first_m x11).2)) rfl rfl (run_mv rfl rfl) ?_
    simp only [nz1, nz2, nz3]
    refine lvw 25 (.string (tx (x11.drop (((first_m x11).2).toNat)))) rfl rfl (t_from x11 (((first_m x11).2).toNat) (by omega) Tryd.underlying9 rfl rfl (show (Value.int .i64 ((first_m x11).2)) = .int .i64 ((((first_m x11).2).toNat : Nat) : Int) from by congr 1; omega)) ?_
    simp only [nz1, nz2, nz3]
    refine lvw 0 (.string (tx (x11.drop (((first_m x11).2).toNat)))) rfl rfl (run_as rfl rfl) ?_
    simp only [nz1, nz2]
    refine wpList_nil ?_
    refine blk_n ?_
    refine then_n (hR23 _ _ _ ⟨k15, (x11.drop (((first_m x11).2).toNat)), (l12 ++ [((first_m x11).1)]), v50, (fun qq => List.getD [u0 0, u0 1, .pointer (some ⟨g35, 0, none⟩), .int .i64 ((first_m x11).2), .string (tx x11), .bool (decide (¬ x11 = [])), .tuple #[.agg #[.string (tx (((first_m x11).1).key)), .string (tx (((first_m x11).1).value))], .int .i64 ((first_m x11).2)], .string (tx x11), .tuple #[.agg #[.string (tx (((first_m x11).1).key)), .string (tx (((first_m x11).1).value))], .int .i64 ((first_m x11).2)], .agg #[.string (tx (((first_m x11).1).key)), .string (tx (((first_m x11).1).value))], .int .i64 ((first_m x11).2), .int .i64 ((first_m x11).2), .bool (decide ((first_m x11).2 = 0)), v13, .agg #[.string (tx (((first_m x11).1).key)), .string (tx (((first_m x11).1).value))], .slice (some ⟨g47, 0, none⟩) 1 1, v50, .string (tx x11), .int .i64 ((first_m x11).2), .string (tx (x11.drop (((first_m x11).2).toNat)))] qq undef), rfl, (by rw [List.length_drop]; omega), (hi16.trans (show decode_m_b0 s (decode_m_l0 s k15) x11 l12 = decode_m_l0 s k15 ((x11.drop (((first_m x11).2).toNat)), (l12 ++ [((first_m x11).1)])) from by unfold decode_m_b0; rw [if_pos hc28, if_neg hc40] <;> rfl)), (by rw [List.length_append, List.length_drop, List.length_singleton]; omega), rfl, (Mm.reorder hm49 [0] (by decide) rfl)⟩ ?_)
    omega
  rintro _ w51 ⟨y17, y18, v19, yu0, hx20, hdn, rfl, hm52⟩
  have hq53 : decode_m s = decode_m_k0 s y17 y18 := (show decode_m s = decode_m_k0 s y17 y18 from by unfold decode_m; rw [if_neg hc4, hx20] <;> rfl)
  refine then_n (hK8 _ _ ?_)
  refine wp_seq_k (fun K54 hK54 => ?_)
  refine wp_region_lit ?_
  refine lvw 26 (v19) rfl rfl (run_mv rfl rfl) ?_
  simp only [nz1, nz2, nz3]
  refine lvw 2 (v19) rfl rfl (run_as rfl rfl) ?_
  simp only [nz1, nz2, nz3]
  refine lvw 3 (.int .i64 0) rfl rfl (run_as rfl rfl) ?_
  simp only [nz1, nz2, nz3]
  refine wpList_nil ?_
  refine then_n (hK54 _ _ ?_)
  refine wp_ret ?_
  have hm55 : Mm none S w w51 [.see (Rs ePar 2 y18 v19) (fp v19 (y18.flatMap ePar))] := hm52.freeze 0 rfl
  have he56 : decode_m s = (y18, 0) := (hq53.trans (show decode_m_k0 s y17 y18 = (y18, 0) from by unfold decode_m_k0; rfl))
  exact ⟨rfl, .tuple #[v19, .int .i64 0], res_tt rfl rfl rfl, ⟨⟨_, rfl, v19, (by first | rfl | rw [he56]), by rw [he56]; exact hm55.give (hm55.from 0 rfl)⟩, hm55.below⟩⟩
theorem run_decode {o : Oper} {a : Act} {w : World} {x0 : Operand} {v0 : Value} (ho : o.op = .call { callee := .value (.func 31), args := #[x0], argTypes := #[9] }) (h0 : a.eval x0 = v0) :
    (execOp a.eval o).run Tryd.prog w = .ok (.enter 31 #[v0]) w := by
  unfold execOp
  simp only [ho]
  have hf : a.eval (.func 31) = .func (.func 31) #[] #[] := rfl
  generalize a.eval = f at *
  go_simp
def last_m_b0 (l : List Par) (key : List UInt8) (rec : Int → Sum (Int) ((List UInt8) × Bool)) (x4 : Int) : Sum (Int) ((List UInt8) × Bool) :=
  if 0 ≤ x4 then
    if (l.getD x4.toNat dPar).key = key then
      .inr (((l.getD x4.toNat dPar).value), true)
    else
      rec (x4 - (1 : Int))
  else
    .inl x4
def last_m_l0 (l : List Par) (key : List UInt8) : Nat → Int → Sum (Int) ((List UInt8) × Bool)
  | 0, zz => .inl zz
  | nq + 1, zz => last_m_b0 l key (last_m_l0 l key nq) zz

def last_m_k0 (l : List Par) (key : List UInt8) (y8 : Int) : (List UInt8) × Bool :=
  (([]), false)

def last_m (l : List Par) (key : List UInt8) : (List UInt8) × Bool :=
  fin (last_m_l0 l key (((((l.length : Nat) : Int) - (1 : Int)) + 1).toNat + 1) (((l.length : Nat) : Int) - (1 : Int))) (fun r => r) (fun zz => last_m_k0 l key zz)

set_option maxHeartbeats 4000000 in
set_option maxRecDepth 100000 in
theorem last_any (l : List Par) (key : List UInt8) (lv0 : Value) (w : World) (hl : Rs ePar 2 l lv0 w) (hp0 : l.length ≤ 4398046511104) : Calls Tryd.prog 27 #[lv0, .string (tx key)] w (fun e w' => e = .returned (.tuple #[.string (tx ((last_m l key).1)), .bool ((last_m l key).2)]) ∧ Below w.heap.size w w') := by
  go_enter Tryd.func27, Tryd.ntmps27
  have hm00 := Mm.nil none (fun _ => True) w
  obtain ⟨Fl, hm01⟩ : ∃ Fl, Mm none (fun _ => True) w w [.see (Rs ePar 2 l lv0) Fl] := hm00.come (Rs.all hl)
  have hm0 := hm01
  refine wp_seq_k (fun K1 hK1 => ?_)
  refine wp_region_lit ?_
  refine lvw 4 (.string (tx ([]))) rfl rfl (run_as rfl rfl) ?_
  simp only [nz1, nz2, nz3]
  refine lvw 5 (.bool false) rfl rfl (run_as rfl rfl) ?_
  simp only [nz1, nz2, nz3]
  refine wpList_nil ?_
  refine then_n (hK1 _ _ ?_)
  refine wp_seq_k (fun K2 hK2 => ?_)
  refine wp_seq_k (fun K3 hK3 => ?_)
  refine wp_region_lit ?_
  refine lvw 7 (lv0) rfl rfl (run_mv rfl rfl) ?_
  simp only [nz1, nz2, nz3]
  refine lvw 8 (.int .i64 ((l.length : Nat) : Int)) rfl rfl (s_len ((hm0.see 0 rfl)) rfl Tryd.underlying36 rfl) ?_
  simp only [nz1, nz2, nz3]
  refine lvw 9 (.int .i64 ((((l.length : Nat) : Int) - (1 : Int)))) rfl rfl (z_sub ((l.length : Nat) : Int) (1 : Int) _ (by rw [IntKind.wrap_i64]; omega) rfl rfl rfl) ?_
  simp only [nz1, nz2, nz3]
  refine lvw 6 (.int .i64 ((((l.length : Nat) : Int) - (1 : Int)))) rfl rfl (run_as rfl rfl) ?_
  simp only [nz1, nz2, nz3]
  refine wpList_nil ?_
  refine then_n (hK3 _ _ ?_)
  refine wp_cutK (fun a' w' => ∃ (y8 : Int) (yu0 : Nat → Value), last_m_l0 l key (((((l.length : Nat) : Int) - (1 : Int)) + 1).toNat + 1) (((l.length : Nat) : Int) - (1 : Int)) = .inl y8 ∧ (-1 ≤ y8 ∧ y8 < ((l.length : Nat) : Int)) ∧ a' = ⟨#[lv0, .string (tx key), undef, undef, yu0 0, yu0 1, .int .i64 (y8), lv0, .int .i64 ((l.length : Nat) : Int), .int .i64 ((((l.length : Nat) : Int) - (1 : Int))), yu0 2, yu0 3, yu0 4, yu0 5, yu0 6, yu0 7, yu0 8, yu0 9, yu0 10, yu0 11, yu0 12, yu0 13, yu0 14, yu0 15, yu0 16, yu0 17], []⟩ ∧ Mm none (fun _ => True) w w' [.see (Rs ePar 2 l lv0) Fl]) ?_ ?_
  · refine wp_block ?_
    refine wp_loop_n (fun n' a' w' => ∃ (n5 : Nat) (x4 : Int) (u0 : Nat → Value), n' = n5 ∧ (x4 + 1).toNat < n5 ∧ last_m_l0 l key (((((l.length : Nat) : Int) - (1 : Int)) + 1).toNat + 1) (((l.length : Nat) : Int) - (1 : Int)) = last_m_l0 l key n5 x4 ∧ (-1 ≤ x4 ∧ x4 < ((l.length : Nat) : Int)) ∧ a' = ⟨#[lv0, .string (tx key), undef, undef, u0 0, u0 1, .int .i64 (x4), lv0, .int .i64 ((l.length : Nat) : Int), .int .i64 ((((l.length : Nat) : Int) - (1 : Int))), u0 2, u0 3, u0 4, u0 5, u0 6, u0 7, u0 8, u0 9, u0 10, u0 11, u0 12, u0 13, u0 14, u0 15, u0 16, u0 17], []⟩ ∧ Mm none (fun _ => True) w w' [.see (Rs ePar 2 l lv0) Fl]) ⟨(((((l.length : Nat) : Int) - (1 : Int)) + 1).toNat + 1), (((l.length : Nat) : Int) - (1 : Int)), (fun qq => List.getD [.string (tx ([])), .bool false, undef, undef, undef, undef, undef, undef, undef, undef, undef, undef, undef, undef, undef, undef, undef, undef] qq undef), rfl, Nat.lt_succ_self _, rfl, (by first | omega | (simp; done) | (simp; omega) | (simp at *; omega)), rfl, hm0⟩ ?_
    rintro n5 _ w10 ⟨_, x4, u0, rfl, hl14, hi7, hls, rfl, hm11⟩ R12 hR12
    obtain ⟨k6, rfl⟩ : ∃ k, n5 = k + 1 := ⟨n5 - 1, by omega⟩
    refine wp_seq_k (fun K15 hK15 => ?_)
    refine wp_seq_k (fun K16 hK16 => ?_)
    refine wp_region_lit ?_
    refine lvw 10 (.int .i64 (x4)) rfl rfl (run_mv rfl rfl) ?_
    simp only [nz1, nz2, nz3]
    refine lvw 11 (.bool (decide (0 ≤ x4))) rfl rfl (z_geq x4 0 rfl rfl rfl) ?_
    simp only [nz1, nz2, nz3]
    refine wpList_nil ?_
    refine then_n (hK16 _ _ ?_)
    refine cond_d (0 ≤ x4) rfl (fun hc17 => ?_) (fun hc17 => ?_)
    rotate_left
    · refine wp_exit ?_
      refine then_x ?_
      refine then_x ?_
      refine blk_x ?_
      refine then_n ?_
      exact ⟨x4, (fun qq => List.getD [u0 0, u0 1, .int .i64 (x4), .bool (decide (0 ≤ x4)), u0 4, u0 5, u0 6, u0 7, u0 8, u0 9, u0 10, u0 11, u0 12, u0 13, u0 14, u0 15, u0 16, u0 17] qq undef), (hi7.trans (show last_m_b0 l key (last_m_l0 l key k6) x4 = .inl x4 from by unfold last_m_b0; rw [if_neg hc17] <;> rfl)), (by first | omega | (simp; done) | (simp; omega) | (simp at *; omega)), rfl, hm11⟩
    refine wp_skip ?_
    refine then_n (hK15 _ _ ?_)
    refine wp_seq_k (fun K18 hK18 => ?_)
    refine wp_block ?_
    refine wp_seq_k (fun K19 hK19 => ?_)
    refine wp_region_lit ?_
    refine lvw 14 (lv0) rfl rfl (run_mv rfl rfl) ?_
    simp only [nz1, nz2, nz3]
    refine lvw 15 (.int .i64 (x4)) rfl rfl (run_mv rfl rfl) ?_
    simp only [nz1, nz2, nz3]
    refine lvw 16 (.pointer (some ⟨(bk lv0), (po lv0 + x4.toNat * 2), none⟩)) rfl rfl (r_ixvZ ((hm11.see 0 rfl)) x4 (by omega) (by omega) Tryd.underlying36 sz_47 rfl rfl rfl) ?_
    simp only [nz1, nz2, nz3]
    refine lvw 17 (.pointer (some ⟨(bk lv0), ((po lv0 + x4.toNat * 2) + 0), none⟩)) rfl rfl (r_fa47_0 (bk lv0) (po lv0 + x4.toNat * 2) rfl rfl) ?_
    simp only [nz1, nz2, nz3]
    refine lvw 18 (.string (tx ((l.getD x4.toNat dPar).key))) rfl rfl (r_cellw (Rs.cell ((hm11.see 0 rfl)) ePar_len dPar x4.toNat (by omega) 0 _ rfl) Tryd.underlying9 rfl rfl rfl) ?_
    simp only [nz1, nz2, nz3]
    refine lvw 19 (.string (tx key)) rfl rfl (run_mv rfl rfl) ?_
    simp only [nz1, nz2, nz3]
    refine lvw 20 (.bool (decide ((l.getD x4.toNat dPar).key = key))) rfl rfl (t_eql ((l.getD x4.toNat dPar).key) key rfl rfl rfl) ?_
    simp only [nz1, nz2, nz3]
    refine wpList_nil ?_
    refine then_n (hK19 _ _ ?_)
    refine cond_d ((l.getD x4.toNat dPar).key = key) rfl (fun hc20 => ?_) (fun hc20 => ?_)
    rotate_left
    · refine wp_skip ?_
      refine blk_n ?_
      refine then_n (hK18 _ _ ?_)
      refine wp_region_lit ?_
      refine lvw 12 (.int .i64 (x4)) rfl rfl (run_mv rfl rfl) ?_
      simp only [nz1, nz2, nz3]
      refine lvw 13 (.int .i64 ((x4 - (1 : Int)))) rfl rfl (z_sub x4 (1 : Int) _ (by rw [IntKind.wrap_i64]; omega) rfl rfl rfl) ?_
      simp only [nz1, nz2, nz3]
      refine lvw 6 (.int .i64 ((x4 - (1 : Int)))) rfl rfl (run_as rfl rfl) ?_
      simp only [nz1, nz2, nz3]
      refine wpList_nil ?_
      refine then_n (hR12 _ _ _ ⟨k6, (x4 - (1 : Int)), (fun qq => List.getD [u0 0, u0 1, .int .i64 (x4), .bool (decide (0 ≤ x4)), .int .i64 (x4), .int .i64 ((x4 - (1 : Int))), lv0, .int .i64 (x4), .pointer (some ⟨(bk lv0), (po lv0 + x4.toNat * 2), none⟩), .pointer (some ⟨(bk lv0), ((po lv0 + x4.toNat * 2) + 0), none⟩), .string (tx ((l.getD x4.toNat dPar).key)), .string (tx key), .bool (decide ((l.getD x4.toNat dPar).key = key)), u0 13, u0 14, u0 15, u0 16, u0 17] qq undef), rfl, (by first | omega | (simp; omega) | (simp at *; omega)), (hi7.trans (show last_m_b0 l key (last_m_l0 l key k6) x4 = last_m_l0 l key k6 (x4 - (1 : Int)) from by unfold last_m_b0; rw [if_pos hc17, if_neg hc20] <;> rfl)), (by first | omega | (simp; done) | (simp; omega) | (simp at *; omega)), rfl, hm11⟩ ?_)
      omega
    refine wp_seq_k (fun K21 hK21 => ?_)
    refine wp_region_lit ?_
    refine lvw 21 (lv0) rfl rfl (run_mv rfl rfl) ?_
    simp only [nz1, nz2, nz3]
    refine lvw 22 (.int .i64 (x4)) rfl rfl (run_mv rfl rfl) ?_
    simp only [nz1, nz2, nz3]
    refine lvw 23 (.pointer (some ⟨(bk lv0), (po lv0 + x4.toNat * 2), none⟩)) rfl rfl (r_ixvZ ((hm11.see 0 rfl)) x4 (by omega) (by omega) Tryd.underlying36 sz_47 rfl rfl rfl) ?_
    simp only [nz1, nz2, nz3]
    refine lvw 24 (.pointer (some ⟨(bk lv0), ((po lv0 + x4.toNat * 2) + 1), none⟩)) rfl rfl (r_fa47_1 (bk lv0) (po lv0 + x4.toNat * 2) rfl rfl) ?_
    simp only [nz1, nz2, nz3]
    refine lvw 25 (.string (tx ((l.getD x4.toNat dPar).value))) rfl rfl (r_cellw (Rs.cell ((hm11.see 0 rfl)) ePar_len dPar x4.toNat (by omega) 1 _ rfl) Tryd.underlying9 rfl rfl rfl) ?_
    simp only [nz1, nz2, nz3]
    refine lvw 4 (.string (tx ((l.getD x4.toNat dPar).value))) rfl rfl (run_as rfl rfl) ?_
    simp only [nz1, nz2, nz3]
    refine lvw 5 (.bool true) rfl rfl (run_as rfl rfl) ?_
    simp only [nz1, nz2, nz3]
    refine wpList_nil ?_
    refine then_n (hK21 _ _ ?_)
    refine wp_ret ?_
    refine blk_r ?_
    refine then_r ?_
    refine then_r ?_
    refine blk_r ?_
    refine then_r ?_
    refine then_r ?_
    have he22 : last_m_l0 l key (((((l.length : Nat) : Int) - (1 : Int)) + 1).toNat + 1) (((l.length : Nat) : Int) - (1 : Int)) = .inr (((l.getD x4.toNat dPar).value), true) := (hi7.trans (show last_m_b0 l key (last_m_l0 l key k6) x4 = .inr (((l.getD x4.toNat dPar).value), true) from by unfold last_m_b0; rw [if_pos hc17, if_pos hc20] <;> rfl))
    have he23 : last_m l key = (((l.getD x4.toNat dPar).value), true) := (show last_m l key = (((l.getD x4.toNat dPar).value), true) from by unfold last_m; rw [he22] <;> rfl)
    exact ⟨rfl, .tuple #[.string (tx ((l.getD x4.toNat dPar).value)), .bool true], res_tt rfl rfl rfl, ⟨by rw [he23], hm11.below⟩⟩
  rintro _ w24 ⟨y8, yu0, hx9, hls, rfl, hm25⟩
  have hq26 : last_m l key = last_m_k0 l key y8 := (show last_m l key = last_m_k0 l key y8 from by unfold last_m; rw [hx9] <;> rfl)
  refine then_n (hK2 _ _ ?_)
  refine wp_seq_k (fun K27 hK27 => ?_)
  refine wp_region_lit ?_
  refine lvw 4 (.string (tx ([]))) rfl rfl (run_as rfl rfl) ?_
  simp only [nz1, nz2, nz3]
  refine lvw 5 (.bool false) rfl rfl (run_as rfl rfl) ?_
  simp only [nz1, nz2, nz3]
  refine wpList_nil ?_
  refine then_n (hK27 _ _ ?_)
  refine wp_ret ?_
  have he28 : last_m l key = (([]), false) := (hq26.trans (show last_m_k0 l key y8 = (([]), false) from by unfold last_m_k0; rfl))
  exact ⟨rfl, .tuple #[.string (tx ([])), .bool false], res_tt rfl rfl rfl, ⟨by rw [he28], hm25.below⟩⟩
theorem run_last {o : Oper} {a : Act} {w : World} {x0 x1 : Operand} {v0 v1 : Value} (ho : o.op = .call { callee := .value (.func 27), args := #[x0, x1], argTypes := #[36, 9] }) (h0 : a.eval x0 = v0) (h1 : a.eval x1 = v1) :
    (execOp a.eval o).run Tryd.prog w = .ok (.enter 27 #[v0, v1]) w := by
  unfold execOp
  simp only [ho]
  have hf : a.eval (.func 27) = .func (.func 27) #[] #[] := rfl
  generalize a.eval = f at *
  go_simp
end Go.Proofs.YtglnifckngcpkaaDoor.Px
