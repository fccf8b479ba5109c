/- Layer 20: SolveTells. -/
import Derived.Test.YtpbenhfnebgbiaaDoorSoE
import Derived.Test.YtpbenhfnebgbiaaDoorSoQ
namespace Go.Proofs.YtpbenhfnebgbiaaDoor.So
open Go.RowKit
open Go.Proofs.YtpbenhfnebgbiaaDoor.Sym Go.Proofs.YtpbenhfnebgbiaaDoor.Mem
open Go.Proofs.YtpbenhfnebgbiaaDoor.Sx hiding Mm m_alloc m_store m_put m_call m_callx m_make m_append r_string r_ixS
set_option linter.unusedVariables false
open Go.Proofs.YtpbenhfnebgbiaaDoor.Pa
open Go.Proofs.YtpbenhfnebgbiaaDoor.Ve
attribute [local irreducible] holds_m meets_m lacks_m clashes_m solve_m needs_m users_m
attribute [local irreducible] great_m
attribute [local irreducible] sawake_m rholds_m rmeets_m rlacks_m rclashes_m rsolve_m rusers_m
attribute [local irreducible] wpList Oper.wp

def ssame_m_b0 (a : List Rul) (b : List Rul) (rec : Nat → Sum (Nat) (Bool)) (x9 : Nat) : Sum (Nat) (Bool) :=
  if x9 < a.length then
    if ¬ (a.getD x9 dRul) = (b.getD x9 dRul) then
      .inr false
    else
      rec (x9 + 1)
  else
    .inl x9
def ssame_m_l0 (a : List Rul) (b : List Rul) : Nat → Nat → Sum (Nat) (Bool)
  | 0, zz => .inl zz
  | nq + 1, zz => ssame_m_b0 a b (ssame_m_l0 a b nq) zz

def ssame_m_k0 (a : List Rul) (b : List Rul) (y13 : Nat) : Bool :=
  true

def ssame_m (a : List Rul) (b : List Rul) : Bool :=
  if ¬ a.length = b.length then
    false
  else
    fin (ssame_m_l0 a b ((a.length - 0) + 1) 0) (fun r => r) (fun zz => ssame_m_k0 a b zz)

set_option maxHeartbeats 4000000 in
set_option maxRecDepth 100000 in
theorem ssame_any (a : List Rul) (b : List Rul) (av0 : Value) (bv0 : Value) (w : World) (ha : Rs eRul 3 a av0 w) (hb : Rs eRul 3 b bv0 w) (hp0 : a.length ≤ 671088700000) : Calls Tryd.prog 9 #[av0, bv0] w (fun e w' => e = .returned (.bool ((ssame_m a b))) ∧ Below w.heap.size w w') := by
  go_enter Tryd.func9, Tryd.ntmps9
  have hm00 := Mm.nil none (fun _ => True) w
  obtain ⟨Fa, hm01⟩ : ∃ Fa, Mm none (fun _ => True) w w [.see (Rs eRul 3 a av0) Fa] := hm00.come (Rs.all ha)
  obtain ⟨Fb, hm02⟩ : ∃ Fb, Mm none (fun _ => True) w w [.see (Rs eRul 3 a av0) Fa, .see (Rs eRul 3 b bv0) Fb] := hm01.come (Rs.all hb)
  have hm0 := hm02
  refine wp_seq_k (fun K1 hK1 => ?_)
  refine wp_region_lit ?_
  refine lvw 4 (.bool false) rfl rfl (run_as rfl rfl) ?_
  simp only [nz1, nz2, nz3]
  refine wpList_nil ?_
  refine then_n (hK1 _ _ ?_)
  refine wp_seq_k (fun K2 hK2 => ?_)
  refine wp_seq_k (fun K3 hK3 => ?_)
  refine wp_region_lit ?_
  refine lvw 6 (av0) rfl rfl (run_mv rfl rfl) ?_
  simp only [nz1, nz2, nz3]
  refine lvw 7 (.int .i64 ((a.length : Nat) : Int)) rfl rfl (s_len ((hm0.see 0 rfl)) rfl Tryd.underlying28 rfl) ?_
  simp only [nz1, nz2, nz3]
  refine lvw 8 (bv0) rfl rfl (run_mv rfl rfl) ?_
  simp only [nz1, nz2, nz3]
  refine lvw 9 (.int .i64 ((b.length : Nat) : Int)) rfl rfl (s_len ((hm0.see 1 rfl)) rfl Tryd.underlying28 rfl) ?_
  simp only [nz1, nz2, nz3]
  refine lvw 10 (.bool (decide (¬ a.length = b.length))) rfl rfl (r_neq a.length b.length rfl rfl rfl) ?_
  simp only [nz1, nz2, nz3]
  refine wpList_nil ?_
  refine then_n (hK3 _ _ ?_)
  refine cond_d (¬ a.length = b.length) rfl (fun hc4 => ?_) (fun hc4 => ?_)
  · refine wp_seq_k (fun K5 hK5 => ?_)
    refine wp_region_lit ?_
    refine lvw 4 (.bool false) rfl rfl (run_as rfl rfl) ?_
    simp only [nz1, nz2, nz3]
    refine wpList_nil ?_
    refine then_n (hK5 _ _ ?_)
    refine wp_ret ?_
    refine then_r ?_
    have he6 : ssame_m a b = false := (show ssame_m a b = false from by unfold ssame_m; rw [if_pos hc4] <;> rfl)
    exact ⟨rfl, .bool false, res_t rfl rfl, ⟨by (rw [he6]; try rfl), hm0.below⟩⟩
  refine wp_skip ?_
  refine then_n (hK2 _ _ ?_)
  refine wp_seq_k (fun K7 hK7 => ?_)
  refine wp_seq_k (fun K8 hK8 => ?_)
  refine wp_region_lit ?_
  refine lvw 5 (.int .i64 0) rfl rfl (run_as rfl rfl) ?_
  simp only [nz1, nz2, nz3]
  refine wpList_nil ?_
  refine then_n (hK8 _ _ ?_)
  refine wp_cutK (fun a' w' => ∃ (y13 : Nat) (yu0 : Nat → Value), ssame_m_l0 a b ((a.length - 0) + 1) 0 = .inl y13 ∧ a' = ⟨#[av0, bv0, undef, undef, yu0 0, .int .i64 ((y13 : Nat) : Int), av0, .int .i64 ((a.length : Nat) : Int), bv0, .int .i64 ((b.length : Nat) : Int), .bool (decide (¬ a.length = b.length)), yu0 1, yu0 2, yu0 3, yu0 4, yu0 5, yu0 6, yu0 7, yu0 8, yu0 9, yu0 10, yu0 11, yu0 12, yu0 13, yu0 14, yu0 15], []⟩ ∧ Mm none (fun _ => True) w w' [.see (Rs eRul 3 a av0) Fa, .see (Rs eRul 3 b bv0) Fb]) ?_ ?_
  · refine wp_block ?_
    refine wp_loop_n (fun n' a' w' => ∃ (n10 : Nat) (x9 : Nat) (u0 : Nat → Value), n' = n10 ∧ (a.length - x9) < n10 ∧ ssame_m_l0 a b ((a.length - 0) + 1) 0 = ssame_m_l0 a b n10 x9 ∧ a' = ⟨#[av0, bv0, undef, undef, u0 0, .int .i64 ((x9 : Nat) : Int), av0, .int .i64 ((a.length : Nat) : Int), bv0, .int .i64 ((b.length : Nat) : Int), .bool (decide (¬ a.length = b.length)), u0 1, u0 2, u0 3, u0 4, u0 5, u0 6, u0 7, u0 8, u0 9, u0 10, u0 11, u0 12, u0 13, u0 14, u0 15], []⟩ ∧ Mm none (fun _ => True) w w' [.see (Rs eRul 3 a av0) Fa, .see (Rs eRul 3 b bv0) Fb]) ⟨((a.length - 0) + 1), 0, (fun qq => List.getD [.bool false, undef, undef, undef, undef, undef, undef, undef, undef, undef, undef, undef, undef, undef, undef, undef] qq undef), rfl, Nat.lt_succ_self _, rfl, rfl, hm0⟩ ?_
    rintro n10 _ w15 ⟨_, x9, u0, rfl, hl19, hi12, rfl, hm16⟩ R17 hR17
    obtain ⟨k11, rfl⟩ : ∃ k, n10 = k + 1 := ⟨n10 - 1, by omega⟩
    refine wp_seq_k (fun K20 hK20 => ?_)
    refine wp_seq_k (fun K21 hK21 => ?_)
    refine wp_region_lit ?_
    refine lvw 11 (.int .i64 ((x9 : Nat) : Int)) rfl rfl (run_mv rfl rfl) ?_
    simp only [nz1, nz2, nz3]
    refine lvw 12 (av0) rfl rfl (run_mv rfl rfl) ?_
    simp only [nz1, nz2, nz3]
    refine lvw 13 (.int .i64 ((a.length : Nat) : Int)) rfl rfl (s_len ((hm16.see 0 rfl)) rfl Tryd.underlying28 rfl) ?_
    simp only [nz1, nz2, nz3]
    refine lvw 14 (.bool (decide (x9 < a.length))) rfl rfl (r_lss x9 a.length rfl rfl rfl) ?_
    simp only [nz1, nz2, nz3]
    refine wpList_nil ?_
    refine then_n (hK21 _ _ ?_)
    refine cond_d (x9 < a.length) rfl (fun hc22 => ?_) (fun hc22 => ?_)
    rotate_left
    · refine wp_exit ?_
      refine then_x ?_
      refine then_x ?_
      refine blk_x ?_
      refine then_n ?_
      exact ⟨x9, (fun qq => List.getD [u0 0, .int .i64 ((x9 : Nat) : Int), av0, .int .i64 ((a.length : Nat) : Int), .bool (decide (x9 < a.length)), u0 5, u0 6, u0 7, u0 8, u0 9, u0 10, u0 11, u0 12, u0 13, u0 14, u0 15] qq undef), (hi12.trans (show ssame_m_b0 a b (ssame_m_l0 a b k11) x9 = .inl x9 from by unfold ssame_m_b0; rw [if_neg hc22] <;> rfl)), rfl, hm16⟩
    refine wp_skip ?_
    refine then_n (hK20 _ _ ?_)
    refine wp_seq_k (fun K23 hK23 => ?_)
    refine wp_block ?_
    refine wp_seq_k (fun K24 hK24 => ?_)
    have hm25 := hm16.drew
    refine wp_region_held_drew (S := fun w' => Rs eRul 3 a av0 w' ∧ Rs eRul 3 b bv0 w') (by kernel_rfl) (⟨((hm25.see 0 rfl)), ((hm25.see 1 rfl))⟩) (fun _ => ?_)
    generalize w15.drew = w26 at *
    refine tk 0 17 (av0) rfl rfl (fun _ hw => run_mv rfl rfl) (⟨((hm25.see 0 rfl)), ((hm25.see 1 rfl))⟩) ?_
    simp only [nz1, nz2, nz3]
    refine tk 1 18 (.int .i64 ((x9 : Nat) : Int)) rfl rfl (fun _ hw => run_mv rfl rfl) (⟨((hm25.see 0 rfl)), ((hm25.see 1 rfl))⟩) ?_
    simp only [nz1, nz2, nz3]
    refine tk 2 19 (.pointer (some ⟨(bk av0), (po av0 + x9 * 3), none⟩)) rfl rfl (fun _ hw => r_ixv ((hm25.see 0 rfl)) x9 (by omega) Tryd.underlying28 sz_24 rfl rfl rfl) (⟨((hm25.see 0 rfl)), ((hm25.see 1 rfl))⟩) ?_
    simp only [nz1, nz2, nz3]
    refine tk 3 20 (.agg #[.string (tx ((a.getD x9 dRul).name)), .int .i64 ((a.getD x9 dRul).op), .string (tx ((a.getD x9 dRul).version))]) rfl rfl (fun _ hw => r_partw (fun j u hj => Rs.cell hw.1 eRul_len dRul x9 (by omega) j u (arr_get hj)) Tryd.underlying24 rfl (by exact sz_24) rfl rfl) (⟨((hm25.see 0 rfl)), ((hm25.see 1 rfl))⟩) ?_
    simp only [nz1, nz2, nz3]
    refine tk 4 21 (bv0) rfl rfl (fun _ hw => run_mv rfl rfl) (⟨((hm25.see 0 rfl)), ((hm25.see 1 rfl))⟩) ?_
    simp only [nz1, nz2, nz3]
    refine tk 5 22 (.int .i64 ((x9 : Nat) : Int)) rfl rfl (fun _ hw => run_mv rfl rfl) (⟨((hm25.see 0 rfl)), ((hm25.see 1 rfl))⟩) ?_
    simp only [nz1, nz2, nz3]
    refine tk 6 23 (.pointer (some ⟨(bk bv0), (po bv0 + x9 * 3), none⟩)) rfl rfl (fun _ hw => r_ixv ((hm25.see 1 rfl)) x9 (by omega) Tryd.underlying28 sz_24 rfl rfl rfl) (⟨((hm25.see 0 rfl)), ((hm25.see 1 rfl))⟩) ?_
    simp only [nz1, nz2, nz3]
    refine tk 7 24 (.agg #[.string (tx ((b.getD x9 dRul).name)), .int .i64 ((b.getD x9 dRul).op), .string (tx ((b.getD x9 dRul).version))]) rfl rfl (fun _ hw => r_partw (fun j u hj => Rs.cell hw.2 eRul_len dRul x9 (by omega) j u (arr_get hj)) Tryd.underlying24 rfl (by exact sz_24) rfl rfl) (⟨((hm25.see 0 rfl)), ((hm25.see 1 rfl))⟩) ?_
    simp only [nz1, nz2, nz3]
    refine tk 8 25 (.bool (decide (¬ (a.getD x9 dRul) = (b.getD x9 dRul)))) rfl rfl (fun _ hw => c24_neq (a.getD x9 dRul) (b.getD x9 dRul) rfl rfl rfl) (⟨((hm25.see 0 rfl)), ((hm25.see 1 rfl))⟩) ?_
    simp only [nz1, nz2, nz3]
    refine wpAnyH_done (by kernel_rfl) ?_ _
    refine then_n (hK24 _ _ ?_)
    refine cond_d (¬ (a.getD x9 dRul) = (b.getD x9 dRul)) rfl (fun hc27 => ?_) (fun hc27 => ?_)
    rotate_left
    · refine wp_skip ?_
      refine blk_n ?_
      refine then_n (hK23 _ _ ?_)
      refine wp_region_lit ?_
      refine lvw 15 (.int .i64 ((x9 : Nat) : Int)) rfl rfl (run_mv rfl rfl) ?_
      simp only [nz1, nz2, nz3]
      refine lvw 16 (.int .i64 (((x9 + 1) : Nat) : Int)) rfl rfl (r_add x9 1 (show (x9 + 1) < 9223372036854775808 from by omega) rfl rfl rfl) ?_
      simp only [nz1, nz2, nz3]
      refine lvw 5 (.int .i64 (((x9 + 1) : Nat) : Int)) rfl rfl (run_as rfl rfl) ?_
      simp only [nz1, nz2, nz3]
      refine wpList_nil ?_
      refine then_n (hR17 _ _ _ ⟨k11, (x9 + 1), (fun qq => List.getD [u0 0, .int .i64 ((x9 : Nat) : Int), av0, .int .i64 ((a.length : Nat) : Int), .bool (decide (x9 < a.length)), .int .i64 ((x9 : Nat) : Int), .int .i64 (((x9 + 1) : Nat) : Int), av0, .int .i64 ((x9 : Nat) : Int), .pointer (some ⟨(bk av0), (po av0 + x9 * 3), none⟩), .agg #[.string (tx ((a.getD x9 dRul).name)), .int .i64 ((a.getD x9 dRul).op), .string (tx ((a.getD x9 dRul).version))], bv0, .int .i64 ((x9 : Nat) : Int), .pointer (some ⟨(bk bv0), (po bv0 + x9 * 3), none⟩), .agg #[.string (tx ((b.getD x9 dRul).name)), .int .i64 ((b.getD x9 dRul).op), .string (tx ((b.getD x9 dRul).version))], .bool (decide (¬ (a.getD x9 dRul) = (b.getD x9 dRul)))] qq undef), rfl, (by first | omega | (simp; omega) | (simp at *; omega)), (hi12.trans (show ssame_m_b0 a b (ssame_m_l0 a b k11) x9 = ssame_m_l0 a b k11 (x9 + 1) from by unfold ssame_m_b0; rw [if_pos hc22, if_neg hc27] <;> rfl)), rfl, hm25⟩ ?_)
      omega
    refine wp_seq_k (fun K28 hK28 => ?_)
    refine wp_region_lit ?_
    refine lvw 4 (.bool false) rfl rfl (run_as rfl rfl) ?_
    simp only [nz1, nz2, nz3]
    refine wpList_nil ?_
    refine then_n (hK28 _ _ ?_)
    refine wp_ret ?_
    refine blk_r ?_
    refine then_r ?_
    refine then_r ?_
    refine blk_r ?_
    refine then_r ?_
    refine then_r ?_
    have he29 : ssame_m_l0 a b ((a.length - 0) + 1) 0 = .inr false := (hi12.trans (show ssame_m_b0 a b (ssame_m_l0 a b k11) x9 = .inr false from by unfold ssame_m_b0; rw [if_pos hc22, if_pos hc27] <;> rfl))
    have he30 : ssame_m a b = false := (show ssame_m a b = false from by unfold ssame_m; rw [if_neg hc4, he29] <;> rfl)
    exact ⟨rfl, .bool false, res_t rfl rfl, ⟨by (rw [he30]; try rfl), hm25.below⟩⟩
  rintro _ w31 ⟨y13, yu0, hx14, rfl, hm32⟩
  have hq33 : ssame_m a b = ssame_m_k0 a b y13 := (show ssame_m a b = ssame_m_k0 a b y13 from by unfold ssame_m; rw [if_neg hc4, hx14] <;> rfl)
  refine then_n (hK7 _ _ ?_)
  refine wp_seq_k (fun K34 hK34 => ?_)
  refine wp_region_lit ?_
  refine lvw 4 (.bool true) rfl rfl (run_as rfl rfl) ?_
  simp only [nz1, nz2, nz3]
  refine wpList_nil ?_
  refine then_n (hK34 _ _ ?_)
  refine wp_ret ?_
  have he35 : ssame_m a b = true := (hq33.trans (show ssame_m_k0 a b y13 = true from by unfold ssame_m_k0; rfl))
  exact ⟨rfl, .bool true, res_t rfl rfl, ⟨by (rw [he35]; try rfl), hm32.below⟩⟩
theorem run_ssame {o : Oper} {a : Act} {w : World} {x0 x1 : Operand} {v0 v1 : Value} (ho : o.op = .call { callee := .value (.func 9), args := #[x0, x1], argTypes := #[28, 28] }) (h0 : a.eval x0 = v0) (h1 : a.eval x1 = v1) :
    (execOp a.eval o).run Tryd.prog w = .ok (.enter 9 #[v0, v1]) w := by
  unfold execOp
  simp only [ho]
  have hf : a.eval (.func 9) = .func (.func 9) #[] #[] := rfl
  generalize a.eval = f at *
  go_simp
def ltells_m_b1 (l : List Mf) (r : Rul) (but : List UInt8) (x86 : Nat) (rec : Nat → Sum (Nat) (Bool)) (x130 : Nat) : Sum (Nat) (Bool) :=
  if x130 < (users_m l (l.getD x86 dMf)).length then
    if ¬ ((users_m l (l.getD x86 dMf)).getD x130 []) = ((rusers_m l (l.getD x86 dMf)).getD x130 []) then
      .inr false
    else
      rec (x130 + 1)
  else
    .inl x130
def ltells_m_l1 (l : List Mf) (r : Rul) (but : List UInt8) (x86 : Nat) : Nat → Nat → Sum (Nat) (Bool)
  | 0, zz => .inl zz
  | nq + 1, zz => ltells_m_b1 l r but x86 (ltells_m_l1 l r but x86 nq) zz

def ltells_m_k1 (l : List Mf) (r : Rul) (but : List UInt8) (x86 : Nat) (rec : Nat → Sum (Nat) (Bool)) (y134 : Nat) : Sum (Nat) (Bool) :=
  rec (x86 + 1)

def ltells_m_b0 (l : List Mf) (r : Rul) (but : List UInt8) (rec : Nat → Sum (Nat) (Bool)) (x86 : Nat) : Sum (Nat) (Bool) :=
  if x86 < l.length then
    if ¬ (users_m l (l.getD x86 dMf)).length = (rusers_m l (l.getD x86 dMf)).length then
      .inr false
    else
      fin (ltells_m_l1 l r but x86 (((users_m l (l.getD x86 dMf)).length - 0) + 1) 0) .inr (fun zz => ltells_m_k1 l r but x86 rec zz)
  else
    .inl x86
def ltells_m_l0 (l : List Mf) (r : Rul) (but : List UInt8) : Nat → Nat → Sum (Nat) (Bool)
  | 0, zz => .inl zz
  | nq + 1, zz => ltells_m_b0 l r but (ltells_m_l0 l r but nq) zz

def ltells_m_k0 (l : List Mf) (r : Rul) (but : List UInt8) (y90 : Nat) : Bool :=
  true

def ltells_m (l : List Mf) (r : Rul) (but : List UInt8) : Bool :=
  if 500 < grn l then
    sawake_m
  else
    if (!sawake_m) = true then
      false
    else
      if (!(ssame_m (lacks_m l) (rlacks_m l))) = true then
        false
      else
        if (!(ssame_m (clashes_m l) (rclashes_m l))) = true then
          false
        else
          if ¬ (solve_m l) = (rsolve_m l) then
            false
          else
            if ((meets_m l r but) != (rmeets_m l r but)) = true then
              false
            else
              fin (ltells_m_l0 l r but ((l.length - 0) + 1) 0) (fun r => r) (fun zz => ltells_m_k0 l r but zz)

set_option maxHeartbeats 4000000 in
set_option maxRecDepth 100000 in
theorem ltells_any (l : List Mf) (r : Rul) (but : List UInt8) (lv0 : Value) (lv1 : List (Value × Value × Value)) (w : World) (hl : Rn nMf 5 MfN l lv1 lv0 w) (hp0 : l.length ≤ 268435456) (hp1 : okl l) : Calls Tryd.prog 3 #[lv0, .agg #[.string (tx r.name), .int .i64 (r.op), .string (tx r.version)], .string (tx but)] w (fun e w' => e = .returned (.bool ((ltells_m l r but))) ∧ Below w.heap.size w w') := by
  go_enter Tryd.func3, Tryd.ntmps3
  have hm00 := Mm.nil none (fun _ => True) w
  obtain ⟨Fl, hm01⟩ : ∃ Fl, Mm none (fun _ => True) w w [.see (Rn nMf 5 MfN l lv1 lv0) Fl] := hm00.come ((Rn.all MfN_all) hl)
  have hm0 := hm01
  refine wp_seq_k (fun K1 hK1 => ?_)
  refine wp_region_lit ?_
  refine lst rfl (m_alloc (c := #[.string (tx r.name), .int .i64 (r.op), .string (tx r.version)]) (T := 24) hm0 4 rfl (run_box rfl rfl) (fun g4 w2 (hm3 : Mm none (fun _ => True) w w2 [.see (Rn nMf 5 MfN l lv1 lv0) Fl, .blk g4 #[.string (tx r.name), .int .i64 (r.op), .string (tx r.version)] 24]) => ?_))
  simp only [nz1, nz2, nz3]
  refine lvw 6 (.bool false) rfl rfl (run_as rfl rfl) ?_
  simp only [nz1, nz2, nz3]
  refine wpList_nil ?_
  refine then_n (hK1 _ _ ?_)
  refine wp_seq_k (fun K5 hK5 => ?_)
  refine wp_seq_k (fun K6 hK6 => ?_)
  refine wp_region_lit ?_
  refine lvw 11 (lv0) rfl rfl (run_mv rfl rfl) ?_
  simp only [nz1, nz2, nz3]
  refine lst rfl (m_call hm3 12 (.bool (decide (500 < grn l))) rfl (run_great rfl rfl) (greatd_any l lv0 lv1 _ (hm3.see 0 rfl) (by first | omega | assumption | ((repeat' (first | assumption | exact okl_nil | apply okl_app | apply okl_drop | apply okl_take | apply okl_cons | exact (okl_at (by assumption) _).1 | exact (okl_at (by assumption) _).2 | (simp; done) | (simp; omega) | decide)); done) | (simp; done) | (simp; omega) | (simp only [List.length_append, List.length_cons, List.length_nil]; omega) | (simp only [List.length_append, List.length_cons, List.length_nil] at *; omega) | decide) (by first | omega | assumption | ((repeat' (first | assumption | exact okl_nil | apply okl_app | apply okl_drop | apply okl_take | apply okl_cons | exact (okl_at (by assumption) _).1 | exact (okl_at (by assumption) _).2 | (simp; done) | (simp; omega) | decide)); done) | (simp; done) | (simp; omega) | (simp only [List.length_append, List.length_cons, List.length_nil]; omega) | (simp only [List.length_append, List.length_cons, List.length_nil] at *; omega) | decide)) (fun w7 (hm8 : Mm none (fun _ => True) w w7 [.see (Rn nMf 5 MfN l lv1 lv0) Fl, .blk g4 #[.string (tx r.name), .int .i64 (r.op), .string (tx r.version)] 24]) => ?_))
  have hf9 : l.length ≤ grn l := grn_len l
  simp only [nz1, nz2, nz3]
  refine wpList_nil ?_
  refine then_n (hK6 _ _ ?_)
  refine cond_d (500 < grn l) rfl (fun hc10 => ?_) (fun hc10 => ?_)
  · refine wp_seq_k (fun K11 hK11 => ?_)
    refine wp_region_lit ?_
    refine lst rfl (m_call hm8 13 (.bool (sawake_m)) rfl (run_sawake rfl) (sawake_any   _  ) (fun w12 (hm13 : Mm none (fun _ => True) w w12 [.see (Rn nMf 5 MfN l lv1 lv0) Fl, .blk g4 #[.string (tx r.name), .int .i64 (r.op), .string (tx r.version)] 24]) => ?_))
    simp only [nz1, nz2, nz3]
    refine lvw 6 (.bool (sawake_m)) rfl rfl (run_as rfl rfl) ?_
    simp only [nz1, nz2, nz3]
    refine wpList_nil ?_
    refine then_n (hK11 _ _ ?_)
    refine wp_ret ?_
    refine then_r ?_
    have he14 : ltells_m l r but = sawake_m := (show ltells_m l r but = sawake_m from by unfold ltells_m; rw [if_pos hc10] <;> rfl)
    exact ⟨rfl, .bool (sawake_m), res_t rfl rfl, ⟨by (rw [he14]; try rfl), hm13.below⟩⟩
  refine wp_skip ?_
  refine then_n (hK5 _ _ ?_)
  refine wp_seq_k (fun K15 hK15 => ?_)
  refine wp_seq_k (fun K16 hK16 => ?_)
  have hm17 := hm8.drew
  refine wp_region_held_drew (S := fun w' => Mem.Blk w' g4 (#[.string (tx r.name), .int .i64 (r.op), .string (tx r.version)]) 24) (by kernel_rfl) (hm17.at 1 rfl) (fun _ => ?_)
  generalize w7.drew = w18 at *
  refine one_ready 0 (by kernel_rfl) ?_
  refine opd rfl (wanted_none rfl) (m_call hm17 14 (.bool (sawake_m)) rfl (run_sawake rfl) (sawake_any   _  ) (fun w19 (hm20 : Mm none (fun _ => True) w w19 [.see (Rn nMf 5 MfN l lv1 lv0) Fl, .blk g4 #[.string (tx r.name), .int .i64 (r.op), .string (tx r.version)] 24]) => ?_))
  refine ⟨hm20.at 1 rfl, ?_⟩
  simp only [nz1, nz2, nz3]
  refine tkb 1 15 ((!sawake_m) = true) rfl rfl rfl (fun _ hw => (by rw [show decide ((!sawake_m) = true) = (!sawake_m) from Bool.decide_eq_true]; exact r_not sawake_m rfl rfl)) (hm20.at 1 rfl) (fun hs21 => ?_) (fun hs21 => ?_)
  · simp only [nz1, nz2, nz3]
    refine tk 2 16 (.bool true) rfl rfl (fun _ hw => run_mv rfl rfl) (hm20.at 1 rfl) ?_
    simp only [nz1, nz2, nz3]
    refine skx 3 17 rfl rfl rfl (hm20.at 1 rfl) ?_
    simp only [nz1, nz2, nz3]
    refine skx 4 18 rfl rfl rfl (hm20.at 1 rfl) ?_
    simp only [nz1, nz2, nz3]
    refine skx 5 19 rfl rfl rfl (hm20.at 1 rfl) ?_
    simp only [nz1, nz2, nz3]
    refine skx 6 20 rfl rfl rfl (hm20.at 1 rfl) ?_
    simp only [nz1, nz2, nz3]
    refine skx 7 21 rfl rfl rfl (hm20.at 1 rfl) ?_
    simp only [nz1, nz2, nz3]
    refine skx 8 22 rfl rfl rfl (hm20.at 1 rfl) ?_
    simp only [nz1, nz2, nz3]
    refine tk 9 23 (.bool true) rfl rfl (fun _ hw => run_pick rfl rfl rfl) (hm20.at 1 rfl) ?_
    simp only [nz1, nz2, nz3]
    refine tk 10 24 (.bool true) rfl rfl (fun _ hw => run_mv rfl rfl) (hm20.at 1 rfl) ?_
    simp only [nz1, nz2, nz3]
    refine skx 11 25 rfl rfl rfl (hm20.at 1 rfl) ?_
    simp only [nz1, nz2, nz3]
    refine skx 12 26 rfl rfl rfl (hm20.at 1 rfl) ?_
    simp only [nz1, nz2, nz3]
    refine skx 13 27 rfl rfl rfl (hm20.at 1 rfl) ?_
    simp only [nz1, nz2, nz3]
    refine skx 14 28 rfl rfl rfl (hm20.at 1 rfl) ?_
    simp only [nz1, nz2, nz3]
    refine skx 15 29 rfl rfl rfl (hm20.at 1 rfl) ?_
    simp only [nz1, nz2, nz3]
    refine skx 16 30 rfl rfl rfl (hm20.at 1 rfl) ?_
    simp only [nz1, nz2, nz3]
    refine tk 17 31 (.bool true) rfl rfl (fun _ hw => run_pick rfl rfl rfl) (hm20.at 1 rfl) ?_
    simp only [nz1, nz2, nz3]
    refine tk 18 32 (.bool true) rfl rfl (fun _ hw => run_mv rfl rfl) (hm20.at 1 rfl) ?_
    simp only [nz1, nz2, nz3]
    refine skx 19 33 rfl rfl rfl (hm20.at 1 rfl) ?_
    simp only [nz1, nz2, nz3]
    refine skx 20 34 rfl rfl rfl (hm20.at 1 rfl) ?_
    simp only [nz1, nz2, nz3]
    refine skx 21 35 rfl rfl rfl (hm20.at 1 rfl) ?_
    simp only [nz1, nz2, nz3]
    refine skx 22 36 rfl rfl rfl (hm20.at 1 rfl) ?_
    simp only [nz1, nz2, nz3]
    refine skx 23 37 rfl rfl rfl (hm20.at 1 rfl) ?_
    simp only [nz1, nz2, nz3]
    refine tk 24 38 (.bool true) rfl rfl (fun _ hw => run_pick rfl rfl rfl) (hm20.at 1 rfl) ?_
    simp only [nz1, nz2, nz3]
    refine tk 25 39 (.bool true) rfl rfl (fun _ hw => run_mv rfl rfl) (hm20.at 1 rfl) ?_
    simp only [nz1, nz2, nz3]
    refine skx 26 40 rfl rfl rfl (hm20.at 1 rfl) ?_
    simp only [nz1, nz2, nz3]
    refine skx 27 41 rfl rfl rfl (hm20.at 1 rfl) ?_
    simp only [nz1, nz2, nz3]
    refine skx 28 42 rfl rfl rfl (hm20.at 1 rfl) ?_
    simp only [nz1, nz2, nz3]
    refine skx 29 43 rfl rfl rfl (hm20.at 1 rfl) ?_
    simp only [nz1, nz2, nz3]
    refine skx 30 44 rfl rfl rfl (hm20.at 1 rfl) ?_
    simp only [nz1, nz2, nz3]
    refine skx 31 45 rfl rfl rfl (hm20.at 1 rfl) ?_
    simp only [nz1, nz2, nz3]
    refine skx 32 46 rfl rfl rfl (hm20.at 1 rfl) ?_
    simp only [nz1, nz2, nz3]
    refine skx 33 47 rfl rfl rfl (hm20.at 1 rfl) ?_
    simp only [nz1, nz2, nz3]
    refine skx 34 48 rfl rfl rfl (hm20.at 1 rfl) ?_
    simp only [nz1, nz2, nz3]
    refine tk 35 49 (.bool true) rfl rfl (fun _ hw => run_pick rfl rfl rfl) (hm20.at 1 rfl) ?_
    simp only [nz1, nz2, nz3]
    refine wpAnyH_done (by kernel_rfl) ?_ _
    refine then_n (hK16 _ _ ?_)
    refine cond_t rfl ?_
    refine wp_seq_k (fun K22 hK22 => ?_)
    refine wp_region_lit ?_
    refine lvw 6 (.bool false) rfl rfl (run_as rfl rfl) ?_
    simp only [nz1, nz2, nz3]
    refine wpList_nil ?_
    refine then_n (hK22 _ _ ?_)
    refine wp_ret ?_
    refine then_r ?_
    have he23 : ltells_m l r but = false := (show ltells_m l r but = false from by unfold ltells_m; rw [if_neg hc10, if_pos hs21] <;> rfl)
    exact ⟨rfl, .bool false, res_t rfl rfl, ⟨by (rw [he23]; try rfl), hm20.below⟩⟩
  simp only [nz1, nz2, nz3]
  refine tk 2 16 (.bool false) rfl rfl (fun _ hw => run_mv rfl rfl) (hm20.at 1 rfl) ?_
  simp only [nz1, nz2, nz3]
  refine Sym.take_at 3 17 (lv0) rfl rfl (by kernel_rfl) (by kernel_rfl) (by kernel_rfl) (fun _ _ _ h => h) rfl (fun _ hw => run_mv rfl rfl) (hm20.at 1 rfl) ?_
  simp only [nz1, nz2, nz3]
  refine Sym.take_at 5 19 (lv0) rfl rfl (by kernel_rfl) (by kernel_rfl) (by kernel_rfl) (fun _ _ _ h => h) rfl (fun _ hw => run_mv rfl rfl) (hm20.at 1 rfl) ?_
  simp only [nz1, nz2, nz3]
  refine one_ready 4 (by kernel_rfl) ?_
  refine opd rfl rfl (m_callx hm20 18 rfl (run_lacks rfl rfl) (lacks_any l lv0 lv1 _ (hm20.see 0 rfl) (by first | omega | assumption | ((repeat' (first | assumption | exact okl_nil | apply okl_app | apply okl_drop | apply okl_take | apply okl_cons | exact (okl_at (by assumption) _).1 | exact (okl_at (by assumption) _).2 | (simp; done) | (simp; omega) | decide)); done) | (simp; done) | (simp; omega) | (simp only [List.length_append, List.length_cons, List.length_nil]; omega) | (simp only [List.length_append, List.length_cons, List.length_nil] at *; omega) | decide) (by first | omega | assumption | ((repeat' (first | assumption | exact okl_nil | apply okl_app | apply okl_drop | apply okl_take | apply okl_cons | exact (okl_at (by assumption) _).1 | exact (okl_at (by assumption) _).2 | (simp; done) | (simp; omega) | decide)); done) | (simp; done) | (simp; omega) | (simp only [List.length_append, List.length_cons, List.length_nil]; omega) | (simp only [List.length_append, List.length_cons, List.length_nil] at *; omega) | decide)) (fun v26 w24 hR28 hb29 hm25 => ?_))
  obtain ⟨_, rfl, ho31⟩ := hR28
  have hm30 : Mm none (fun _ => True) w w24 [.see (Rn nMf 5 MfN l lv1 lv0) Fl, .blk g4 #[.string (tx r.name), .int .i64 (r.op), .string (tx r.version)] 24, .row v26 (lacks_m l).length ((lacks_m l).flatMap eRul) 24 3] := hm20.gained hb29 ho31
  clear hm25
  have hf32 : (lacks_m l).length ≤ 671088700000 := lacks_few hp1 (by omega)
  refine ⟨hm30.at 1 rfl, ?_⟩
  simp only [nz1, nz2, nz3]
  refine one_ready 6 (by kernel_rfl) ?_
  refine opd rfl rfl (m_callx hm30 20 rfl (run_rlacks rfl rfl) (rlacks_any l lv0 lv1 _ (hm30.see 0 rfl) (by first | omega | assumption | ((repeat' (first | assumption | exact okl_nil | apply okl_app | apply okl_drop | apply okl_take | apply okl_cons | exact (okl_at (by assumption) _).1 | exact (okl_at (by assumption) _).2 | (simp; done) | (simp; omega) | decide)); done) | (simp; done) | (simp; omega) | (simp only [List.length_append, List.length_cons, List.length_nil]; omega) | (simp only [List.length_append, List.length_cons, List.length_nil] at *; omega) | decide) (by first | omega | assumption | ((repeat' (first | assumption | exact okl_nil | apply okl_app | apply okl_drop | apply okl_take | apply okl_cons | exact (okl_at (by assumption) _).1 | exact (okl_at (by assumption) _).2 | (simp; done) | (simp; omega) | decide)); done) | (simp; done) | (simp; omega) | (simp only [List.length_append, List.length_cons, List.length_nil]; omega) | (simp only [List.length_append, List.length_cons, List.length_nil] at *; omega) | decide)) (fun v35 w33 hR37 hb38 hm34 => ?_))
  obtain ⟨_, rfl, ho40⟩ := hR37
  have hm39 : Mm none (fun _ => True) w w33 [.see (Rn nMf 5 MfN l lv1 lv0) Fl, .blk g4 #[.string (tx r.name), .int .i64 (r.op), .string (tx r.version)] 24, .row v26 (lacks_m l).length ((lacks_m l).flatMap eRul) 24 3, .row v35 (rlacks_m l).length ((rlacks_m l).flatMap eRul) 24 3] := hm30.gained hb38 ho40
  clear hm34
  have hf41 : (rlacks_m l).length ≤ 671088700000 := rlacks_few hp1 (by omega)
  refine ⟨hm39.at 1 rfl, ?_⟩
  simp only [nz1, nz2, nz3]
  refine one_ready 7 (by kernel_rfl) ?_
  refine opd rfl rfl (m_call hm39 21 (.bool ((ssame_m (lacks_m l) (rlacks_m l)))) rfl (run_ssame rfl rfl rfl) (ssame_any (lacks_m l) (rlacks_m l) v26 v35 _ (Rs.row (hm39.row 2 rfl)) (Rs.row (hm39.row 3 rfl)) (by first | omega | assumption | ((repeat' (first | assumption | exact okl_nil | apply okl_app | apply okl_drop | apply okl_take | apply okl_cons | exact (okl_at (by assumption) _).1 | exact (okl_at (by assumption) _).2 | (simp; done) | (simp; omega) | decide)); done) | (simp; done) | (simp; omega) | (simp only [List.length_append, List.length_cons, List.length_nil]; omega) | (simp only [List.length_append, List.length_cons, List.length_nil] at *; omega) | decide)) (fun w42 (hm43 : Mm none (fun _ => True) w w42 [.see (Rn nMf 5 MfN l lv1 lv0) Fl, .blk g4 #[.string (tx r.name), .int .i64 (r.op), .string (tx r.version)] 24, .row v26 (lacks_m l).length ((lacks_m l).flatMap eRul) 24 3, .row v35 (rlacks_m l).length ((rlacks_m l).flatMap eRul) 24 3]) => ?_))
  refine ⟨hm43.at 1 rfl, ?_⟩
  simp only [nz1, nz2, nz3]
  refine tkb 8 22 ((!(ssame_m (lacks_m l) (rlacks_m l))) = true) rfl rfl rfl (fun _ hw => (by rw [show decide ((!(ssame_m (lacks_m l) (rlacks_m l))) = true) = (!(ssame_m (lacks_m l) (rlacks_m l))) from Bool.decide_eq_true]; exact r_not (ssame_m (lacks_m l) (rlacks_m l)) rfl rfl)) (hm43.at 1 rfl) (fun hs44 => ?_) (fun hs44 => ?_)
  · simp only [nz1, nz2, nz3]
    refine tk 9 23 (.bool true) rfl rfl (fun _ hw => run_pickf rfl rfl rfl) (hm43.at 1 rfl) ?_
    simp only [nz1, nz2, nz3]
    refine tk 10 24 (.bool true) rfl rfl (fun _ hw => run_mv rfl rfl) (hm43.at 1 rfl) ?_
    simp only [nz1, nz2, nz3]
    refine skx 11 25 rfl rfl rfl (hm43.at 1 rfl) ?_
    simp only [nz1, nz2, nz3]
    refine skx 12 26 rfl rfl rfl (hm43.at 1 rfl) ?_
    simp only [nz1, nz2, nz3]
    refine skx 13 27 rfl rfl rfl (hm43.at 1 rfl) ?_
    simp only [nz1, nz2, nz3]
    refine skx 14 28 rfl rfl rfl (hm43.at 1 rfl) ?_
    simp only [nz1, nz2, nz3]
    refine skx 15 29 rfl rfl rfl (hm43.at 1 rfl) ?_
    simp only [nz1, nz2, nz3]
    refine skx 16 30 rfl rfl rfl (hm43.at 1 rfl) ?_
    simp only [nz1, nz2, nz3]
    refine tk 17 31 (.bool true) rfl rfl (fun _ hw => run_pick rfl rfl rfl) (hm43.at 1 rfl) ?_
    simp only [nz1, nz2, nz3]
    refine tk 18 32 (.bool true) rfl rfl (fun _ hw => run_mv rfl rfl) (hm43.at 1 rfl) ?_
    simp only [nz1, nz2, nz3]
    refine skx 19 33 rfl rfl rfl (hm43.at 1 rfl) ?_
    simp only [nz1, nz2, nz3]
    refine skx 20 34 rfl rfl rfl (hm43.at 1 rfl) ?_
    simp only [nz1, nz2, nz3]
    refine skx 21 35 rfl rfl rfl (hm43.at 1 rfl) ?_
    simp only [nz1, nz2, nz3]
    refine skx 22 36 rfl rfl rfl (hm43.at 1 rfl) ?_
    simp only [nz1, nz2, nz3]
    refine skx 23 37 rfl rfl rfl (hm43.at 1 rfl) ?_
    simp only [nz1, nz2, nz3]
    refine tk 24 38 (.bool true) rfl rfl (fun _ hw => run_pick rfl rfl rfl) (hm43.at 1 rfl) ?_
    simp only [nz1, nz2, nz3]
    refine tk 25 39 (.bool true) rfl rfl (fun _ hw => run_mv rfl rfl) (hm43.at 1 rfl) ?_
    simp only [nz1, nz2, nz3]
    refine skx 26 40 rfl rfl rfl (hm43.at 1 rfl) ?_
    simp only [nz1, nz2, nz3]
    refine skx 27 41 rfl rfl rfl (hm43.at 1 rfl) ?_
    simp only [nz1, nz2, nz3]
    refine skx 28 42 rfl rfl rfl (hm43.at 1 rfl) ?_
    simp only [nz1, nz2, nz3]
    refine skx 29 43 rfl rfl rfl (hm43.at 1 rfl) ?_
    simp only [nz1, nz2, nz3]
    refine skx 30 44 rfl rfl rfl (hm43.at 1 rfl) ?_
    simp only [nz1, nz2, nz3]
    refine skx 31 45 rfl rfl rfl (hm43.at 1 rfl) ?_
    simp only [nz1, nz2, nz3]
    refine skx 32 46 rfl rfl rfl (hm43.at 1 rfl) ?_
    simp only [nz1, nz2, nz3]
    refine skx 33 47 rfl rfl rfl (hm43.at 1 rfl) ?_
    simp only [nz1, nz2, nz3]
    refine skx 34 48 rfl rfl rfl (hm43.at 1 rfl) ?_
    simp only [nz1, nz2, nz3]
    refine tk 35 49 (.bool true) rfl rfl (fun _ hw => run_pick rfl rfl rfl) (hm43.at 1 rfl) ?_
    simp only [nz1, nz2, nz3]
    refine wpAnyH_done (by kernel_rfl) ?_ _
    refine then_n (hK16 _ _ ?_)
    refine cond_t rfl ?_
    refine wp_seq_k (fun K45 hK45 => ?_)
    refine wp_region_lit ?_
    refine lvw 6 (.bool false) rfl rfl (run_as rfl rfl) ?_
    simp only [nz1, nz2, nz3]
    refine wpList_nil ?_
    refine then_n (hK45 _ _ ?_)
    refine wp_ret ?_
    refine then_r ?_
    have he46 : ltells_m l r but = false := (show ltells_m l r but = false from by unfold ltells_m; rw [if_neg hc10, if_neg hs21, if_pos hs44] <;> rfl)
    exact ⟨rfl, .bool false, res_t rfl rfl, ⟨by (rw [he46]; try rfl), hm43.below⟩⟩
  simp only [nz1, nz2, nz3]
  refine tk 9 23 (.bool false) rfl rfl (fun _ hw => run_pickf rfl rfl rfl) (hm43.at 1 rfl) ?_
  simp only [nz1, nz2, nz3]
  refine tk 10 24 (.bool false) rfl rfl (fun _ hw => run_mv rfl rfl) (hm43.at 1 rfl) ?_
  simp only [nz1, nz2, nz3]
  refine Sym.take_at 11 25 (lv0) rfl rfl (by kernel_rfl) (by kernel_rfl) (by kernel_rfl) (fun _ _ _ h => h) rfl (fun _ hw => run_mv rfl rfl) (hm43.at 1 rfl) ?_
  simp only [nz1, nz2, nz3]
  refine Sym.take_at 13 27 (lv0) rfl rfl (by kernel_rfl) (by kernel_rfl) (by kernel_rfl) (fun _ _ _ h => h) rfl (fun _ hw => run_mv rfl rfl) (hm43.at 1 rfl) ?_
  simp only [nz1, nz2, nz3]
  refine one_ready 12 (by kernel_rfl) ?_
  refine opd rfl rfl (m_callx hm43 26 rfl (run_clashes rfl rfl) (clashes_any l lv0 lv1 _ (hm43.see 0 rfl) (by first | omega | assumption | ((repeat' (first | assumption | exact okl_nil | apply okl_app | apply okl_drop | apply okl_take | apply okl_cons | exact (okl_at (by assumption) _).1 | exact (okl_at (by assumption) _).2 | (simp; done) | (simp; omega) | decide)); done) | (simp; done) | (simp; omega) | (simp only [List.length_append, List.length_cons, List.length_nil]; omega) | (simp only [List.length_append, List.length_cons, List.length_nil] at *; omega) | decide) (by first | omega | assumption | ((repeat' (first | assumption | exact okl_nil | apply okl_app | apply okl_drop | apply okl_take | apply okl_cons | exact (okl_at (by assumption) _).1 | exact (okl_at (by assumption) _).2 | (simp; done) | (simp; omega) | decide)); done) | (simp; done) | (simp; omega) | (simp only [List.length_append, List.length_cons, List.length_nil]; omega) | (simp only [List.length_append, List.length_cons, List.length_nil] at *; omega) | decide)) (fun v49 w47 hR51 hb52 hm48 => ?_))
  obtain ⟨_, rfl, ho54⟩ := hR51
  have hm53 : Mm none (fun _ => True) w w47 [.see (Rn nMf 5 MfN l lv1 lv0) Fl, .blk g4 #[.string (tx r.name), .int .i64 (r.op), .string (tx r.version)] 24, .row v26 (lacks_m l).length ((lacks_m l).flatMap eRul) 24 3, .row v35 (rlacks_m l).length ((rlacks_m l).flatMap eRul) 24 3, .row v49 (clashes_m l).length ((clashes_m l).flatMap eRul) 24 3] := hm43.gained hb52 ho54
  clear hm48
  have hf55 : (clashes_m l).length ≤ 671088700000 := clashes_few hp1 (by omega)
  refine ⟨hm53.at 1 rfl, ?_⟩
  simp only [nz1, nz2, nz3]
  refine one_ready 14 (by kernel_rfl) ?_
  refine opd rfl rfl (m_callx hm53 28 rfl (run_rclashes rfl rfl) (rclashes_any l lv0 lv1 _ (hm53.see 0 rfl) (by first | omega | assumption | ((repeat' (first | assumption | exact okl_nil | apply okl_app | apply okl_drop | apply okl_take | apply okl_cons | exact (okl_at (by assumption) _).1 | exact (okl_at (by assumption) _).2 | (simp; done) | (simp; omega) | decide)); done) | (simp; done) | (simp; omega) | (simp only [List.length_append, List.length_cons, List.length_nil]; omega) | (simp only [List.length_append, List.length_cons, List.length_nil] at *; omega) | decide) (by first | omega | assumption | ((repeat' (first | assumption | exact okl_nil | apply okl_app | apply okl_drop | apply okl_take | apply okl_cons | exact (okl_at (by assumption) _).1 | exact (okl_at (by assumption) _).2 | (simp; done) | (simp; omega) | decide)); done) | (simp; done) | (simp; omega) | (simp only [List.length_append, List.length_cons, List.length_nil]; omega) | (simp only [List.length_append, List.length_cons, List.length_nil] at *; omega) | decide)) (fun v58 w56 hR60 hb61 hm57 => ?_))
  obtain ⟨_, rfl, ho63⟩ := hR60
  have hm62 : Mm none (fun _ => True) w w56 [.see (Rn nMf 5 MfN l lv1 lv0) Fl, .blk g4 #[.string (tx r.name), .int .i64 (r.op), .string (tx r.version)] 24, .row v26 (lacks_m l).length ((lacks_m l).flatMap eRul) 24 3, .row v35 (rlacks_m l).length ((rlacks_m l).flatMap eRul) 24 3, .row v49 (clashes_m l).length ((clashes_m l).flatMap eRul) 24 3, .row v58 (rclashes_m l).length ((rclashes_m l).flatMap eRul) 24 3] := hm53.gained hb61 ho63
  clear hm57
  have hf64 : (rclashes_m l).length ≤ 671088700000 := rclashes_few hp1 (by omega)
  refine ⟨hm62.at 1 rfl, ?_⟩
  simp only [nz1, nz2, nz3]
  refine one_ready 15 (by kernel_rfl) ?_
  refine opd rfl rfl (m_call hm62 29 (.bool ((ssame_m (clashes_m l) (rclashes_m l)))) rfl (run_ssame rfl rfl rfl) (ssame_any (clashes_m l) (rclashes_m l) v49 v58 _ (Rs.row (hm62.row 4 rfl)) (Rs.row (hm62.row 5 rfl)) (by first | omega | assumption | ((repeat' (first | assumption | exact okl_nil | apply okl_app | apply okl_drop | apply okl_take | apply okl_cons | exact (okl_at (by assumption) _).1 | exact (okl_at (by assumption) _).2 | (simp; done) | (simp; omega) | decide)); done) | (simp; done) | (simp; omega) | (simp only [List.length_append, List.length_cons, List.length_nil]; omega) | (simp only [List.length_append, List.length_cons, List.length_nil] at *; omega) | decide)) (fun w65 (hm66 : Mm none (fun _ => True) w w65 [.see (Rn nMf 5 MfN l lv1 lv0) Fl, .blk g4 #[.string (tx r.name), .int .i64 (r.op), .string (tx r.version)] 24, .row v26 (lacks_m l).length ((lacks_m l).flatMap eRul) 24 3, .row v35 (rlacks_m l).length ((rlacks_m l).flatMap eRul) 24 3, .row v49 (clashes_m l).length ((clashes_m l).flatMap eRul) 24 3, .row v58 (rclashes_m l).length ((rclashes_m l).flatMap eRul) 24 3]) => ?_))
  refine ⟨hm66.at 1 rfl, ?_⟩
  simp only [nz1, nz2, nz3]
  refine tkb 16 30 ((!(ssame_m (clashes_m l) (rclashes_m l))) = true) rfl rfl rfl (fun _ hw => (by rw [show decide ((!(ssame_m (clashes_m l) (rclashes_m l))) = true) = (!(ssame_m (clashes_m l) (rclashes_m l))) from Bool.decide_eq_true]; exact r_not (ssame_m (clashes_m l) (rclashes_m l)) rfl rfl)) (hm66.at 1 rfl) (fun hs67 => ?_) (fun hs67 => ?_)
  · simp only [nz1, nz2, nz3]
    refine tk 17 31 (.bool true) rfl rfl (fun _ hw => run_pickf rfl rfl rfl) (hm66.at 1 rfl) ?_
    simp only [nz1, nz2, nz3]
    refine tk 18 32 (.bool true) rfl rfl (fun _ hw => run_mv rfl rfl) (hm66.at 1 rfl) ?_
    simp only [nz1, nz2, nz3]
    refine skx 19 33 rfl rfl rfl (hm66.at 1 rfl) ?_
    simp only [nz1, nz2, nz3]
    refine skx 20 34 rfl rfl rfl (hm66.at 1 rfl) ?_
    simp only [nz1, nz2, nz3]
    refine skx 21 35 rfl rfl rfl (hm66.at 1 rfl) ?_
    simp only [nz1, nz2, nz3]
    refine skx 22 36 rfl rfl rfl (hm66.at 1 rfl) ?_
    simp only [nz1, nz2, nz3]
    refine skx 23 37 rfl rfl rfl (hm66.at 1 rfl) ?_
    simp only [nz1, nz2, nz3]
    refine tk 24 38 (.bool true) rfl rfl (fun _ hw => run_pick rfl rfl rfl) (hm66.at 1 rfl) ?_
    simp only [nz1, nz2, nz3]
    refine tk 25 39 (.bool true) rfl rfl (fun _ hw => run_mv rfl rfl) (hm66.at 1 rfl) ?_
    simp only [nz1, nz2, nz3]
    refine skx 26 40 rfl rfl rfl (hm66.at 1 rfl) ?_
    simp only [nz1, nz2, nz3]
    refine skx 27 41 rfl rfl rfl (hm66.at 1 rfl) ?_
    simp only [nz1, nz2, nz3]
    refine skx 28 42 rfl rfl rfl (hm66.at 1 rfl) ?_
    simp only [nz1, nz2, nz3]
    refine skx 29 43 rfl rfl rfl (hm66.at 1 rfl) ?_
    simp only [nz1, nz2, nz3]
    refine skx 30 44 rfl rfl rfl (hm66.at 1 rfl) ?_
    simp only [nz1, nz2, nz3]
    refine skx 31 45 rfl rfl rfl (hm66.at 1 rfl) ?_
    simp only [nz1, nz2, nz3]
    refine skx 32 46 rfl rfl rfl (hm66.at 1 rfl) ?_
    simp only [nz1, nz2, nz3]
    refine skx 33 47 rfl rfl rfl (hm66.at 1 rfl) ?_
    simp only [nz1, nz2, nz3]
    refine skx 34 48 rfl rfl rfl (hm66.at 1 rfl) ?_
    simp only [nz1, nz2, nz3]
    refine tk 35 49 (.bool true) rfl rfl (fun _ hw => run_pick rfl rfl rfl) (hm66.at 1 rfl) ?_
    simp only [nz1, nz2, nz3]
    refine wpAnyH_done (by kernel_rfl) ?_ _
    refine then_n (hK16 _ _ ?_)
    refine cond_t rfl ?_
    refine wp_seq_k (fun K68 hK68 => ?_)
    refine wp_region_lit ?_
    refine lvw 6 (.bool false) rfl rfl (run_as rfl rfl) ?_
    simp only [nz1, nz2, nz3]
    refine wpList_nil ?_
    refine then_n (hK68 _ _ ?_)
    refine wp_ret ?_
    refine then_r ?_
    have he69 : ltells_m l r but = false := (show ltells_m l r but = false from by unfold ltells_m; rw [if_neg hc10, if_neg hs21, if_neg hs44, if_pos hs67] <;> rfl)
    exact ⟨rfl, .bool false, res_t rfl rfl, ⟨by (rw [he69]; try rfl), hm66.below⟩⟩
  simp only [nz1, nz2, nz3]
  refine tk 17 31 (.bool false) rfl rfl (fun _ hw => run_pickf rfl rfl rfl) (hm66.at 1 rfl) ?_
  simp only [nz1, nz2, nz3]
  refine tk 18 32 (.bool false) rfl rfl (fun _ hw => run_mv rfl rfl) (hm66.at 1 rfl) ?_
  simp only [nz1, nz2, nz3]
  refine Sym.take_at 19 33 (lv0) rfl rfl (by kernel_rfl) (by kernel_rfl) (by kernel_rfl) (fun _ _ _ h => h) rfl (fun _ hw => run_mv rfl rfl) (hm66.at 1 rfl) ?_
  simp only [nz1, nz2, nz3]
  refine Sym.take_at 21 35 (lv0) rfl rfl (by kernel_rfl) (by kernel_rfl) (by kernel_rfl) (fun _ _ _ h => h) rfl (fun _ hw => run_mv rfl rfl) (hm66.at 1 rfl) ?_
  simp only [nz1, nz2, nz3]
  refine one_ready 20 (by kernel_rfl) ?_
  refine opd rfl rfl (m_call hm66 34 (.int .i64 ((solve_m l))) rfl (run_solve rfl rfl) (solve_any l lv0 lv1 _ (hm66.see 0 rfl) (by first | omega | assumption | ((repeat' (first | assumption | exact okl_nil | apply okl_app | apply okl_drop | apply okl_take | apply okl_cons | exact (okl_at (by assumption) _).1 | exact (okl_at (by assumption) _).2 | (simp; done) | (simp; omega) | decide)); done) | (simp; done) | (simp; omega) | (simp only [List.length_append, List.length_cons, List.length_nil]; omega) | (simp only [List.length_append, List.length_cons, List.length_nil] at *; omega) | decide) (by first | omega | assumption | ((repeat' (first | assumption | exact okl_nil | apply okl_app | apply okl_drop | apply okl_take | apply okl_cons | exact (okl_at (by assumption) _).1 | exact (okl_at (by assumption) _).2 | (simp; done) | (simp; omega) | decide)); done) | (simp; done) | (simp; omega) | (simp only [List.length_append, List.length_cons, List.length_nil]; omega) | (simp only [List.length_append, List.length_cons, List.length_nil] at *; omega) | decide)) (fun w70 (hm71 : Mm none (fun _ => True) w w70 [.see (Rn nMf 5 MfN l lv1 lv0) Fl, .blk g4 #[.string (tx r.name), .int .i64 (r.op), .string (tx r.version)] 24, .row v26 (lacks_m l).length ((lacks_m l).flatMap eRul) 24 3, .row v35 (rlacks_m l).length ((rlacks_m l).flatMap eRul) 24 3, .row v49 (clashes_m l).length ((clashes_m l).flatMap eRul) 24 3, .row v58 (rclashes_m l).length ((rclashes_m l).flatMap eRul) 24 3]) => ?_))
  refine ⟨hm71.at 1 rfl, ?_⟩
  simp only [nz1, nz2, nz3]
  refine one_ready 22 (by kernel_rfl) ?_
  refine opd rfl rfl (m_call hm71 36 (.int .i64 ((rsolve_m l))) rfl (run_rsolve rfl rfl) (rsolve_any l lv0 lv1 _ (hm71.see 0 rfl) (by first | omega | assumption | ((repeat' (first | assumption | exact okl_nil | apply okl_app | apply okl_drop | apply okl_take | apply okl_cons | exact (okl_at (by assumption) _).1 | exact (okl_at (by assumption) _).2 | (simp; done) | (simp; omega) | decide)); done) | (simp; done) | (simp; omega) | (simp only [List.length_append, List.length_cons, List.length_nil]; omega) | (simp only [List.length_append, List.length_cons, List.length_nil] at *; omega) | decide) (by first | omega | assumption | ((repeat' (first | assumption | exact okl_nil | apply okl_app | apply okl_drop | apply okl_take | apply okl_cons | exact (okl_at (by assumption) _).1 | exact (okl_at (by assumption) _).2 | (simp; done) | (simp; omega) | decide)); done) | (simp; done) | (simp; omega) | (simp only [List.length_append, List.length_cons, List.length_nil]; omega) | (simp only [List.length_append, List.length_cons, List.length_nil] at *; omega) | decide)) (fun w72 (hm73 : Mm none (fun _ => True) w w72 [.see (Rn nMf 5 MfN l lv1 lv0) Fl, .blk g4 #[.string (tx r.name), .int .i64 (r.op), .string (tx r.version)] 24, .row v26 (lacks_m l).length ((lacks_m l).flatMap eRul) 24 3, .row v35 (rlacks_m l).length ((rlacks_m l).flatMap eRul) 24 3, .row v49 (clashes_m l).length ((clashes_m l).flatMap eRul) 24 3, .row v58 (rclashes_m l).length ((rclashes_m l).flatMap eRul) 24 3]) => ?_))
  refine ⟨hm73.at 1 rfl, ?_⟩
  simp only [nz1, nz2, nz3]
  refine tkb 23 37 (¬ (solve_m l) = (rsolve_m l)) rfl rfl rfl (fun _ hw => z_neq (solve_m l) (rsolve_m l) rfl rfl rfl) (hm73.at 1 rfl) (fun hs74 => ?_) (fun hs74 => ?_)
  · simp only [nz1, nz2, nz3]
    refine tk 24 38 (.bool true) rfl rfl (fun _ hw => run_pickf rfl rfl rfl) (hm73.at 1 rfl) ?_
    simp only [nz1, nz2, nz3]
    refine tk 25 39 (.bool true) rfl rfl (fun _ hw => run_mv rfl rfl) (hm73.at 1 rfl) ?_
    simp only [nz1, nz2, nz3]
    refine skx 26 40 rfl rfl rfl (hm73.at 1 rfl) ?_
    simp only [nz1, nz2, nz3]
    refine skx 27 41 rfl rfl rfl (hm73.at 1 rfl) ?_
    simp only [nz1, nz2, nz3]
    refine skx 28 42 rfl rfl rfl (hm73.at 1 rfl) ?_
    simp only [nz1, nz2, nz3]
    refine skx 29 43 rfl rfl rfl (hm73.at 1 rfl) ?_
    simp only [nz1, nz2, nz3]
    refine skx 30 44 rfl rfl rfl (hm73.at 1 rfl) ?_
    simp only [nz1, nz2, nz3]
    refine skx 31 45 rfl rfl rfl (hm73.at 1 rfl) ?_
    simp only [nz1, nz2, nz3]
    refine skx 32 46 rfl rfl rfl (hm73.at 1 rfl) ?_
    simp only [nz1, nz2, nz3]
    refine skx 33 47 rfl rfl rfl (hm73.at 1 rfl) ?_
    simp only [nz1, nz2, nz3]
    refine skx 34 48 rfl rfl rfl (hm73.at 1 rfl) ?_
    simp only [nz1, nz2, nz3]
    refine tk 35 49 (.bool true) rfl rfl (fun _ hw => run_pick rfl rfl rfl) (hm73.at 1 rfl) ?_
    simp only [nz1, nz2, nz3]
    refine wpAnyH_done (by kernel_rfl) ?_ _
    refine then_n (hK16 _ _ ?_)
    refine cond_t rfl ?_
    refine wp_seq_k (fun K75 hK75 => ?_)
    refine wp_region_lit ?_
    refine lvw 6 (.bool false) rfl rfl (run_as rfl rfl) ?_
    simp only [nz1, nz2, nz3]
    refine wpList_nil ?_
    refine then_n (hK75 _ _ ?_)
    refine wp_ret ?_
    refine then_r ?_
    have he76 : ltells_m l r but = false := (show ltells_m l r but = false from by unfold ltells_m; rw [if_neg hc10, if_neg hs21, if_neg hs44, if_neg hs67, if_pos hs74] <;> rfl)
    exact ⟨rfl, .bool false, res_t rfl rfl, ⟨by (rw [he76]; try rfl), hm73.below⟩⟩
  simp only [nz1, nz2, nz3]
  refine tk 24 38 (.bool false) rfl rfl (fun _ hw => run_pickf rfl rfl rfl) (hm73.at 1 rfl) ?_
  simp only [nz1, nz2, nz3]
  refine tk 25 39 (.bool false) rfl rfl (fun _ hw => run_mv rfl rfl) (hm73.at 1 rfl) ?_
  simp only [nz1, nz2, nz3]
  refine Sym.take_at 26 40 (lv0) rfl rfl (by kernel_rfl) (by kernel_rfl) (by kernel_rfl) (fun _ _ _ h => h) rfl (fun _ hw => run_mv rfl rfl) (hm73.at 1 rfl) ?_
  simp only [nz1, nz2, nz3]
  refine Sym.take_at 27 41 (.agg #[.string (tx r.name), .int .i64 (r.op), .string (tx r.version)]) rfl rfl (by kernel_rfl) (by kernel_rfl) (by kernel_rfl) (fun _ _ _ h => h) rfl (fun _ hw => r_whole hw Tryd.underlying24 rfl (by exact sz_24) rfl rfl) (hm73.at 1 rfl) ?_
  simp only [nz1, nz2, nz3]
  refine Sym.take_at 28 42 (.string (tx but)) rfl rfl (by kernel_rfl) (by kernel_rfl) (by kernel_rfl) (fun _ _ _ h => h) rfl (fun _ hw => run_mv rfl rfl) (hm73.at 1 rfl) ?_
  simp only [nz1, nz2, nz3]
  refine Sym.take_at 30 44 (lv0) rfl rfl (by kernel_rfl) (by kernel_rfl) (by kernel_rfl) (fun _ _ _ h => h) rfl (fun _ hw => run_mv rfl rfl) (hm73.at 1 rfl) ?_
  simp only [nz1, nz2, nz3]
  refine Sym.take_at 31 45 (.agg #[.string (tx r.name), .int .i64 (r.op), .string (tx r.version)]) rfl rfl (by kernel_rfl) (by kernel_rfl) (by kernel_rfl) (fun _ _ _ h => h) rfl (fun _ hw => r_whole hw Tryd.underlying24 rfl (by exact sz_24) rfl rfl) (hm73.at 1 rfl) ?_
  simp only [nz1, nz2, nz3]
  refine Sym.take_at 32 46 (.string (tx but)) rfl rfl (by kernel_rfl) (by kernel_rfl) (by kernel_rfl) (fun _ _ _ h => h) rfl (fun _ hw => run_mv rfl rfl) (hm73.at 1 rfl) ?_
  simp only [nz1, nz2, nz3]
  refine one_ready 29 (by kernel_rfl) ?_
  refine opd rfl rfl (m_call hm73 43 (.bool ((meets_m l r but))) rfl (run_meets rfl rfl rfl rfl) (meets_any l r but lv0 lv1 _ (hm73.see 0 rfl) (by first | omega | assumption | ((repeat' (first | assumption | exact okl_nil | apply okl_app | apply okl_drop | apply okl_take | apply okl_cons | exact (okl_at (by assumption) _).1 | exact (okl_at (by assumption) _).2 | (simp; done) | (simp; omega) | decide)); done) | (simp; done) | (simp; omega) | (simp only [List.length_append, List.length_cons, List.length_nil]; omega) | (simp only [List.length_append, List.length_cons, List.length_nil] at *; omega) | decide)) (fun w77 (hm78 : Mm none (fun _ => True) w w77 [.see (Rn nMf 5 MfN l lv1 lv0) Fl, .blk g4 #[.string (tx r.name), .int .i64 (r.op), .string (tx r.version)] 24, .row v26 (lacks_m l).length ((lacks_m l).flatMap eRul) 24 3, .row v35 (rlacks_m l).length ((rlacks_m l).flatMap eRul) 24 3, .row v49 (clashes_m l).length ((clashes_m l).flatMap eRul) 24 3, .row v58 (rclashes_m l).length ((rclashes_m l).flatMap eRul) 24 3]) => ?_))
  refine ⟨hm78.at 1 rfl, ?_⟩
  simp only [nz1, nz2, nz3]
  refine one_ready 33 (by kernel_rfl) ?_
  refine opd rfl rfl (m_call hm78 47 (.bool ((rmeets_m l r but))) rfl (run_rmeets rfl rfl rfl rfl) (rmeets_any l r but lv0 lv1 _ (hm78.see 0 rfl) (by first | omega | assumption | ((repeat' (first | assumption | exact okl_nil | apply okl_app | apply okl_drop | apply okl_take | apply okl_cons | exact (okl_at (by assumption) _).1 | exact (okl_at (by assumption) _).2 | (simp; done) | (simp; omega) | decide)); done) | (simp; done) | (simp; omega) | (simp only [List.length_append, List.length_cons, List.length_nil]; omega) | (simp only [List.length_append, List.length_cons, List.length_nil] at *; omega) | decide)) (fun w79 (hm80 : Mm none (fun _ => True) w w79 [.see (Rn nMf 5 MfN l lv1 lv0) Fl, .blk g4 #[.string (tx r.name), .int .i64 (r.op), .string (tx r.version)] 24, .row v26 (lacks_m l).length ((lacks_m l).flatMap eRul) 24 3, .row v35 (rlacks_m l).length ((rlacks_m l).flatMap eRul) 24 3, .row v49 (clashes_m l).length ((clashes_m l).flatMap eRul) 24 3, .row v58 (rclashes_m l).length ((rclashes_m l).flatMap eRul) 24 3]) => ?_))
  refine ⟨hm80.at 1 rfl, ?_⟩
  simp only [nz1, nz2, nz3]
  refine Sym.take_at 34 48 (.bool ((meets_m l r but) != (rmeets_m l r but))) rfl rfl (by kernel_rfl) (by kernel_rfl) (by kernel_rfl) (fun _ _ _ h => h) rfl (fun _ hw => b_neq (meets_m l r but) (rmeets_m l r but) rfl rfl rfl) (hm80.at 1 rfl) ?_
  simp only [nz1, nz2, nz3]
  refine tk 35 49 (.bool ((meets_m l r but) != (rmeets_m l r but))) rfl rfl (fun _ hw => run_pickf rfl rfl rfl) (hm80.at 1 rfl) ?_
  simp only [nz1, nz2, nz3]
  refine wpAnyH_done (by kernel_rfl) ?_ _
  refine then_n (hK16 _ _ ?_)
  refine cond_B ((meets_m l r but) != (rmeets_m l r but)) rfl (fun hc81 => ?_) (fun hc81 => ?_)
  · refine wp_seq_k (fun K82 hK82 => ?_)
    refine wp_region_lit ?_
    refine lvw 6 (.bool false) rfl rfl (run_as rfl rfl) ?_
    simp only [nz1, nz2, nz3]
    refine wpList_nil ?_
    refine then_n (hK82 _ _ ?_)
    refine wp_ret ?_
    refine then_r ?_
    have he83 : ltells_m l r but = false := (show ltells_m l r but = false from by unfold ltells_m; rw [if_neg hc10, if_neg hs21, if_neg hs44, if_neg hs67, if_neg hs74, if_pos hc81] <;> rfl)
    exact ⟨rfl, .bool false, res_t rfl rfl, ⟨by (rw [he83]; try rfl), hm80.below⟩⟩
  refine wp_skip ?_
  refine then_n (hK15 _ _ ?_)
  refine wp_seq_k (fun K84 hK84 => ?_)
  refine wp_seq_k (fun K85 hK85 => ?_)
  refine wp_region_lit ?_
  refine lvw 7 (.int .i64 0) rfl rfl (run_as rfl rfl) ?_
  simp only [nz1, nz2, nz3]
  refine wpList_nil ?_
  refine then_n (hK85 _ _ ?_)
  refine wp_cutK (fun a' w' => ∃ (y90 : Nat) (yu0 : Nat → Value), ltells_m_l0 l r but ((l.length - 0) + 1) 0 = .inl y90 ∧ a' = ⟨#[lv0, .agg #[.string (tx r.name), .int .i64 (r.op), .string (tx r.version)], .string (tx but), undef, .pointer (some ⟨g4, 0, none⟩), undef, yu0 0, .int .i64 ((y90 : Nat) : Int), yu0 1, yu0 2, yu0 3, lv0, .bool (decide (500 < grn l)), undef, .bool (sawake_m), .bool false, .bool false, lv0, v26, lv0, v35, .bool ((ssame_m (lacks_m l) (rlacks_m l))), .bool false, .bool false, .bool false, lv0, v49, lv0, v58, .bool ((ssame_m (clashes_m l) (rclashes_m l))), .bool false, .bool false, .bool false, lv0, .int .i64 ((solve_m l)), lv0, .int .i64 ((rsolve_m l)), .bool false, .bool false, .bool false, lv0, .agg #[.string (tx r.name), .int .i64 (r.op), .string (tx r.version)], .string (tx but), .bool ((meets_m l r but)), lv0, .agg #[.string (tx r.name), .int .i64 (r.op), .string (tx r.version)], .string (tx but), .bool ((rmeets_m l r but)), .bool ((meets_m l r but) != (rmeets_m l r but)), .bool ((meets_m l r but) != (rmeets_m l r but)), yu0 4, yu0 5, yu0 6, yu0 7, yu0 8, yu0 9, yu0 10, yu0 11, yu0 12, yu0 13, yu0 14, yu0 15, yu0 16, yu0 17, yu0 18, yu0 19, yu0 20, yu0 21, yu0 22, yu0 23, yu0 24, yu0 25, yu0 26, yu0 27, yu0 28, yu0 29, yu0 30, yu0 31, yu0 32, yu0 33, yu0 34, yu0 35, yu0 36, yu0 37, yu0 38, yu0 39, yu0 40, yu0 41], []⟩ ∧ Mm none (fun _ => True) w w' [.see (Rn nMf 5 MfN l lv1 lv0) Fl, .blk g4 #[.string (tx r.name), .int .i64 (r.op), .string (tx r.version)] 24, .row v26 (lacks_m l).length ((lacks_m l).flatMap eRul) 24 3, .row v35 (rlacks_m l).length ((rlacks_m l).flatMap eRul) 24 3, .row v49 (clashes_m l).length ((clashes_m l).flatMap eRul) 24 3, .row v58 (rclashes_m l).length ((rclashes_m l).flatMap eRul) 24 3]) ?_ ?_
  · refine wp_block ?_
    refine wp_loop_n (fun n' a' w' => ∃ (n87 : Nat) (x86 : Nat) (u0 : Nat → Value), n' = n87 ∧ (l.length - x86) < n87 ∧ ltells_m_l0 l r but ((l.length - 0) + 1) 0 = ltells_m_l0 l r but n87 x86 ∧ a' = ⟨#[lv0, .agg #[.string (tx r.name), .int .i64 (r.op), .string (tx r.version)], .string (tx but), undef, .pointer (some ⟨g4, 0, none⟩), undef, u0 0, .int .i64 ((x86 : Nat) : Int), u0 1, u0 2, u0 3, lv0, .bool (decide (500 < grn l)), undef, .bool (sawake_m), .bool false, .bool false, lv0, v26, lv0, v35, .bool ((ssame_m (lacks_m l) (rlacks_m l))), .bool false, .bool false, .bool false, lv0, v49, lv0, v58, .bool ((ssame_m (clashes_m l) (rclashes_m l))), .bool false, .bool false, .bool false, lv0, .int .i64 ((solve_m l)), lv0, .int .i64 ((rsolve_m l)), .bool false, .bool false, .bool false, lv0, .agg #[.string (tx r.name), .int .i64 (r.op), .string (tx r.version)], .string (tx but), .bool ((meets_m l r but)), lv0, .agg #[.string (tx r.name), .int .i64 (r.op), .string (tx r.version)], .string (tx but), .bool ((rmeets_m l r but)), .bool ((meets_m l r but) != (rmeets_m l r but)), .bool ((meets_m l r but) != (rmeets_m l r but)), u0 4, u0 5, u0 6, u0 7, u0 8, u0 9, u0 10, u0 11, u0 12, u0 13, u0 14, u0 15, u0 16, u0 17, u0 18, u0 19, u0 20, u0 21, u0 22, u0 23, u0 24, u0 25, u0 26, u0 27, u0 28, u0 29, u0 30, u0 31, u0 32, u0 33, u0 34, u0 35, u0 36, u0 37, u0 38, u0 39, u0 40, u0 41], []⟩ ∧ Mm none (fun _ => True) w w' [.see (Rn nMf 5 MfN l lv1 lv0) Fl, .blk g4 #[.string (tx r.name), .int .i64 (r.op), .string (tx r.version)] 24, .row v26 (lacks_m l).length ((lacks_m l).flatMap eRul) 24 3, .row v35 (rlacks_m l).length ((rlacks_m l).flatMap eRul) 24 3, .row v49 (clashes_m l).length ((clashes_m l).flatMap eRul) 24 3, .row v58 (rclashes_m l).length ((rclashes_m l).flatMap eRul) 24 3]) ⟨((l.length - 0) + 1), 0, (fun qq => bif Nat.blt qq 24 then List.getD [.bool false, undef, undef, undef, undef, undef, undef, undef, undef, undef, undef, undef, undef, undef, undef, undef, undef, undef, undef, undef, undef, undef, undef, undef] qq undef else List.getD [undef, undef, undef, undef, undef, undef, undef, undef, undef, undef, undef, undef, undef, undef, undef, undef, undef, undef] (qq - 24) undef), rfl, Nat.lt_succ_self _, rfl, rfl, hm80⟩ ?_
    rintro n87 _ w92 ⟨_, x86, u0, rfl, hl96, hi89, rfl, hm93⟩ R94 hR94
    obtain ⟨k88, rfl⟩ : ∃ k, n87 = k + 1 := ⟨n87 - 1, by omega⟩
    refine wp_seq_k (fun K97 hK97 => ?_)
    refine wp_seq_k (fun K98 hK98 => ?_)
    refine wp_region_lit ?_
    refine lvw 50 (.int .i64 ((x86 : Nat) : Int)) rfl rfl (run_mv rfl rfl) ?_
    simp only [nz1, nz2, nz3]
    refine lvw 51 (lv0) rfl rfl (run_mv rfl rfl) ?_
    simp only [nz1, nz2, nz3]
    refine lvw 52 (.int .i64 ((l.length : Nat) : Int)) rfl rfl (s_len ((hm93.see 0 rfl)).rd rfl Tryd.underlying22 rfl) ?_
    simp only [nz1, nz2, nz3]
    refine lvw 53 (.bool (decide (x86 < l.length))) rfl rfl (r_lss x86 l.length rfl rfl rfl) ?_
    simp only [nz1, nz2, nz3]
    refine wpList_nil ?_
    refine then_n (hK98 _ _ ?_)
    refine cond_d (x86 < l.length) rfl (fun hc99 => ?_) (fun hc99 => ?_)
    rotate_left
    · refine wp_exit ?_
      refine then_x ?_
      refine then_x ?_
      refine blk_x ?_
      refine then_n ?_
      exact ⟨x86, (fun qq => bif Nat.blt qq 24 then List.getD [u0 0, u0 1, u0 2, u0 3, .int .i64 ((x86 : Nat) : Int), lv0, .int .i64 ((l.length : Nat) : Int), .bool (decide (x86 < l.length)), u0 8, u0 9, u0 10, u0 11, u0 12, u0 13, u0 14, u0 15, u0 16, u0 17, u0 18, u0 19, u0 20, u0 21, u0 22, u0 23] qq undef else List.getD [u0 24, u0 25, u0 26, u0 27, u0 28, u0 29, u0 30, u0 31, u0 32, u0 33, u0 34, u0 35, u0 36, u0 37, u0 38, u0 39, u0 40, u0 41] (qq - 24) undef), (hi89.trans (show ltells_m_b0 l r but (ltells_m_l0 l r but k88) x86 = .inl x86 from by unfold ltells_m_b0; rw [if_neg hc99] <;> rfl)), rfl, hm93⟩
    refine wp_skip ?_
    refine then_n (hK97 _ _ ?_)
    refine wp_seq_k (fun K100 hK100 => ?_)
    refine wp_block ?_
    refine wp_seq_k (fun K101 hK101 => ?_)
    have hm102 := hm93.drew
    refine wp_region_held_drew (S := fun w' => Rn nMf 5 MfN l lv1 lv0 w') (by kernel_rfl) (((hm102.see 0 rfl))) (fun _ => ?_)
    generalize w92.drew = w103 at *
    refine tk 0 56 (lv0) rfl rfl (fun _ hw => run_mv rfl rfl) ((hm102.see 0 rfl)) ?_
    simp only [nz1, nz2, nz3]
    refine tk 1 57 (lv0) rfl rfl (fun _ hw => run_mv rfl rfl) ((hm102.see 0 rfl)) ?_
    simp only [nz1, nz2, nz3]
    refine tk 2 58 (.int .i64 ((x86 : Nat) : Int)) rfl rfl (fun _ hw => run_mv rfl rfl) ((hm102.see 0 rfl)) ?_
    simp only [nz1, nz2, nz3]
    refine tk 3 59 (.pointer (some ⟨(bk lv0), (po lv0 + x86 * 5), none⟩)) rfl rfl (fun _ hw => r_ixv ((hm102.see 0 rfl)).rd x86 (by omega) Tryd.underlying22 sz_37 rfl rfl rfl) ((hm102.see 0 rfl)) ?_
    simp only [nz1, nz2, nz3]
    refine tk 4 60 (.agg #[.string (tx ((l.getD x86 dMf).name)), .string (tx ((l.getD x86 dMf).version)), (lv1.getD x86 ((Value.slice none 0 0), (Value.slice none 0 0), (Value.slice none 0 0))).1, (lv1.getD x86 ((Value.slice none 0 0), (Value.slice none 0 0), (Value.slice none 0 0))).2.1, (lv1.getD x86 ((Value.slice none 0 0), (Value.slice none 0 0), (Value.slice none 0 0))).2.2]) rfl rfl (fun _ hw => r_partw (fun j u hj => Rn.cell hw nMf_len dMf ((Value.slice none 0 0), (Value.slice none 0 0), (Value.slice none 0 0)) x86 (by omega) j u (arr_get hj)) Tryd.underlying37 rfl (by exact sz_37) rfl rfl) ((hm102.see 0 rfl)) ?_
    simp only [nz1, nz2, nz3]
    refine tk 6 62 (lv0) rfl rfl (fun _ hw => run_mv rfl rfl) ((hm102.see 0 rfl)) ?_
    simp only [nz1, nz2, nz3]
    refine tk 7 63 (lv0) rfl rfl (fun _ hw => run_mv rfl rfl) ((hm102.see 0 rfl)) ?_
    simp only [nz1, nz2, nz3]
    refine tk 8 64 (.int .i64 ((x86 : Nat) : Int)) rfl rfl (fun _ hw => run_mv rfl rfl) ((hm102.see 0 rfl)) ?_
    simp only [nz1, nz2, nz3]
    refine tk 9 65 (.pointer (some ⟨(bk lv0), (po lv0 + x86 * 5), none⟩)) rfl rfl (fun _ hw => r_ixv ((hm102.see 0 rfl)).rd x86 (by omega) Tryd.underlying22 sz_37 rfl rfl rfl) ((hm102.see 0 rfl)) ?_
    simp only [nz1, nz2, nz3]
    refine tk 10 66 (.agg #[.string (tx ((l.getD x86 dMf).name)), .string (tx ((l.getD x86 dMf).version)), (lv1.getD x86 ((Value.slice none 0 0), (Value.slice none 0 0), (Value.slice none 0 0))).1, (lv1.getD x86 ((Value.slice none 0 0), (Value.slice none 0 0), (Value.slice none 0 0))).2.1, (lv1.getD x86 ((Value.slice none 0 0), (Value.slice none 0 0), (Value.slice none 0 0))).2.2]) rfl rfl (fun _ hw => r_partw (fun j u hj => Rn.cell hw nMf_len dMf ((Value.slice none 0 0), (Value.slice none 0 0), (Value.slice none 0 0)) x86 (by omega) j u (arr_get hj)) Tryd.underlying37 rfl (by exact sz_37) rfl rfl) ((hm102.see 0 rfl)) ?_
    simp only [nz1, nz2, nz3]
    refine one_ready 5 (by kernel_rfl) ?_
    refine opd rfl (wanted_none rfl) (m_callx hm102 61 rfl (run_users rfl rfl rfl) (users_any l (l.getD x86 dMf) lv0 lv1 ((lv1.getD x86 ((Value.slice none 0 0), (Value.slice none 0 0), (Value.slice none 0 0))).1) ((lv1.getD x86 ((Value.slice none 0 0), (Value.slice none 0 0), (Value.slice none 0 0))).2.1) ((lv1.getD x86 ((Value.slice none 0 0), (Value.slice none 0 0), (Value.slice none 0 0))).2.2) _ (hm102.see 0 rfl) ((Rn.el (hm102.see 0 rfl) dMf ((Value.slice none 0 0), (Value.slice none 0 0), (Value.slice none 0 0)) x86 (by omega))) (by first | omega | assumption | ((repeat' (first | assumption | exact okl_nil | apply okl_app | apply okl_drop | apply okl_take | apply okl_cons | exact (okl_at (by assumption) _).1 | exact (okl_at (by assumption) _).2 | (simp; done) | (simp; omega) | decide)); done) | (simp; done) | (simp; omega) | (simp only [List.length_append, List.length_cons, List.length_nil]; omega) | (simp only [List.length_append, List.length_cons, List.length_nil] at *; omega) | decide) (by first | omega | assumption | ((repeat' (first | assumption | exact okl_nil | apply okl_app | apply okl_drop | apply okl_take | apply okl_cons | exact (okl_at (by assumption) _).1 | exact (okl_at (by assumption) _).2 | (simp; done) | (simp; omega) | decide)); done) | (simp; done) | (simp; omega) | (simp only [List.length_append, List.length_cons, List.length_nil]; omega) | (simp only [List.length_append, List.length_cons, List.length_nil] at *; omega) | decide)) (fun v106 w104 hR108 hb109 hm105 => ?_))
    obtain ⟨_, rfl, ho111⟩ := hR108
    have hm110 : Mm none (fun _ => True) w w104 [.see (Rn nMf 5 MfN l lv1 lv0) Fl, .blk g4 #[.string (tx r.name), .int .i64 (r.op), .string (tx r.version)] 24, .row v26 (lacks_m l).length ((lacks_m l).flatMap eRul) 24 3, .row v35 (rlacks_m l).length ((rlacks_m l).flatMap eRul) 24 3, .row v49 (clashes_m l).length ((clashes_m l).flatMap eRul) 24 3, .row v58 (rclashes_m l).length ((rclashes_m l).flatMap eRul) 24 3, .row v106 (users_m l (l.getD x86 dMf)).length ((users_m l (l.getD x86 dMf)).flatMap eS) 9 1] := hm102.gained hb109 ho111
    clear hm105
    have hf112 : (users_m l (l.getD x86 dMf)).length ≤ l.length := users_few l (l.getD x86 dMf)
    refine ⟨((hm110.see 0 rfl)), ?_⟩
    simp only [nz1, nz2, nz3]
    refine one_ready 11 (by kernel_rfl) ?_
    refine opd rfl (wanted_none rfl) (m_callx hm110 67 rfl (run_rusers rfl rfl rfl) (rusers_any l (l.getD x86 dMf) lv0 lv1 ((lv1.getD x86 ((Value.slice none 0 0), (Value.slice none 0 0), (Value.slice none 0 0))).1) ((lv1.getD x86 ((Value.slice none 0 0), (Value.slice none 0 0), (Value.slice none 0 0))).2.1) ((lv1.getD x86 ((Value.slice none 0 0), (Value.slice none 0 0), (Value.slice none 0 0))).2.2) (seeS _) _ (hm110.from 0 rfl) ((hm110.from 0 rfl).mono (fun _ h => ((Rn.el h dMf ((Value.slice none 0 0), (Value.slice none 0 0), (Value.slice none 0 0)) x86 (by omega))))) (by first | omega | assumption | ((repeat' (first | assumption | exact okl_nil | apply okl_app | apply okl_drop | apply okl_take | apply okl_cons | exact (okl_at (by assumption) _).1 | exact (okl_at (by assumption) _).2 | (simp; done) | (simp; omega) | decide)); done) | (simp; done) | (simp; omega) | (simp only [List.length_append, List.length_cons, List.length_nil]; omega) | (simp only [List.length_append, List.length_cons, List.length_nil] at *; omega) | decide) (by first | omega | assumption | ((repeat' (first | assumption | exact okl_nil | apply okl_app | apply okl_drop | apply okl_take | apply okl_cons | exact (okl_at (by assumption) _).1 | exact (okl_at (by assumption) _).2 | (simp; done) | (simp; omega) | decide)); done) | (simp; done) | (simp; omega) | (simp only [List.length_append, List.length_cons, List.length_nil]; omega) | (simp only [List.length_append, List.length_cons, List.length_nil] at *; omega) | decide)) (fun v115 w113 hR119 hb120 hm114 => ?_))
    obtain ⟨_, rfl, hg121⟩ := hR119
    obtain ⟨F117, hm122⟩ : ∃ F117, Mm none (fun _ => True) w w113 [.see (Rn nMf 5 MfN l lv1 lv0) Fl, .blk g4 #[.string (tx r.name), .int .i64 (r.op), .string (tx r.version)] 24, .row v26 (lacks_m l).length ((lacks_m l).flatMap eRul) 24 3, .row v35 (rlacks_m l).length ((rlacks_m l).flatMap eRul) 24 3, .row v49 (clashes_m l).length ((clashes_m l).flatMap eRul) 24 3, .row v58 (rclashes_m l).length ((rclashes_m l).flatMap eRul) 24 3, .row v106 (users_m l (l.getD x86 dMf)).length ((users_m l (l.getD x86 dMf)).flatMap eS) 9 1, .see (Rs eS 1 (rusers_m l (l.getD x86 dMf)) v115) F117] := Mm.tookS hm110 hb120 hg121
    clear hm114 hg121 hb120
    refine ⟨((hm122.see 0 rfl)), ?_⟩
    simp only [nz1, nz2, nz3]
    refine one_ready 12 (by kernel_rfl) ?_
    refine opd rfl (wanted_none rfl) (w_value 8 (v106) rfl (run_as rfl rfl) ⟨((hm122.see 0 rfl)), ?_⟩)
    simp only [nz1, nz2, nz3]
    refine one_ready 13 (by kernel_rfl) ?_
    refine opd rfl (wanted_none rfl) (w_value 9 (v115) rfl (run_as rfl rfl) ⟨((hm122.see 0 rfl)), ?_⟩)
    simp only [nz1, nz2, nz3]
    refine wpAnyH_done (by kernel_rfl) ?_ _
    refine then_n (hK101 _ _ ?_)
    refine wp_seq_k (fun K123 hK123 => ?_)
    refine wp_seq_k (fun K124 hK124 => ?_)
    refine wp_region_lit ?_
    refine lvw 68 (v106) rfl rfl (run_mv rfl rfl) ?_
    simp only [nz1, nz2, nz3]
    refine lvw 69 (.int .i64 (((users_m l (l.getD x86 dMf)).length : Nat) : Int)) rfl rfl (s_len (Rs.row (hm122.row 6 rfl)) rfl Tryd.underlying33 rfl) ?_
    simp only [nz1, nz2, nz3]
    refine lvw 70 (v115) rfl rfl (run_mv rfl rfl) ?_
    simp only [nz1, nz2, nz3]
    refine lvw 71 (.int .i64 (((rusers_m l (l.getD x86 dMf)).length : Nat) : Int)) rfl rfl (s_len ((hm122.see 7 rfl)) rfl Tryd.underlying33 rfl) ?_
    simp only [nz1, nz2, nz3]
    refine lvw 72 (.bool (decide (¬ (users_m l (l.getD x86 dMf)).length = (rusers_m l (l.getD x86 dMf)).length))) rfl rfl (r_neq ((users_m l (l.getD x86 dMf)).length) ((rusers_m l (l.getD x86 dMf)).length) rfl rfl rfl) ?_
    simp only [nz1, nz2, nz3]
    refine wpList_nil ?_
    refine then_n (hK124 _ _ ?_)
    refine cond_d (¬ (users_m l (l.getD x86 dMf)).length = (rusers_m l (l.getD x86 dMf)).length) rfl (fun hc125 => ?_) (fun hc125 => ?_)
    · refine wp_seq_k (fun K126 hK126 => ?_)
      refine wp_region_lit ?_
      refine lvw 6 (.bool false) rfl rfl (run_as rfl rfl) ?_
      simp only [nz1, nz2, nz3]
      refine wpList_nil ?_
      refine then_n (hK126 _ _ ?_)
      refine wp_ret ?_
      refine then_r ?_
      refine blk_r ?_
      refine then_r ?_
      refine then_r ?_
      refine blk_r ?_
      refine then_r ?_
      refine then_r ?_
      have he127 : ltells_m_l0 l r but ((l.length - 0) + 1) 0 = .inr false := (hi89.trans (show ltells_m_b0 l r but (ltells_m_l0 l r but k88) x86 = .inr false from by unfold ltells_m_b0; rw [if_pos hc99, if_pos hc125] <;> rfl))
      have he128 : ltells_m l r but = false := (show ltells_m l r but = false from by unfold ltells_m; rw [if_neg hc10, if_neg hs21, if_neg hs44, if_neg hs67, if_neg hs74, if_neg hc81, he127] <;> rfl)
      exact ⟨rfl, .bool false, res_t rfl rfl, ⟨by (rw [he128]; try rfl), hm122.below⟩⟩
    refine wp_skip ?_
    refine then_n (hK123 _ _ ?_)
    refine wp_seq_k (fun K129 hK129 => ?_)
    refine wp_region_lit ?_
    refine lvw 10 (.int .i64 0) rfl rfl (run_as rfl rfl) ?_
    simp only [nz1, nz2, nz3]
    refine wpList_nil ?_
    refine then_n (hK129 _ _ ?_)
    refine wp_cutK (fun a' w' => ∃ (y134 : Nat) (yu1 : Nat → Value), ltells_m_l1 l r but x86 (((users_m l (l.getD x86 dMf)).length - 0) + 1) 0 = .inl y134 ∧ a' = ⟨#[lv0, .agg #[.string (tx r.name), .int .i64 (r.op), .string (tx r.version)], .string (tx but), undef, .pointer (some ⟨g4, 0, none⟩), undef, yu1 0, .int .i64 ((x86 : Nat) : Int), v106, v115, .int .i64 ((y134 : Nat) : Int), lv0, .bool (decide (500 < grn l)), undef, .bool (sawake_m), .bool false, .bool false, lv0, v26, lv0, v35, .bool ((ssame_m (lacks_m l) (rlacks_m l))), .bool false, .bool false, .bool false, lv0, v49, lv0, v58, .bool ((ssame_m (clashes_m l) (rclashes_m l))), .bool false, .bool false, .bool false, lv0, .int .i64 ((solve_m l)), lv0, .int .i64 ((rsolve_m l)), .bool false, .bool false, .bool false, lv0, .agg #[.string (tx r.name), .int .i64 (r.op), .string (tx r.version)], .string (tx but), .bool ((meets_m l r but)), lv0, .agg #[.string (tx r.name), .int .i64 (r.op), .string (tx r.version)], .string (tx but), .bool ((rmeets_m l r but)), .bool ((meets_m l r but) != (rmeets_m l r but)), .bool ((meets_m l r but) != (rmeets_m l r but)), .int .i64 ((x86 : Nat) : Int), lv0, .int .i64 ((l.length : Nat) : Int), .bool (decide (x86 < l.length)), u0 8, u0 9, lv0, lv0, .int .i64 ((x86 : Nat) : Int), .pointer (some ⟨(bk lv0), (po lv0 + x86 * 5), none⟩), .agg #[.string (tx ((l.getD x86 dMf).name)), .string (tx ((l.getD x86 dMf).version)), (lv1.getD x86 ((Value.slice none 0 0), (Value.slice none 0 0), (Value.slice none 0 0))).1, (lv1.getD x86 ((Value.slice none 0 0), (Value.slice none 0 0), (Value.slice none 0 0))).2.1, (lv1.getD x86 ((Value.slice none 0 0), (Value.slice none 0 0), (Value.slice none 0 0))).2.2], v106, lv0, lv0, .int .i64 ((x86 : Nat) : Int), .pointer (some ⟨(bk lv0), (po lv0 + x86 * 5), none⟩), .agg #[.string (tx ((l.getD x86 dMf).name)), .string (tx ((l.getD x86 dMf).version)), (lv1.getD x86 ((Value.slice none 0 0), (Value.slice none 0 0), (Value.slice none 0 0))).1, (lv1.getD x86 ((Value.slice none 0 0), (Value.slice none 0 0), (Value.slice none 0 0))).2.1, (lv1.getD x86 ((Value.slice none 0 0), (Value.slice none 0 0), (Value.slice none 0 0))).2.2], v115, v106, .int .i64 (((users_m l (l.getD x86 dMf)).length : Nat) : Int), v115, .int .i64 (((rusers_m l (l.getD x86 dMf)).length : Nat) : Int), .bool (decide (¬ (users_m l (l.getD x86 dMf)).length = (rusers_m l (l.getD x86 dMf)).length)), yu1 1, yu1 2, yu1 3, yu1 4, yu1 5, yu1 6, yu1 7, yu1 8, yu1 9, yu1 10, yu1 11, yu1 12, yu1 13, yu1 14, yu1 15], []⟩ ∧ Mm none (fun _ => True) w w' [.see (Rn nMf 5 MfN l lv1 lv0) Fl, .blk g4 #[.string (tx r.name), .int .i64 (r.op), .string (tx r.version)] 24, .row v26 (lacks_m l).length ((lacks_m l).flatMap eRul) 24 3, .row v35 (rlacks_m l).length ((rlacks_m l).flatMap eRul) 24 3, .row v49 (clashes_m l).length ((clashes_m l).flatMap eRul) 24 3, .row v58 (rclashes_m l).length ((rclashes_m l).flatMap eRul) 24 3, .row v106 (users_m l (l.getD x86 dMf)).length ((users_m l (l.getD x86 dMf)).flatMap eS) 9 1, .see (Rs eS 1 (rusers_m l (l.getD x86 dMf)) v115) F117]) ?_ ?_
    · refine wp_block ?_
      refine wp_loop_n (fun n' a' w' => ∃ (n131 : Nat) (x130 : Nat) (u1 : Nat → Value), n' = n131 ∧ ((users_m l (l.getD x86 dMf)).length - x130) < n131 ∧ ltells_m_l1 l r but x86 (((users_m l (l.getD x86 dMf)).length - 0) + 1) 0 = ltells_m_l1 l r but x86 n131 x130 ∧ a' = ⟨#[lv0, .agg #[.string (tx r.name), .int .i64 (r.op), .string (tx r.version)], .string (tx but), undef, .pointer (some ⟨g4, 0, none⟩), undef, u1 0, .int .i64 ((x86 : Nat) : Int), v106, v115, .int .i64 ((x130 : Nat) : Int), lv0, .bool (decide (500 < grn l)), undef, .bool (sawake_m), .bool false, .bool false, lv0, v26, lv0, v35, .bool ((ssame_m (lacks_m l) (rlacks_m l))), .bool false, .bool false, .bool false, lv0, v49, lv0, v58, .bool ((ssame_m (clashes_m l) (rclashes_m l))), .bool false, .bool false, .bool false, lv0, .int .i64 ((solve_m l)), lv0, .int .i64 ((rsolve_m l)), .bool false, .bool false, .bool false, lv0, .agg #[.string (tx r.name), .int .i64 (r.op), .string (tx r.version)], .string (tx but), .bool ((meets_m l r but)), lv0, .agg #[.string (tx r.name), .int .i64 (r.op), .string (tx r.version)], .string (tx but), .bool ((rmeets_m l r but)), .bool ((meets_m l r but) != (rmeets_m l r but)), .bool ((meets_m l r but) != (rmeets_m l r but)), .int .i64 ((x86 : Nat) : Int), lv0, .int .i64 ((l.length : Nat) : Int), .bool (decide (x86 < l.length)), u0 8, u0 9, lv0, lv0, .int .i64 ((x86 : Nat) : Int), .pointer (some ⟨(bk lv0), (po lv0 + x86 * 5), none⟩), .agg #[.string (tx ((l.getD x86 dMf).name)), .string (tx ((l.getD x86 dMf).version)), (lv1.getD x86 ((Value.slice none 0 0), (Value.slice none 0 0), (Value.slice none 0 0))).1, (lv1.getD x86 ((Value.slice none 0 0), (Value.slice none 0 0), (Value.slice none 0 0))).2.1, (lv1.getD x86 ((Value.slice none 0 0), (Value.slice none 0 0), (Value.slice none 0 0))).2.2], v106, lv0, lv0, .int .i64 ((x86 : Nat) : Int), .pointer (some ⟨(bk lv0), (po lv0 + x86 * 5), none⟩), .agg #[.string (tx ((l.getD x86 dMf).name)), .string (tx ((l.getD x86 dMf).version)), (lv1.getD x86 ((Value.slice none 0 0), (Value.slice none 0 0), (Value.slice none 0 0))).1, (lv1.getD x86 ((Value.slice none 0 0), (Value.slice none 0 0), (Value.slice none 0 0))).2.1, (lv1.getD x86 ((Value.slice none 0 0), (Value.slice none 0 0), (Value.slice none 0 0))).2.2], v115, v106, .int .i64 (((users_m l (l.getD x86 dMf)).length : Nat) : Int), v115, .int .i64 (((rusers_m l (l.getD x86 dMf)).length : Nat) : Int), .bool (decide (¬ (users_m l (l.getD x86 dMf)).length = (rusers_m l (l.getD x86 dMf)).length)), u1 1, u1 2, u1 3, u1 4, u1 5, u1 6, u1 7, u1 8, u1 9, u1 10, u1 11, u1 12, u1 13, u1 14, u1 15], []⟩ ∧ Mm none (fun _ => True) w w' [.see (Rn nMf 5 MfN l lv1 lv0) Fl, .blk g4 #[.string (tx r.name), .int .i64 (r.op), .string (tx r.version)] 24, .row v26 (lacks_m l).length ((lacks_m l).flatMap eRul) 24 3, .row v35 (rlacks_m l).length ((rlacks_m l).flatMap eRul) 24 3, .row v49 (clashes_m l).length ((clashes_m l).flatMap eRul) 24 3, .row v58 (rclashes_m l).length ((rclashes_m l).flatMap eRul) 24 3, .row v106 (users_m l (l.getD x86 dMf)).length ((users_m l (l.getD x86 dMf)).flatMap eS) 9 1, .see (Rs eS 1 (rusers_m l (l.getD x86 dMf)) v115) F117]) ⟨(((users_m l (l.getD x86 dMf)).length - 0) + 1), 0, (fun qq => List.getD [u0 0, u0 27, u0 28, u0 29, u0 30, u0 31, u0 32, u0 33, u0 34, u0 35, u0 36, u0 37, u0 38, u0 39, u0 40, u0 41] qq undef), rfl, Nat.lt_succ_self _, rfl, rfl, hm122⟩ ?_
      rintro n131 _ w136 ⟨_, x130, u1, rfl, hl140, hi133, rfl, hm137⟩ R138 hR138
      obtain ⟨k132, rfl⟩ : ∃ k, n131 = k + 1 := ⟨n131 - 1, by omega⟩
      refine wp_seq_k (fun K141 hK141 => ?_)
      refine wp_seq_k (fun K142 hK142 => ?_)
      refine wp_region_lit ?_
      refine lvw 73 (.int .i64 ((x130 : Nat) : Int)) rfl rfl (run_mv rfl rfl) ?_
      simp only [nz1, nz2, nz3]
      refine lvw 74 (v106) rfl rfl (run_mv rfl rfl) ?_
      simp only [nz1, nz2, nz3]
      refine lvw 75 (.int .i64 (((users_m l (l.getD x86 dMf)).length : Nat) : Int)) rfl rfl (s_len (Rs.row (hm137.row 6 rfl)) rfl Tryd.underlying33 rfl) ?_
      simp only [nz1, nz2, nz3]
      refine lvw 76 (.bool (decide (x130 < (users_m l (l.getD x86 dMf)).length))) rfl rfl (r_lss x130 ((users_m l (l.getD x86 dMf)).length) rfl rfl rfl) ?_
      simp only [nz1, nz2, nz3]
      refine wpList_nil ?_
      refine then_n (hK142 _ _ ?_)
      refine cond_d (x130 < (users_m l (l.getD x86 dMf)).length) rfl (fun hc143 => ?_) (fun hc143 => ?_)
      rotate_left
      · refine wp_exit ?_
        refine then_x ?_
        refine then_x ?_
        refine blk_x ?_
        refine then_n ?_
        exact ⟨x130, (fun qq => List.getD [u1 0, .int .i64 ((x130 : Nat) : Int), v106, .int .i64 (((users_m l (l.getD x86 dMf)).length : Nat) : Int), .bool (decide (x130 < (users_m l (l.getD x86 dMf)).length)), u1 5, u1 6, u1 7, u1 8, u1 9, u1 10, u1 11, u1 12, u1 13, u1 14, u1 15] qq undef), (hi133.trans (show ltells_m_b1 l r but x86 (ltells_m_l1 l r but x86 k132) x130 = .inl x130 from by unfold ltells_m_b1; rw [if_neg hc143] <;> rfl)), rfl, hm137⟩
      refine wp_skip ?_
      refine then_n (hK141 _ _ ?_)
      refine wp_seq_k (fun K144 hK144 => ?_)
      refine wp_block ?_
      refine wp_seq_k (fun K145 hK145 => ?_)
      have hm146 := hm137.drew
      refine wp_region_held_drew (S := fun w' => Rs eS 1 (users_m l (l.getD x86 dMf)) v106 w' ∧ Rs eS 1 (rusers_m l (l.getD x86 dMf)) v115 w') (by kernel_rfl) (⟨(Rs.row (hm146.row 6 rfl)), ((hm146.see 7 rfl))⟩) (fun _ => ?_)
      generalize w136.drew = w147 at *
      refine tk 0 79 (v106) rfl rfl (fun _ hw => run_mv rfl rfl) (⟨(Rs.row (hm146.row 6 rfl)), ((hm146.see 7 rfl))⟩) ?_
      simp only [nz1, nz2, nz3]
      refine tk 1 80 (.int .i64 ((x130 : Nat) : Int)) rfl rfl (fun _ hw => run_mv rfl rfl) (⟨(Rs.row (hm146.row 6 rfl)), ((hm146.see 7 rfl))⟩) ?_
      simp only [nz1, nz2, nz3]
      refine tk 2 81 (.pointer (some ⟨(bk v106), (po v106 + x130 * 1), none⟩)) rfl rfl (fun _ hw => r_ixv (Rs.row (hm146.row 6 rfl)) x130 (by omega) Tryd.underlying33 sz_9 rfl rfl rfl) (⟨(Rs.row (hm146.row 6 rfl)), ((hm146.see 7 rfl))⟩) ?_
      simp only [nz1, nz2, nz3]
      refine tk 3 82 (.string (tx ((users_m l (l.getD x86 dMf)).getD x130 []))) rfl rfl (fun _ hw => r_cellw (Rs.cell hw.1 eS_len [] x130 (by omega) 0 _ rfl) Tryd.underlying9 rfl rfl rfl) (⟨(Rs.row (hm146.row 6 rfl)), ((hm146.see 7 rfl))⟩) ?_
      simp only [nz1, nz2, nz3]
      refine tk 4 83 (v115) rfl rfl (fun _ hw => run_mv rfl rfl) (⟨(Rs.row (hm146.row 6 rfl)), ((hm146.see 7 rfl))⟩) ?_
      simp only [nz1, nz2, nz3]
      refine tk 5 84 (.int .i64 ((x130 : Nat) : Int)) rfl rfl (fun _ hw => run_mv rfl rfl) (⟨(Rs.row (hm146.row 6 rfl)), ((hm146.see 7 rfl))⟩) ?_
      simp only [nz1, nz2, nz3]
      refine tk 6 85 (.pointer (some ⟨(bk v115), (po v115 + x130 * 1), none⟩)) rfl rfl (fun _ hw => r_ixv ((hm146.see 7 rfl)) x130 (by omega) Tryd.underlying33 sz_9 rfl rfl rfl) (⟨(Rs.row (hm146.row 6 rfl)), ((hm146.see 7 rfl))⟩) ?_
      simp only [nz1, nz2, nz3]
      refine tk 7 86 (.string (tx ((rusers_m l (l.getD x86 dMf)).getD x130 []))) rfl rfl (fun _ hw => r_cellw (Rs.cell hw.2 eS_len [] x130 (by omega) 0 _ rfl) Tryd.underlying9 rfl rfl rfl) (⟨(Rs.row (hm146.row 6 rfl)), ((hm146.see 7 rfl))⟩) ?_
      simp only [nz1, nz2, nz3]
      refine tk 8 87 (.bool (decide (¬ ((users_m l (l.getD x86 dMf)).getD x130 []) = ((rusers_m l (l.getD x86 dMf)).getD x130 [])))) rfl rfl (fun _ hw => t_neq ((users_m l (l.getD x86 dMf)).getD x130 []) ((rusers_m l (l.getD x86 dMf)).getD x130 []) rfl rfl rfl) (⟨(Rs.row (hm146.row 6 rfl)), ((hm146.see 7 rfl))⟩) ?_
      simp only [nz1, nz2, nz3]
      refine wpAnyH_done (by kernel_rfl) ?_ _
      refine then_n (hK145 _ _ ?_)
      refine cond_d (¬ ((users_m l (l.getD x86 dMf)).getD x130 []) = ((rusers_m l (l.getD x86 dMf)).getD x130 [])) rfl (fun hc148 => ?_) (fun hc148 => ?_)
      rotate_left
      · refine wp_skip ?_
        refine blk_n ?_
        refine then_n (hK144 _ _ ?_)
        refine wp_region_lit ?_
        refine lvw 77 (.int .i64 ((x130 : Nat) : Int)) rfl rfl (run_mv rfl rfl) ?_
        simp only [nz1, nz2, nz3]
        refine lvw 78 (.int .i64 (((x130 + 1) : Nat) : Int)) rfl rfl (r_add x130 1 (show (x130 + 1) < 9223372036854775808 from by omega) rfl rfl rfl) ?_
        simp only [nz1, nz2, nz3]
        refine lvw 10 (.int .i64 (((x130 + 1) : Nat) : Int)) rfl rfl (run_as rfl rfl) ?_
        simp only [nz1, nz2, nz3]
        refine wpList_nil ?_
        refine then_n (hR138 _ _ _ ⟨k132, (x130 + 1), (fun qq => List.getD [u1 0, .int .i64 ((x130 : Nat) : Int), v106, .int .i64 (((users_m l (l.getD x86 dMf)).length : Nat) : Int), .bool (decide (x130 < (users_m l (l.getD x86 dMf)).length)), .int .i64 ((x130 : Nat) : Int), .int .i64 (((x130 + 1) : Nat) : Int), v106, .int .i64 ((x130 : Nat) : Int), .pointer (some ⟨(bk v106), (po v106 + x130 * 1), none⟩), .string (tx ((users_m l (l.getD x86 dMf)).getD x130 [])), v115, .int .i64 ((x130 : Nat) : Int), .pointer (some ⟨(bk v115), (po v115 + x130 * 1), none⟩), .string (tx ((rusers_m l (l.getD x86 dMf)).getD x130 [])), .bool (decide (¬ ((users_m l (l.getD x86 dMf)).getD x130 []) = ((rusers_m l (l.getD x86 dMf)).getD x130 [])))] qq undef), rfl, (by first | omega | (simp; omega) | (simp at *; omega)), (hi133.trans (show ltells_m_b1 l r but x86 (ltells_m_l1 l r but x86 k132) x130 = ltells_m_l1 l r but x86 k132 (x130 + 1) from by unfold ltells_m_b1; rw [if_pos hc143, if_neg hc148] <;> rfl)), rfl, hm146⟩ ?_)
        omega
      refine wp_seq_k (fun K149 hK149 => ?_)
      refine wp_region_lit ?_
      refine lvw 6 (.bool false) rfl rfl (run_as rfl rfl) ?_
      simp only [nz1, nz2, nz3]
      refine wpList_nil ?_
      refine then_n (hK149 _ _ ?_)
      refine wp_ret ?_
      refine blk_r ?_
      refine then_r ?_
      refine then_r ?_
      refine blk_r ?_
      refine then_r ?_
      refine blk_r ?_
      refine then_r ?_
      refine then_r ?_
      refine blk_r ?_
      refine then_r ?_
      refine then_r ?_
      have he150 : ltells_m_l1 l r but x86 (((users_m l (l.getD x86 dMf)).length - 0) + 1) 0 = .inr false := (hi133.trans (show ltells_m_b1 l r but x86 (ltells_m_l1 l r but x86 k132) x130 = .inr false from by unfold ltells_m_b1; rw [if_pos hc143, if_pos hc148] <;> rfl))
      have he151 : ltells_m_l0 l r but ((l.length - 0) + 1) 0 = .inr false := (hi89.trans (show ltells_m_b0 l r but (ltells_m_l0 l r but k88) x86 = .inr false from by unfold ltells_m_b0; rw [if_pos hc99, if_neg hc125, he150] <;> rfl))
      have he152 : ltells_m l r but = false := (show ltells_m l r but = false from by unfold ltells_m; rw [if_neg hc10, if_neg hs21, if_neg hs44, if_neg hs67, if_neg hs74, if_neg hc81, he151] <;> rfl)
      exact ⟨rfl, .bool false, res_t rfl rfl, ⟨by (rw [he152]; try rfl), hm146.below⟩⟩
    rintro _ w153 ⟨y134, yu1, hx135, rfl, hm154⟩
    have hq155 : ltells_m_l0 l r but ((l.length - 0) + 1) 0 = ltells_m_k1 l r but x86 (ltells_m_l0 l r but k88) y134 := (hi89.trans (show ltells_m_b0 l r but (ltells_m_l0 l r but k88) x86 = ltells_m_k1 l r but x86 (ltells_m_l0 l r but k88) y134 from by unfold ltells_m_b0; rw [if_pos hc99, if_neg hc125, hx135] <;> rfl))
    refine blk_n ?_
    refine then_n (hK100 _ _ ?_)
    refine wp_region_lit ?_
    refine lvw 54 (.int .i64 ((x86 : Nat) : Int)) rfl rfl (run_mv rfl rfl) ?_
    simp only [nz1, nz2, nz3]
    refine lvw 55 (.int .i64 (((x86 + 1) : Nat) : Int)) rfl rfl (r_add x86 1 (show (x86 + 1) < 9223372036854775808 from by omega) rfl rfl rfl) ?_
    simp only [nz1, nz2, nz3]
    refine lvw 7 (.int .i64 (((x86 + 1) : Nat) : Int)) rfl rfl (run_as rfl rfl) ?_
    simp only [nz1, nz2, nz3]
    refine wpList_nil ?_
    refine then_n (hR94 _ _ _ ⟨k88, (x86 + 1), (fun qq => bif Nat.blt qq 24 then List.getD [yu1 0, v106, v115, .int .i64 ((y134 : Nat) : Int), .int .i64 ((x86 : Nat) : Int), lv0, .int .i64 ((l.length : Nat) : Int), .bool (decide (x86 < l.length)), .int .i64 ((x86 : Nat) : Int), .int .i64 (((x86 + 1) : Nat) : Int), lv0, lv0, .int .i64 ((x86 : Nat) : Int), .pointer (some ⟨(bk lv0), (po lv0 + x86 * 5), none⟩), .agg #[.string (tx ((l.getD x86 dMf).name)), .string (tx ((l.getD x86 dMf).version)), (lv1.getD x86 ((Value.slice none 0 0), (Value.slice none 0 0), (Value.slice none 0 0))).1, (lv1.getD x86 ((Value.slice none 0 0), (Value.slice none 0 0), (Value.slice none 0 0))).2.1, (lv1.getD x86 ((Value.slice none 0 0), (Value.slice none 0 0), (Value.slice none 0 0))).2.2], v106, lv0, lv0, .int .i64 ((x86 : Nat) : Int), .pointer (some ⟨(bk lv0), (po lv0 + x86 * 5), none⟩), .agg #[.string (tx ((l.getD x86 dMf).name)), .string (tx ((l.getD x86 dMf).version)), (lv1.getD x86 ((Value.slice none 0 0), (Value.slice none 0 0), (Value.slice none 0 0))).1, (lv1.getD x86 ((Value.slice none 0 0), (Value.slice none 0 0), (Value.slice none 0 0))).2.1, (lv1.getD x86 ((Value.slice none 0 0), (Value.slice none 0 0), (Value.slice none 0 0))).2.2], v115, v106, .int .i64 (((users_m l (l.getD x86 dMf)).length : Nat) : Int)] qq undef else List.getD [v115, .int .i64 (((rusers_m l (l.getD x86 dMf)).length : Nat) : Int), .bool (decide (¬ (users_m l (l.getD x86 dMf)).length = (rusers_m l (l.getD x86 dMf)).length)), yu1 1, yu1 2, yu1 3, yu1 4, yu1 5, yu1 6, yu1 7, yu1 8, yu1 9, yu1 10, yu1 11, yu1 12, yu1 13, yu1 14, yu1 15] (qq - 24) undef), rfl, (by first | omega | (simp; omega) | (simp at *; omega)), (hq155.trans (show ltells_m_k1 l r but x86 (ltells_m_l0 l r but k88) y134 = ltells_m_l0 l r but k88 (x86 + 1) from by unfold ltells_m_k1; rfl)), rfl, (Mm.reorder hm154 [0, 1, 2, 3, 4, 5] (by decide) rfl)⟩ ?_)
    omega
  rintro _ w156 ⟨y90, yu0, hx91, rfl, hm157⟩
  have hq158 : ltells_m l r but = ltells_m_k0 l r but y90 := (show ltells_m l r but = ltells_m_k0 l r but y90 from by unfold ltells_m; rw [if_neg hc10, if_neg hs21, if_neg hs44, if_neg hs67, if_neg hs74, if_neg hc81, hx91] <;> rfl)
  refine then_n (hK84 _ _ ?_)
  refine wp_seq_k (fun K159 hK159 => ?_)
  refine wp_region_lit ?_
  refine lvw 6 (.bool true) rfl rfl (run_as rfl rfl) ?_
  simp only [nz1, nz2, nz3]
  refine wpList_nil ?_
  refine then_n (hK159 _ _ ?_)
  refine wp_ret ?_
  have he160 : ltells_m l r but = true := (hq158.trans (show ltells_m_k0 l r but y90 = true from by unfold ltells_m_k0; rfl))
  exact ⟨rfl, .bool true, res_t rfl rfl, ⟨by (rw [he160]; try rfl), hm157.below⟩⟩
theorem run_ltells {o : Oper} {a : Act} {w : World} {x0 x1 x2 : Operand} {v0 v1 v2 : Value} (ho : o.op = .call { callee := .value (.func 3), args := #[x0, x1, x2], argTypes := #[22, 24, 9] }) (h0 : a.eval x0 = v0) (h1 : a.eval x1 = v1) (h2 : a.eval x2 = v2) :
    (execOp a.eval o).run Tryd.prog w = .ok (.enter 3 #[v0, v1, v2]) w := by
  unfold execOp
  simp only [ho]
  have hf : a.eval (.func 3) = .func (.func 3) #[] #[] := rfl
  generalize a.eval = f at *
  go_simp
end Go.Proofs.YtpbenhfnebgbiaaDoor.So
