/- Layer 20: the document's answers. -/
import Derived.Test.YtpbenhfnebgbiaaDoorSoB
namespace Go.Proofs.YtpbenhfnebgbiaaDoor.So
open Go.RowKit
open Go.Proofs.YtpbenhfnebgbiaaDoor.Sym Go.Proofs.YtpbenhfnebgbiaaDoor.Mem
open Go.Proofs.YtpbenhfnebgbiaaDoor.Sx hiding Mm m_alloc m_store m_put m_call m_callx m_make m_append r_string r_ixS
set_option linter.unusedVariables false
open Go.Proofs.YtpbenhfnebgbiaaDoor.Pa
open Go.Proofs.YtpbenhfnebgbiaaDoor.Ve
attribute [local irreducible] holds_m meets_m lacks_m clashes_m solve_m needs_m users_m
attribute [local irreducible] rholds_m
attribute [local irreducible] wpList Oper.wp

def rmeets_m_b0 (l : List Mf) (r : Rul) (but : List UInt8) (rec : Nat → Sum (Nat) (Bool)) (x7 : Nat) : Sum (Nat) (Bool) :=
  if x7 < l.length then
    if (l.getD x7 dMf).name = r.name then
      if ¬ (l.getD x7 dMf).name = but then
        if (rholds_m r ((l.getD x7 dMf).version)) = true then
          .inr true
        else
          rec (x7 + 1)
      else
        rec (x7 + 1)
    else
      rec (x7 + 1)
  else
    .inl x7
def rmeets_m_l0 (l : List Mf) (r : Rul) (but : List UInt8) : Nat → Nat → Sum (Nat) (Bool)
  | 0, zz => .inl zz
  | nq + 1, zz => rmeets_m_b0 l r but (rmeets_m_l0 l r but nq) zz

def rmeets_m_k0 (l : List Mf) (r : Rul) (but : List UInt8) (y11 : Nat) : Bool :=
  false

def rmeets_m (l : List Mf) (r : Rul) (but : List UInt8) : Bool :=
  fin (rmeets_m_l0 l r but ((l.length - 0) + 1) 0) (fun r => r) (fun zz => rmeets_m_k0 l r but zz)

set_option maxHeartbeats 4000000 in
set_option maxRecDepth 100000 in
theorem rmeets_any (l : List Mf) (r : Rul) (but : List UInt8) (lv0 : Value) (lv1 : List (Value × Value × Value)) (w : World) (hl : Rn nMf 5 MfN l lv1 lv0 w) (hp0 : l.length ≤ 100000) : Calls Tryd.prog 17 #[lv0, .agg #[.string (tx r.name), .int .i64 (r.op), .string (tx r.version)], .string (tx but)] w (fun e w' => e = .returned (.bool ((rmeets_m l r but))) ∧ Below w.heap.size w w') := by
  go_enter Tryd.func17, Tryd.ntmps17
  have hm00 := Mm.nil none (fun _ => True) w
  obtain ⟨Fl, hm01⟩ : ∃ Fl, Mm none (fun _ => True) w w [.see (Rn nMf 5 MfN l lv1 lv0) Fl] := hm00.come ((Rn.all MfN_all) hl)
  have hm0 := hm01
  refine wp_seq_k (fun K1 hK1 => ?_)
  refine wp_region_lit ?_
  refine lst rfl (m_alloc (c := #[.string (tx r.name), .int .i64 (r.op), .string (tx r.version)]) (T := 24) hm0 4 rfl (run_box rfl rfl) (fun g4 w2 (hm3 : Mm none (fun _ => True) w w2 [.see (Rn nMf 5 MfN l lv1 lv0) Fl, .blk g4 #[.string (tx r.name), .int .i64 (r.op), .string (tx r.version)] 24]) => ?_))
  simp only [nz1, nz2, nz3]
  refine lvw 6 (.bool false) rfl rfl (run_as rfl rfl) ?_
  simp only [nz1, nz2, nz3]
  refine wpList_nil ?_
  refine then_n (hK1 _ _ ?_)
  refine wp_seq_k (fun K5 hK5 => ?_)
  refine wp_seq_k (fun K6 hK6 => ?_)
  refine wp_region_lit ?_
  refine lvw 7 (.int .i64 0) rfl rfl (run_as rfl rfl) ?_
  simp only [nz1, nz2, nz3]
  refine wpList_nil ?_
  refine then_n (hK6 _ _ ?_)
  refine wp_cutK (fun a' w' => ∃ (y11 : Nat) (yu0 : Nat → Value), rmeets_m_l0 l r but ((l.length - 0) + 1) 0 = .inl y11 ∧ a' = ⟨#[lv0, .agg #[.string (tx r.name), .int .i64 (r.op), .string (tx r.version)], .string (tx but), undef, .pointer (some ⟨g4, 0, none⟩), undef, yu0 0, .int .i64 ((y11 : Nat) : Int), yu0 1, yu0 2, yu0 3, yu0 4, yu0 5, yu0 6, yu0 7, yu0 8, yu0 9, yu0 10, yu0 11, yu0 12, yu0 13, yu0 14, yu0 15, yu0 16, yu0 17, yu0 18, yu0 19, yu0 20, yu0 21, yu0 22, yu0 23, yu0 24, yu0 25, yu0 26, yu0 27, yu0 28, yu0 29, yu0 30, yu0 31, yu0 32], []⟩ ∧ Mm none (fun _ => True) w w' [.see (Rn nMf 5 MfN l lv1 lv0) Fl, .blk g4 #[.string (tx r.name), .int .i64 (r.op), .string (tx r.version)] 24]) ?_ ?_
  · refine wp_block ?_
    refine wp_loop_n (fun n' a' w' => ∃ (n8 : Nat) (x7 : Nat) (u0 : Nat → Value), n' = n8 ∧ (l.length - x7) < n8 ∧ rmeets_m_l0 l r but ((l.length - 0) + 1) 0 = rmeets_m_l0 l r but n8 x7 ∧ a' = ⟨#[lv0, .agg #[.string (tx r.name), .int .i64 (r.op), .string (tx r.version)], .string (tx but), undef, .pointer (some ⟨g4, 0, none⟩), undef, u0 0, .int .i64 ((x7 : Nat) : Int), u0 1, u0 2, u0 3, u0 4, u0 5, u0 6, u0 7, u0 8, u0 9, u0 10, u0 11, u0 12, u0 13, u0 14, u0 15, u0 16, u0 17, u0 18, u0 19, u0 20, u0 21, u0 22, u0 23, u0 24, u0 25, u0 26, u0 27, u0 28, u0 29, u0 30, u0 31, u0 32], []⟩ ∧ Mm none (fun _ => True) w w' [.see (Rn nMf 5 MfN l lv1 lv0) Fl, .blk g4 #[.string (tx r.name), .int .i64 (r.op), .string (tx r.version)] 24]) ⟨((l.length - 0) + 1), 0, (fun qq => bif Nat.blt qq 24 then List.getD [.bool false, undef, undef, undef, undef, undef, undef, undef, undef, undef, undef, undef, undef, undef, undef, undef, undef, undef, undef, undef, undef, undef, undef, undef] qq undef else List.getD [undef, undef, undef, undef, undef, undef, undef, undef, undef] (qq - 24) undef), rfl, Nat.lt_succ_self _, rfl, rfl, hm3⟩ ?_
    rintro n8 _ w13 ⟨_, x7, u0, rfl, hl17, hi10, rfl, hm14⟩ R15 hR15
    obtain ⟨k9, rfl⟩ : ∃ k, n8 = k + 1 := ⟨n8 - 1, by omega⟩
    refine wp_seq_k (fun K18 hK18 => ?_)
    refine wp_seq_k (fun K19 hK19 => ?_)
    refine wp_region_lit ?_
    refine lvw 8 (.int .i64 ((x7 : Nat) : Int)) rfl rfl (run_mv rfl rfl) ?_
    simp only [nz1, nz2, nz3]
    refine lvw 9 (lv0) rfl rfl (run_mv rfl rfl) ?_
    simp only [nz1, nz2, nz3]
    refine lvw 10 (.int .i64 ((l.length : Nat) : Int)) rfl rfl (s_len ((hm14.see 0 rfl)).rd rfl Tryd.underlying22 rfl) ?_
    simp only [nz1, nz2, nz3]
    refine lvw 11 (.bool (decide (x7 < l.length))) rfl rfl (r_lss x7 l.length rfl rfl rfl) ?_
    simp only [nz1, nz2, nz3]
    refine wpList_nil ?_
    refine then_n (hK19 _ _ ?_)
    refine cond_d (x7 < l.length) rfl (fun hc20 => ?_) (fun hc20 => ?_)
    rotate_left
    · refine wp_exit ?_
      refine then_x ?_
      refine then_x ?_
      refine blk_x ?_
      refine then_n ?_
      exact ⟨x7, (fun qq => bif Nat.blt qq 24 then List.getD [u0 0, .int .i64 ((x7 : Nat) : Int), lv0, .int .i64 ((l.length : Nat) : Int), .bool (decide (x7 < l.length)), u0 5, u0 6, u0 7, u0 8, u0 9, u0 10, u0 11, u0 12, u0 13, u0 14, u0 15, u0 16, u0 17, u0 18, u0 19, u0 20, u0 21, u0 22, u0 23] qq undef else List.getD [u0 24, u0 25, u0 26, u0 27, u0 28, u0 29, u0 30, u0 31, u0 32] (qq - 24) undef), (hi10.trans (show rmeets_m_b0 l r but (rmeets_m_l0 l r but k9) x7 = .inl x7 from by unfold rmeets_m_b0; rw [if_neg hc20] <;> rfl)), rfl, hm14⟩
    refine wp_skip ?_
    refine then_n (hK18 _ _ ?_)
    refine wp_seq_k (fun K21 hK21 => ?_)
    refine wp_block ?_
    refine wp_seq_k (fun K22 hK22 => ?_)
    have hm23 := hm14.drew
    refine wp_region_held_drew (S := fun w' => Mem.Blk w' g4 (#[.string (tx r.name), .int .i64 (r.op), .string (tx r.version)]) 24 ∧ Rn nMf 5 MfN l lv1 lv0 w') (by kernel_rfl) (⟨hm23.at 1 rfl, ((hm23.see 0 rfl))⟩) (fun _ => ?_)
    generalize w13.drew = w24 at *
    refine tk 0 14 (lv0) rfl rfl (fun _ hw => run_mv rfl rfl) (⟨hm23.at 1 rfl, ((hm23.see 0 rfl))⟩) ?_
    simp only [nz1, nz2, nz3]
    refine tk 1 15 (.int .i64 ((x7 : Nat) : Int)) rfl rfl (fun _ hw => run_mv rfl rfl) (⟨hm23.at 1 rfl, ((hm23.see 0 rfl))⟩) ?_
    simp only [nz1, nz2, nz3]
    refine tk 2 16 (.pointer (some ⟨(bk lv0), (po lv0 + x7 * 5), none⟩)) rfl rfl (fun _ hw => r_ixv ((hm23.see 0 rfl)).rd x7 (by omega) Tryd.underlying22 sz_37 rfl rfl rfl) (⟨hm23.at 1 rfl, ((hm23.see 0 rfl))⟩) ?_
    simp only [nz1, nz2, nz3]
    refine tk 3 17 (.pointer (some ⟨(bk lv0), ((po lv0 + x7 * 5) + 0), none⟩)) rfl rfl (fun _ hw => r_fa37_0 (bk lv0) (po lv0 + x7 * 5) rfl rfl) (⟨hm23.at 1 rfl, ((hm23.see 0 rfl))⟩) ?_
    simp only [nz1, nz2, nz3]
    refine tk 4 18 (.string (tx ((l.getD x7 dMf).name))) rfl rfl (fun _ hw => r_cellw (Rn.cell hw.2 nMf_len dMf ((Value.slice none 0 0), (Value.slice none 0 0), (Value.slice none 0 0)) x7 (by omega) 0 _ rfl) Tryd.underlying9 rfl rfl rfl) (⟨hm23.at 1 rfl, ((hm23.see 0 rfl))⟩) ?_
    simp only [nz1, nz2, nz3]
    refine tk 5 19 (.pointer (some ⟨g4, 0, none⟩)) rfl rfl (fun _ hw => r_fa24_0 g4 0 rfl rfl) (⟨hm23.at 1 rfl, ((hm23.see 0 rfl))⟩) ?_
    simp only [nz1, nz2, nz3]
    refine tk 6 20 (.string (tx r.name)) rfl rfl (fun _ hw => r_load hw.1 rfl Tryd.underlying9 rfl rfl rfl) (⟨hm23.at 1 rfl, ((hm23.see 0 rfl))⟩) ?_
    simp only [nz1, nz2, nz3]
    refine tkb 7 21 ((l.getD x7 dMf).name = r.name) rfl rfl rfl (fun _ hw => t_eql ((l.getD x7 dMf).name) r.name rfl rfl rfl) (⟨hm23.at 1 rfl, ((hm23.see 0 rfl))⟩) (fun hs25 => ?_) (fun hs25 => ?_)
    rotate_left
    · simp only [nz1, nz2, nz3]
      refine tk 8 22 (.bool false) rfl rfl (fun _ hw => run_mv rfl rfl) (⟨hm23.at 1 rfl, ((hm23.see 0 rfl))⟩) ?_
      simp only [nz1, nz2, nz3]
      refine skx 9 23 rfl rfl rfl (⟨hm23.at 1 rfl, ((hm23.see 0 rfl))⟩) ?_
      simp only [nz1, nz2, nz3]
      refine skx 10 24 rfl rfl rfl (⟨hm23.at 1 rfl, ((hm23.see 0 rfl))⟩) ?_
      simp only [nz1, nz2, nz3]
      refine skx 11 25 rfl rfl rfl (⟨hm23.at 1 rfl, ((hm23.see 0 rfl))⟩) ?_
      simp only [nz1, nz2, nz3]
      refine skx 12 26 rfl rfl rfl (⟨hm23.at 1 rfl, ((hm23.see 0 rfl))⟩) ?_
      simp only [nz1, nz2, nz3]
      refine skx 13 27 rfl rfl rfl (⟨hm23.at 1 rfl, ((hm23.see 0 rfl))⟩) ?_
      simp only [nz1, nz2, nz3]
      refine skx 14 28 rfl rfl rfl (⟨hm23.at 1 rfl, ((hm23.see 0 rfl))⟩) ?_
      simp only [nz1, nz2, nz3]
      refine skx 15 29 rfl rfl rfl (⟨hm23.at 1 rfl, ((hm23.see 0 rfl))⟩) ?_
      simp only [nz1, nz2, nz3]
      refine tk 16 30 (.bool false) rfl rfl (fun _ hw => run_pickf rfl rfl rfl) (⟨hm23.at 1 rfl, ((hm23.see 0 rfl))⟩) ?_
      simp only [nz1, nz2, nz3]
      refine tk 17 31 (.bool false) rfl rfl (fun _ hw => run_mv rfl rfl) (⟨hm23.at 1 rfl, ((hm23.see 0 rfl))⟩) ?_
      simp only [nz1, nz2, nz3]
      refine skx 18 32 rfl rfl rfl (⟨hm23.at 1 rfl, ((hm23.see 0 rfl))⟩) ?_
      simp only [nz1, nz2, nz3]
      refine skx 19 33 rfl rfl rfl (⟨hm23.at 1 rfl, ((hm23.see 0 rfl))⟩) ?_
      simp only [nz1, nz2, nz3]
      refine skx 20 34 rfl rfl rfl (⟨hm23.at 1 rfl, ((hm23.see 0 rfl))⟩) ?_
      simp only [nz1, nz2, nz3]
      refine skx 21 35 rfl rfl rfl (⟨hm23.at 1 rfl, ((hm23.see 0 rfl))⟩) ?_
      simp only [nz1, nz2, nz3]
      refine skx 22 36 rfl rfl rfl (⟨hm23.at 1 rfl, ((hm23.see 0 rfl))⟩) ?_
      simp only [nz1, nz2, nz3]
      refine skx 23 37 rfl rfl rfl (⟨hm23.at 1 rfl, ((hm23.see 0 rfl))⟩) ?_
      simp only [nz1, nz2, nz3]
      refine skx 24 38 rfl rfl rfl (⟨hm23.at 1 rfl, ((hm23.see 0 rfl))⟩) ?_
      simp only [nz1, nz2, nz3]
      refine tk 25 39 (.bool false) rfl rfl (fun _ hw => run_pickf rfl rfl rfl) (⟨hm23.at 1 rfl, ((hm23.see 0 rfl))⟩) ?_
      simp only [nz1, nz2, nz3]
      refine wpAnyH_done (by kernel_rfl) ?_ _
      refine then_n (hK22 _ _ ?_)
      refine cond_f rfl ?_
      refine wp_skip ?_
      refine blk_n ?_
      refine then_n (hK21 _ _ ?_)
      refine wp_region_lit ?_
      refine lvw 12 (.int .i64 ((x7 : Nat) : Int)) rfl rfl (run_mv rfl rfl) ?_
      simp only [nz1, nz2, nz3]
      refine lvw 13 (.int .i64 (((x7 + 1) : Nat) : Int)) rfl rfl (r_add x7 1 (show (x7 + 1) < 9223372036854775808 from by omega) rfl rfl rfl) ?_
      simp only [nz1, nz2, nz3]
      refine lvw 7 (.int .i64 (((x7 + 1) : Nat) : Int)) rfl rfl (run_as rfl rfl) ?_
      simp only [nz1, nz2, nz3]
      refine wpList_nil ?_
      refine then_n (hR15 _ _ _ ⟨k9, (x7 + 1), (fun qq => bif Nat.blt qq 24 then List.getD [u0 0, .int .i64 ((x7 : Nat) : Int), lv0, .int .i64 ((l.length : Nat) : Int), .bool (decide (x7 < l.length)), .int .i64 ((x7 : Nat) : Int), .int .i64 (((x7 + 1) : Nat) : Int), lv0, .int .i64 ((x7 : Nat) : Int), .pointer (some ⟨(bk lv0), (po lv0 + x7 * 5), none⟩), .pointer (some ⟨(bk lv0), ((po lv0 + x7 * 5) + 0), none⟩), .string (tx ((l.getD x7 dMf).name)), .pointer (some ⟨g4, 0, none⟩), .string (tx r.name), .bool false, .bool false, undef, undef, undef, undef, undef, undef, undef, .bool false] qq undef else List.getD [.bool false, undef, undef, undef, undef, undef, undef, undef, .bool false] (qq - 24) undef), rfl, (by first | omega | (simp; omega) | (simp at *; omega)), (hi10.trans (show rmeets_m_b0 l r but (rmeets_m_l0 l r but k9) x7 = rmeets_m_l0 l r but k9 (x7 + 1) from by unfold rmeets_m_b0; rw [if_pos hc20, if_neg hs25] <;> rfl)), rfl, hm23⟩ ?_)
      omega
    simp only [nz1, nz2, nz3]
    refine tk 8 22 (.bool true) rfl rfl (fun _ hw => run_mv rfl rfl) (⟨hm23.at 1 rfl, ((hm23.see 0 rfl))⟩) ?_
    simp only [nz1, nz2, nz3]
    refine Sym.take_at 9 23 (lv0) rfl rfl (by kernel_rfl) (by kernel_rfl) (by kernel_rfl) (fun _ _ _ h => h) rfl (fun _ hw => run_mv rfl rfl) (⟨hm23.at 1 rfl, ((hm23.see 0 rfl))⟩) ?_
    simp only [nz1, nz2, nz3]
    refine Sym.take_at 10 24 (.int .i64 ((x7 : Nat) : Int)) rfl rfl (by kernel_rfl) (by kernel_rfl) (by kernel_rfl) (fun _ _ _ h => h) rfl (fun _ hw => run_mv rfl rfl) (⟨hm23.at 1 rfl, ((hm23.see 0 rfl))⟩) ?_
    simp only [nz1, nz2, nz3]
    refine Sym.take_at 11 25 (.pointer (some ⟨(bk lv0), (po lv0 + x7 * 5), none⟩)) rfl rfl (by kernel_rfl) (by kernel_rfl) (by kernel_rfl) (fun _ _ _ h => h) rfl (fun _ hw => r_ixv ((hm23.see 0 rfl)).rd x7 (by omega) Tryd.underlying22 sz_37 rfl rfl rfl) (⟨hm23.at 1 rfl, ((hm23.see 0 rfl))⟩) ?_
    simp only [nz1, nz2, nz3]
    refine Sym.take_at 12 26 (.pointer (some ⟨(bk lv0), ((po lv0 + x7 * 5) + 0), none⟩)) rfl rfl (by kernel_rfl) (by kernel_rfl) (by kernel_rfl) (fun _ _ _ h => h) rfl (fun _ hw => r_fa37_0 (bk lv0) (po lv0 + x7 * 5) rfl rfl) (⟨hm23.at 1 rfl, ((hm23.see 0 rfl))⟩) ?_
    simp only [nz1, nz2, nz3]
    refine Sym.take_at 13 27 (.string (tx ((l.getD x7 dMf).name))) rfl rfl (by kernel_rfl) (by kernel_rfl) (by kernel_rfl) (fun _ _ _ h => h) rfl (fun _ hw => r_cellw (Rn.cell hw.2 nMf_len dMf ((Value.slice none 0 0), (Value.slice none 0 0), (Value.slice none 0 0)) x7 (by omega) 0 _ rfl) Tryd.underlying9 rfl rfl rfl) (⟨hm23.at 1 rfl, ((hm23.see 0 rfl))⟩) ?_
    simp only [nz1, nz2, nz3]
    refine Sym.take_at 14 28 (.string (tx but)) rfl rfl (by kernel_rfl) (by kernel_rfl) (by kernel_rfl) (fun _ _ _ h => h) rfl (fun _ hw => run_mv rfl rfl) (⟨hm23.at 1 rfl, ((hm23.see 0 rfl))⟩) ?_
    simp only [nz1, nz2, nz3]
    refine tkb 15 29 (¬ (l.getD x7 dMf).name = but) rfl rfl rfl (fun _ hw => t_neq ((l.getD x7 dMf).name) but rfl rfl rfl) (⟨hm23.at 1 rfl, ((hm23.see 0 rfl))⟩) (fun hs26 => ?_) (fun hs26 => ?_)
    rotate_left
    · simp only [nz1, nz2, nz3]
      refine tk 16 30 (.bool false) rfl rfl (fun _ hw => run_pick rfl rfl rfl) (⟨hm23.at 1 rfl, ((hm23.see 0 rfl))⟩) ?_
      simp only [nz1, nz2, nz3]
      refine tk 17 31 (.bool false) rfl rfl (fun _ hw => run_mv rfl rfl) (⟨hm23.at 1 rfl, ((hm23.see 0 rfl))⟩) ?_
      simp only [nz1, nz2, nz3]
      refine skx 18 32 rfl rfl rfl (⟨hm23.at 1 rfl, ((hm23.see 0 rfl))⟩) ?_
      simp only [nz1, nz2, nz3]
      refine skx 19 33 rfl rfl rfl (⟨hm23.at 1 rfl, ((hm23.see 0 rfl))⟩) ?_
      simp only [nz1, nz2, nz3]
      refine skx 20 34 rfl rfl rfl (⟨hm23.at 1 rfl, ((hm23.see 0 rfl))⟩) ?_
      simp only [nz1, nz2, nz3]
      refine skx 21 35 rfl rfl rfl (⟨hm23.at 1 rfl, ((hm23.see 0 rfl))⟩) ?_
      simp only [nz1, nz2, nz3]
      refine skx 22 36 rfl rfl rfl (⟨hm23.at 1 rfl, ((hm23.see 0 rfl))⟩) ?_
      simp only [nz1, nz2, nz3]
      refine skx 23 37 rfl rfl rfl (⟨hm23.at 1 rfl, ((hm23.see 0 rfl))⟩) ?_
      simp only [nz1, nz2, nz3]
      refine skx 24 38 rfl rfl rfl (⟨hm23.at 1 rfl, ((hm23.see 0 rfl))⟩) ?_
      simp only [nz1, nz2, nz3]
      refine tk 25 39 (.bool false) rfl rfl (fun _ hw => run_pickf rfl rfl rfl) (⟨hm23.at 1 rfl, ((hm23.see 0 rfl))⟩) ?_
      simp only [nz1, nz2, nz3]
      refine wpAnyH_done (by kernel_rfl) ?_ _
      refine then_n (hK22 _ _ ?_)
      refine cond_f rfl ?_
      refine wp_skip ?_
      refine blk_n ?_
      refine then_n (hK21 _ _ ?_)
      refine wp_region_lit ?_
      refine lvw 12 (.int .i64 ((x7 : Nat) : Int)) rfl rfl (run_mv rfl rfl) ?_
      simp only [nz1, nz2, nz3]
      refine lvw 13 (.int .i64 (((x7 + 1) : Nat) : Int)) rfl rfl (r_add x7 1 (show (x7 + 1) < 9223372036854775808 from by omega) rfl rfl rfl) ?_
      simp only [nz1, nz2, nz3]
      refine lvw 7 (.int .i64 (((x7 + 1) : Nat) : Int)) rfl rfl (run_as rfl rfl) ?_
      simp only [nz1, nz2, nz3]
      refine wpList_nil ?_
      refine then_n (hR15 _ _ _ ⟨k9, (x7 + 1), (fun qq => bif Nat.blt qq 24 then List.getD [u0 0, .int .i64 ((x7 : Nat) : Int), lv0, .int .i64 ((l.length : Nat) : Int), .bool (decide (x7 < l.length)), .int .i64 ((x7 : Nat) : Int), .int .i64 (((x7 + 1) : Nat) : Int), lv0, .int .i64 ((x7 : Nat) : Int), .pointer (some ⟨(bk lv0), (po lv0 + x7 * 5), none⟩), .pointer (some ⟨(bk lv0), ((po lv0 + x7 * 5) + 0), none⟩), .string (tx ((l.getD x7 dMf).name)), .pointer (some ⟨g4, 0, none⟩), .string (tx r.name), .bool true, .bool true, lv0, .int .i64 ((x7 : Nat) : Int), .pointer (some ⟨(bk lv0), (po lv0 + x7 * 5), none⟩), .pointer (some ⟨(bk lv0), ((po lv0 + x7 * 5) + 0), none⟩), .string (tx ((l.getD x7 dMf).name)), .string (tx but), .bool false, .bool false] qq undef else List.getD [.bool false, undef, undef, undef, undef, undef, undef, undef, .bool false] (qq - 24) undef), rfl, (by first | omega | (simp; omega) | (simp at *; omega)), (hi10.trans (show rmeets_m_b0 l r but (rmeets_m_l0 l r but k9) x7 = rmeets_m_l0 l r but k9 (x7 + 1) from by unfold rmeets_m_b0; rw [if_pos hc20, if_pos hs25, if_neg hs26] <;> rfl)), rfl, hm23⟩ ?_)
      omega
    simp only [nz1, nz2, nz3]
    refine tk 16 30 (.bool true) rfl rfl (fun _ hw => run_pick rfl rfl rfl) (⟨hm23.at 1 rfl, ((hm23.see 0 rfl))⟩) ?_
    simp only [nz1, nz2, nz3]
    refine tk 17 31 (.bool true) rfl rfl (fun _ hw => run_mv rfl rfl) (⟨hm23.at 1 rfl, ((hm23.see 0 rfl))⟩) ?_
    simp only [nz1, nz2, nz3]
    refine Sym.take_at 18 32 (.agg #[.string (tx r.name), .int .i64 (r.op), .string (tx r.version)]) rfl rfl (by kernel_rfl) (by kernel_rfl) (by kernel_rfl) (fun _ _ _ h => h) rfl (fun _ hw => r_whole hw.1 Tryd.underlying24 rfl (by exact sz_24) rfl rfl) (⟨hm23.at 1 rfl, ((hm23.see 0 rfl))⟩) ?_
    simp only [nz1, nz2, nz3]
    refine Sym.take_at 19 33 (lv0) rfl rfl (by kernel_rfl) (by kernel_rfl) (by kernel_rfl) (fun _ _ _ h => h) rfl (fun _ hw => run_mv rfl rfl) (⟨hm23.at 1 rfl, ((hm23.see 0 rfl))⟩) ?_
    simp only [nz1, nz2, nz3]
    refine Sym.take_at 20 34 (.int .i64 ((x7 : Nat) : Int)) rfl rfl (by kernel_rfl) (by kernel_rfl) (by kernel_rfl) (fun _ _ _ h => h) rfl (fun _ hw => run_mv rfl rfl) (⟨hm23.at 1 rfl, ((hm23.see 0 rfl))⟩) ?_
    simp only [nz1, nz2, nz3]
    refine Sym.take_at 21 35 (.pointer (some ⟨(bk lv0), (po lv0 + x7 * 5), none⟩)) rfl rfl (by kernel_rfl) (by kernel_rfl) (by kernel_rfl) (fun _ _ _ h => h) rfl (fun _ hw => r_ixv ((hm23.see 0 rfl)).rd x7 (by omega) Tryd.underlying22 sz_37 rfl rfl rfl) (⟨hm23.at 1 rfl, ((hm23.see 0 rfl))⟩) ?_
    simp only [nz1, nz2, nz3]
    refine Sym.take_at 22 36 (.pointer (some ⟨(bk lv0), ((po lv0 + x7 * 5) + 1), none⟩)) rfl rfl (by kernel_rfl) (by kernel_rfl) (by kernel_rfl) (fun _ _ _ h => h) rfl (fun _ hw => r_fa37_1 (bk lv0) (po lv0 + x7 * 5) rfl rfl) (⟨hm23.at 1 rfl, ((hm23.see 0 rfl))⟩) ?_
    simp only [nz1, nz2, nz3]
    refine Sym.take_at 23 37 (.string (tx ((l.getD x7 dMf).version))) rfl rfl (by kernel_rfl) (by kernel_rfl) (by kernel_rfl) (fun _ _ _ h => h) rfl (fun _ hw => r_cellw (Rn.cell hw.2 nMf_len dMf ((Value.slice none 0 0), (Value.slice none 0 0), (Value.slice none 0 0)) x7 (by omega) 1 _ rfl) Tryd.underlying9 rfl rfl rfl) (⟨hm23.at 1 rfl, ((hm23.see 0 rfl))⟩) ?_
    simp only [nz1, nz2, nz3]
    refine one_ready 24 (by kernel_rfl) ?_
    refine opd rfl rfl (m_call hm23 38 (.bool ((rholds_m r ((l.getD x7 dMf).version)))) rfl (run_rholds rfl rfl rfl) (rholds_any r ((l.getD x7 dMf).version)  _  ) (fun w27 (hm28 : Mm none (fun _ => True) w w27 [.see (Rn nMf 5 MfN l lv1 lv0) Fl, .blk g4 #[.string (tx r.name), .int .i64 (r.op), .string (tx r.version)] 24]) => ?_))
    refine ⟨⟨hm28.at 1 rfl, ((hm28.see 0 rfl))⟩, ?_⟩
    simp only [nz1, nz2, nz3]
    refine tk 25 39 (.bool ((rholds_m r ((l.getD x7 dMf).version)))) rfl rfl (fun _ hw => run_pick rfl rfl rfl) (⟨hm28.at 1 rfl, ((hm28.see 0 rfl))⟩) ?_
    simp only [nz1, nz2, nz3]
    refine wpAnyH_done (by kernel_rfl) ?_ _
    refine then_n (hK22 _ _ ?_)
    refine cond_B (rholds_m r ((l.getD x7 dMf).version)) rfl (fun hc29 => ?_) (fun hc29 => ?_)
    rotate_left
    · refine wp_skip ?_
      refine blk_n ?_
      refine then_n (hK21 _ _ ?_)
      refine wp_region_lit ?_
      refine lvw 12 (.int .i64 ((x7 : Nat) : Int)) rfl rfl (run_mv rfl rfl) ?_
      simp only [nz1, nz2, nz3]
      refine lvw 13 (.int .i64 (((x7 + 1) : Nat) : Int)) rfl rfl (r_add x7 1 (show (x7 + 1) < 9223372036854775808 from by omega) rfl rfl rfl) ?_
      simp only [nz1, nz2, nz3]
      refine lvw 7 (.int .i64 (((x7 + 1) : Nat) : Int)) rfl rfl (run_as rfl rfl) ?_
      simp only [nz1, nz2, nz3]
      refine wpList_nil ?_
      refine then_n (hR15 _ _ _ ⟨k9, (x7 + 1), (fun qq => bif Nat.blt qq 24 then List.getD [u0 0, .int .i64 ((x7 : Nat) : Int), lv0, .int .i64 ((l.length : Nat) : Int), .bool (decide (x7 < l.length)), .int .i64 ((x7 : Nat) : Int), .int .i64 (((x7 + 1) : Nat) : Int), lv0, .int .i64 ((x7 : Nat) : Int), .pointer (some ⟨(bk lv0), (po lv0 + x7 * 5), none⟩), .pointer (some ⟨(bk lv0), ((po lv0 + x7 * 5) + 0), none⟩), .string (tx ((l.getD x7 dMf).name)), .pointer (some ⟨g4, 0, none⟩), .string (tx r.name), .bool true, .bool true, lv0, .int .i64 ((x7 : Nat) : Int), .pointer (some ⟨(bk lv0), (po lv0 + x7 * 5), none⟩), .pointer (some ⟨(bk lv0), ((po lv0 + x7 * 5) + 0), none⟩), .string (tx ((l.getD x7 dMf).name)), .string (tx but), .bool true, .bool true] qq undef else List.getD [.bool true, .agg #[.string (tx r.name), .int .i64 (r.op), .string (tx r.version)], lv0, .int .i64 ((x7 : Nat) : Int), .pointer (some ⟨(bk lv0), (po lv0 + x7 * 5), none⟩), .pointer (some ⟨(bk lv0), ((po lv0 + x7 * 5) + 1), none⟩), .string (tx ((l.getD x7 dMf).version)), .bool ((rholds_m r ((l.getD x7 dMf).version))), .bool ((rholds_m r ((l.getD x7 dMf).version)))] (qq - 24) undef), rfl, (by first | omega | (simp; omega) | (simp at *; omega)), (hi10.trans (show rmeets_m_b0 l r but (rmeets_m_l0 l r but k9) x7 = rmeets_m_l0 l r but k9 (x7 + 1) from by unfold rmeets_m_b0; rw [if_pos hc20, if_pos hs25, if_pos hs26, if_neg hc29] <;> rfl)), rfl, hm28⟩ ?_)
      omega
    refine wp_seq_k (fun K30 hK30 => ?_)
    refine wp_region_lit ?_
    refine lvw 6 (.bool true) rfl rfl (run_as rfl rfl) ?_
    simp only [nz1, nz2, nz3]
    refine wpList_nil ?_
    refine then_n (hK30 _ _ ?_)
    refine wp_ret ?_
    refine blk_r ?_
    refine then_r ?_
    refine then_r ?_
    refine blk_r ?_
    refine then_r ?_
    refine then_r ?_
    have he31 : rmeets_m_l0 l r but ((l.length - 0) + 1) 0 = .inr true := (hi10.trans (show rmeets_m_b0 l r but (rmeets_m_l0 l r but k9) x7 = .inr true from by unfold rmeets_m_b0; rw [if_pos hc20, if_pos hs25, if_pos hs26, if_pos hc29] <;> rfl))
    have he32 : rmeets_m l r but = true := (show rmeets_m l r but = true from by unfold rmeets_m; rw [he31] <;> rfl)
    exact ⟨rfl, .bool true, res_t rfl rfl, ⟨by (rw [he32]; try rfl), hm28.below⟩⟩
  rintro _ w33 ⟨y11, yu0, hx12, rfl, hm34⟩
  have hq35 : rmeets_m l r but = rmeets_m_k0 l r but y11 := (show rmeets_m l r but = rmeets_m_k0 l r but y11 from by unfold rmeets_m; rw [hx12] <;> rfl)
  refine then_n (hK5 _ _ ?_)
  refine wp_seq_k (fun K36 hK36 => ?_)
  refine wp_region_lit ?_
  refine lvw 6 (.bool false) rfl rfl (run_as rfl rfl) ?_
  simp only [nz1, nz2, nz3]
  refine wpList_nil ?_
  refine then_n (hK36 _ _ ?_)
  refine wp_ret ?_
  have he37 : rmeets_m l r but = false := (hq35.trans (show rmeets_m_k0 l r but y11 = false from by unfold rmeets_m_k0; rfl))
  exact ⟨rfl, .bool false, res_t rfl rfl, ⟨by (rw [he37]; try rfl), hm34.below⟩⟩
theorem run_rmeets {o : Oper} {a : Act} {w : World} {x0 x1 x2 : Operand} {v0 v1 v2 : Value} (ho : o.op = .call { callee := .value (.func 17), args := #[x0, x1, x2], argTypes := #[22, 24, 9] }) (h0 : a.eval x0 = v0) (h1 : a.eval x1 = v1) (h2 : a.eval x2 = v2) :
    (execOp a.eval o).run Tryd.prog w = .ok (.enter 17 #[v0, v1, v2]) w := by
  unfold execOp
  simp only [ho]
  have hf : a.eval (.func 17) = .func (.func 17) #[] #[] := rfl
  generalize a.eval = f at *
  go_simp
def rlacks_m_b1 (l : List Mf) (l7 : List Rul) (x9 : Nat) (rec : (List Rul) × Nat → Sum ((List Rul) × Nat) ((List Rul))) (l27 : List Rul) (x29 : Nat) : Sum ((List Rul) × Nat) ((List Rul)) :=
  if x29 < ((l.getD x9 dMf).needs).length then
    if (!(rmeets_m l (((l.getD x9 dMf).needs).getD x29 dRul) ([]))) = true then
      rec ((l27 ++ [(((l.getD x9 dMf).needs).getD x29 dRul)]), (x29 + 1))
    else
      rec (l27, (x29 + 1))
  else
    .inl (l27, x29)
def rlacks_m_l1 (l : List Mf) (l7 : List Rul) (x9 : Nat) : Nat → (List Rul) × Nat → Sum ((List Rul) × Nat) ((List Rul))
  | 0, zz => .inl zz
  | nq + 1, zz => rlacks_m_b1 l l7 x9 (rlacks_m_l1 l l7 x9 nq) zz.1 zz.2

def rlacks_m_k1 (l : List Mf) (l7 : List Rul) (x9 : Nat) (rec : (List Rul) × Nat → Sum ((List Rul) × Nat) ((List Rul))) (y33 : List Rul) (y35 : Nat) : Sum ((List Rul) × Nat) ((List Rul)) :=
  rec (y33, (x9 + 1))

def rlacks_m_b0 (l : List Mf) (rec : (List Rul) × Nat → Sum ((List Rul) × Nat) ((List Rul))) (l7 : List Rul) (x9 : Nat) : Sum ((List Rul) × Nat) ((List Rul)) :=
  if x9 < l.length then
    fin (rlacks_m_l1 l l7 x9 ((((l.getD x9 dMf).needs).length - 0) + 1) (l7, 0)) .inr (fun zz => rlacks_m_k1 l l7 x9 rec zz.1 zz.2)
  else
    .inl (l7, x9)
def rlacks_m_l0 (l : List Mf) : Nat → (List Rul) × Nat → Sum ((List Rul) × Nat) ((List Rul))
  | 0, zz => .inl zz
  | nq + 1, zz => rlacks_m_b0 l (rlacks_m_l0 l nq) zz.1 zz.2

def rlacks_m_k0 (l : List Mf) (y13 : List Rul) (y15 : Nat) : (List Rul) :=
  y13

def rlacks_m (l : List Mf) : (List Rul) :=
  fin (rlacks_m_l0 l ((l.length - 0) + 1) (([] : List Rul), 0)) (fun r => r) (fun zz => rlacks_m_k0 l zz.1 zz.2)

set_option maxHeartbeats 4000000 in
set_option maxRecDepth 100000 in
theorem rlacks_any (l : List Mf) (lv0 : Value) (lv1 : List (Value × Value × Value)) (w : World) (hl : Rn nMf 5 MfN l lv1 lv0 w) (hp0 : l.length ≤ 100000) (hp1 : okl l) : Calls Tryd.prog 11 #[lv0] w (fun e w' => (∃ v, e = .returned v ∧ ∃ o0 : Value, v = o0 ∧ w'.ownsRow w.heap.size 24 3 o0 (rlacks_m l).length ((rlacks_m l).flatMap eRul)) ∧ Below w.heap.size w w') := by
  go_enter Tryd.func11, Tryd.ntmps11
  have hm00 := Mm.nil none (fun _ => True) w
  obtain ⟨Fl, hm01⟩ : ∃ Fl, Mm none (fun _ => True) w w [.see (Rn nMf 5 MfN l lv1 lv0) Fl] := hm00.come ((Rn.all MfN_all) hl)
  have hm0 := hm01
  refine wp_seq_k (fun K1 hK1 => ?_)
  refine wp_region_lit ?_
  refine lvw 2 (.slice none 0 0) rfl rfl (run_as rfl rfl) ?_
  simp only [nz1, nz2, nz3]
  refine wpList_nil ?_
  refine then_n (hK1 _ _ ?_)
  refine wp_seq_k (fun K2 hK2 => ?_)
  refine wp_region_lit ?_
  refine lvw 3 (.slice none 0 0) rfl rfl (run_as rfl rfl) ?_
  simp only [nz1, nz2, nz3]
  refine wpList_nil ?_
  refine then_n (hK2 _ _ ?_)
  refine wp_seq_k (fun K3 hK3 => ?_)
  refine wp_seq_k (fun K4 hK4 => ?_)
  refine wp_region_lit ?_
  refine lvw 4 (.int .i64 0) rfl rfl (run_as rfl rfl) ?_
  simp only [nz1, nz2, nz3]
  refine wpList_nil ?_
  refine then_n (hK4 _ _ ?_)
  have hm6 : Mm none (fun _ => True) w w [.see (Rn nMf 5 MfN l lv1 lv0) Fl, .row (.slice none 0 0) ([] : List Rul).length (([] : List Rul).flatMap eRul) 24 3] := hm0.nilrow 24 3
  refine wp_cutK (fun a' w' => ∃ (y13 : List Rul) (y15 : Nat) (v14 : Value) (yu0 : Nat → Value), rlacks_m_l0 l ((l.length - 0) + 1) (([] : List Rul), 0) = .inl (y13, y15) ∧ (y13.length ≤ 6710887 * y15 ∧ y15 ≤ l.length) ∧ a' = ⟨#[lv0, undef, .slice none 0 0, v14, .int .i64 ((y15 : Nat) : Int), yu0 0, yu0 1, yu0 2, yu0 3, yu0 4, yu0 5, yu0 6, yu0 7, yu0 8, yu0 9, yu0 10, yu0 11, yu0 12, yu0 13, yu0 14, yu0 15, yu0 16, yu0 17, yu0 18, yu0 19, yu0 20, yu0 21, yu0 22, yu0 23, yu0 24, yu0 25, yu0 26, yu0 27, yu0 28, yu0 29, yu0 30, yu0 31, yu0 32, yu0 33, yu0 34, yu0 35, yu0 36, yu0 37, yu0 38, undef], []⟩ ∧ Mm none (fun _ => True) w w' [.see (Rn nMf 5 MfN l lv1 lv0) Fl, .row v14 y13.length (y13.flatMap eRul) 24 3]) ?_ ?_
  · refine wp_block ?_
    refine wp_loop_n (fun n' a' w' => ∃ (n10 : Nat) (l7 : List Rul) (x9 : Nat) (v8 : Value) (u0 : Nat → Value), n' = n10 ∧ (l.length - x9) < n10 ∧ rlacks_m_l0 l ((l.length - 0) + 1) (([] : List Rul), 0) = rlacks_m_l0 l n10 (l7, x9) ∧ (l7.length ≤ 6710887 * x9 ∧ x9 ≤ l.length) ∧ a' = ⟨#[lv0, undef, .slice none 0 0, v8, .int .i64 ((x9 : Nat) : Int), u0 0, u0 1, u0 2, u0 3, u0 4, u0 5, u0 6, u0 7, u0 8, u0 9, u0 10, u0 11, u0 12, u0 13, u0 14, u0 15, u0 16, u0 17, u0 18, u0 19, u0 20, u0 21, u0 22, u0 23, u0 24, u0 25, u0 26, u0 27, u0 28, u0 29, u0 30, u0 31, u0 32, u0 33, u0 34, u0 35, u0 36, u0 37, u0 38, undef], []⟩ ∧ Mm none (fun _ => True) w w' [.see (Rn nMf 5 MfN l lv1 lv0) Fl, .row v8 l7.length (l7.flatMap eRul) 24 3]) ⟨((l.length - 0) + 1), ([] : List Rul), 0, .slice none 0 0, (fun qq => bif Nat.blt qq 24 then List.getD [undef, undef, undef, undef, undef, undef, undef, undef, undef, undef, undef, undef, undef, undef, undef, undef, undef, undef, undef, undef, undef, undef, undef, undef] qq undef else List.getD [undef, undef, undef, undef, undef, undef, undef, undef, undef, undef, undef, undef, undef, undef, undef] (qq - 24) undef), rfl, Nat.lt_succ_self _, rfl, (by first | omega | (simp; done) | (simp; omega) | (simp at *; omega)), rfl, hm6⟩ ?_
    rintro n10 _ w17 ⟨_, l7, x9, v8, u0, rfl, hl21, hi12, hlo, rfl, hm18⟩ R19 hR19
    obtain ⟨k11, rfl⟩ : ∃ k, n10 = k + 1 := ⟨n10 - 1, by omega⟩
    refine wp_seq_k (fun K22 hK22 => ?_)
    refine wp_seq_k (fun K23 hK23 => ?_)
    refine wp_region_lit ?_
    refine lvw 6 (.int .i64 ((x9 : Nat) : Int)) rfl rfl (run_mv rfl rfl) ?_
    simp only [nz1, nz2, nz3]
    refine lvw 7 (lv0) rfl rfl (run_mv rfl rfl) ?_
    simp only [nz1, nz2, nz3]
    refine lvw 8 (.int .i64 ((l.length : Nat) : Int)) rfl rfl (s_len ((hm18.see 0 rfl)).rd rfl Tryd.underlying22 rfl) ?_
    simp only [nz1, nz2, nz3]
    refine lvw 9 (.bool (decide (x9 < l.length))) rfl rfl (r_lss x9 l.length rfl rfl rfl) ?_
    simp only [nz1, nz2, nz3]
    refine wpList_nil ?_
    refine then_n (hK23 _ _ ?_)
    refine cond_d (x9 < l.length) rfl (fun hc24 => ?_) (fun hc24 => ?_)
    rotate_left
    · refine wp_exit ?_
      refine then_x ?_
      refine then_x ?_
      refine blk_x ?_
      refine then_n ?_
      exact ⟨l7, x9, v8, (fun qq => bif Nat.blt qq 24 then List.getD [u0 0, .int .i64 ((x9 : Nat) : Int), lv0, .int .i64 ((l.length : Nat) : Int), .bool (decide (x9 < l.length)), u0 5, u0 6, u0 7, u0 8, u0 9, u0 10, u0 11, u0 12, u0 13, u0 14, u0 15, u0 16, u0 17, u0 18, u0 19, u0 20, u0 21, u0 22, u0 23] qq undef else List.getD [u0 24, u0 25, u0 26, u0 27, u0 28, u0 29, u0 30, u0 31, u0 32, u0 33, u0 34, u0 35, u0 36, u0 37, u0 38] (qq - 24) undef), (hi12.trans (show rlacks_m_b0 l (rlacks_m_l0 l k11) l7 x9 = .inl (l7, x9) from by unfold rlacks_m_b0; rw [if_neg hc24] <;> rfl)), (by first | omega | (simp; done) | (simp; omega) | (simp at *; omega)), rfl, hm18⟩
    refine wp_skip ?_
    refine then_n (hK22 _ _ ?_)
    refine wp_seq_k (fun K25 hK25 => ?_)
    refine wp_block ?_
    refine wp_seq_k (fun K26 hK26 => ?_)
    refine wp_region_lit ?_
    refine lvw 5 (.int .i64 0) rfl rfl (run_as rfl rfl) ?_
    simp only [nz1, nz2, nz3]
    refine wpList_nil ?_
    refine then_n (hK26 _ _ ?_)
    refine wp_cutK (fun a' w' => ∃ (y33 : List Rul) (y35 : Nat) (v34 : Value) (yu1 : Nat → Value), rlacks_m_l1 l l7 x9 ((((l.getD x9 dMf).needs).length - 0) + 1) (l7, 0) = .inl (y33, y35) ∧ (y33.length ≤ 6710887 * x9 + y35 ∧ y35 ≤ (l.getD x9 dMf).needs.length ∧ (l.getD x9 dMf).needs.length ≤ 6710887) ∧ a' = ⟨#[lv0, undef, .slice none 0 0, v34, .int .i64 ((x9 : Nat) : Int), .int .i64 ((y35 : Nat) : Int), .int .i64 ((x9 : Nat) : Int), lv0, .int .i64 ((l.length : Nat) : Int), .bool (decide (x9 < l.length)), u0 5, u0 6, yu1 0, yu1 1, yu1 2, yu1 3, yu1 4, yu1 5, yu1 6, yu1 7, yu1 8, yu1 9, yu1 10, yu1 11, yu1 12, yu1 13, yu1 14, yu1 15, yu1 16, yu1 17, yu1 18, yu1 19, yu1 20, yu1 21, yu1 22, yu1 23, yu1 24, yu1 25, yu1 26, yu1 27, yu1 28, yu1 29, yu1 30, yu1 31, undef], []⟩ ∧ Mm none (fun _ => True) w w' [.see (Rn nMf 5 MfN l lv1 lv0) Fl, .row v34 y33.length (y33.flatMap eRul) 24 3]) ?_ ?_
    · refine wp_block ?_
      refine wp_loop_n (fun n' a' w' => ∃ (n30 : Nat) (l27 : List Rul) (x29 : Nat) (v28 : Value) (u1 : Nat → Value), n' = n30 ∧ (((l.getD x9 dMf).needs).length - x29) < n30 ∧ rlacks_m_l1 l l7 x9 ((((l.getD x9 dMf).needs).length - 0) + 1) (l7, 0) = rlacks_m_l1 l l7 x9 n30 (l27, x29) ∧ (l27.length ≤ 6710887 * x9 + x29 ∧ x29 ≤ (l.getD x9 dMf).needs.length ∧ (l.getD x9 dMf).needs.length ≤ 6710887) ∧ a' = ⟨#[lv0, undef, .slice none 0 0, v28, .int .i64 ((x9 : Nat) : Int), .int .i64 ((x29 : Nat) : Int), .int .i64 ((x9 : Nat) : Int), lv0, .int .i64 ((l.length : Nat) : Int), .bool (decide (x9 < l.length)), u0 5, u0 6, u1 0, u1 1, u1 2, u1 3, u1 4, u1 5, u1 6, u1 7, u1 8, u1 9, u1 10, u1 11, u1 12, u1 13, u1 14, u1 15, u1 16, u1 17, u1 18, u1 19, u1 20, u1 21, u1 22, u1 23, u1 24, u1 25, u1 26, u1 27, u1 28, u1 29, u1 30, u1 31, undef], []⟩ ∧ Mm none (fun _ => True) w w' [.see (Rn nMf 5 MfN l lv1 lv0) Fl, .row v28 l27.length (l27.flatMap eRul) 24 3]) ⟨((((l.getD x9 dMf).needs).length - 0) + 1), l7, 0, v8, (fun qq => bif Nat.blt qq 24 then List.getD [u0 7, u0 8, u0 9, u0 10, u0 11, u0 12, u0 13, u0 14, u0 15, u0 16, u0 17, u0 18, u0 19, u0 20, u0 21, u0 22, u0 23, u0 24, u0 25, u0 26, u0 27, u0 28, u0 29, u0 30] qq undef else List.getD [u0 31, u0 32, u0 33, u0 34, u0 35, u0 36, u0 37, u0 38] (qq - 24) undef), rfl, Nat.lt_succ_self _, rfl, (by have hqn := (okl_at hp1 x9).1; exact ⟨by omega, Nat.zero_le _, hqn⟩), rfl, hm18⟩ ?_
      rintro n30 _ w37 ⟨_, l27, x29, v28, u1, rfl, hl41, hi32, hli, rfl, hm38⟩ R39 hR39
      obtain ⟨k31, rfl⟩ : ∃ k, n30 = k + 1 := ⟨n30 - 1, by omega⟩
      refine wp_seq_k (fun K42 hK42 => ?_)
      refine wp_seq_k (fun K43 hK43 => ?_)
      refine wp_region_lit ?_
      refine lvw 12 (.int .i64 ((x29 : Nat) : Int)) rfl rfl (run_mv rfl rfl) ?_
      simp only [nz1, nz2, nz3]
      refine lvw 13 (lv0) rfl rfl (run_mv rfl rfl) ?_
      simp only [nz1, nz2, nz3]
      refine lvw 14 (.int .i64 ((x9 : Nat) : Int)) rfl rfl (run_mv rfl rfl) ?_
      simp only [nz1, nz2, nz3]
      refine lvw 15 (.pointer (some ⟨(bk lv0), (po lv0 + x9 * 5), none⟩)) rfl rfl (r_ixv ((hm38.see 0 rfl)).rd x9 (by omega) Tryd.underlying22 sz_37 rfl rfl rfl) ?_
      simp only [nz1, nz2, nz3]
      refine lvw 16 (.pointer (some ⟨(bk lv0), ((po lv0 + x9 * 5) + 2), none⟩)) rfl rfl (r_fa37_2 (bk lv0) (po lv0 + x9 * 5) rfl rfl) ?_
      simp only [nz1, nz2, nz3]
      refine lvw 17 ((lv1.getD x9 ((Value.slice none 0 0), (Value.slice none 0 0), (Value.slice none 0 0))).1) rfl rfl (r_cellw (Rn.cell ((hm38.see 0 rfl)) nMf_len dMf ((Value.slice none 0 0), (Value.slice none 0 0), (Value.slice none 0 0)) x9 (by omega) 2 _ rfl) Tryd.underlying28 rfl rfl rfl) ?_
      simp only [nz1, nz2, nz3]
      refine lvw 18 (.int .i64 ((((l.getD x9 dMf).needs).length : Nat) : Int)) rfl rfl (s_len ((Rn.el ((hm38.see 0 rfl)) dMf ((Value.slice none 0 0), (Value.slice none 0 0), (Value.slice none 0 0)) x9 (by omega)).1) rfl Tryd.underlying28 rfl) ?_
      simp only [nz1, nz2, nz3]
      refine lvw 19 (.bool (decide (x29 < ((l.getD x9 dMf).needs).length))) rfl rfl (r_lss x29 (((l.getD x9 dMf).needs).length) rfl rfl rfl) ?_
      simp only [nz1, nz2, nz3]
      refine wpList_nil ?_
      refine then_n (hK43 _ _ ?_)
      refine cond_d (x29 < ((l.getD x9 dMf).needs).length) rfl (fun hc44 => ?_) (fun hc44 => ?_)
      rotate_left
      · refine wp_exit ?_
        refine then_x ?_
        refine then_x ?_
        refine blk_x ?_
        refine then_n ?_
        exact ⟨l27, x29, v28, (fun qq => bif Nat.blt qq 24 then List.getD [.int .i64 ((x29 : Nat) : Int), lv0, .int .i64 ((x9 : Nat) : Int), .pointer (some ⟨(bk lv0), (po lv0 + x9 * 5), none⟩), .pointer (some ⟨(bk lv0), ((po lv0 + x9 * 5) + 2), none⟩), (lv1.getD x9 ((Value.slice none 0 0), (Value.slice none 0 0), (Value.slice none 0 0))).1, .int .i64 ((((l.getD x9 dMf).needs).length : Nat) : Int), .bool (decide (x29 < ((l.getD x9 dMf).needs).length)), u1 8, u1 9, u1 10, u1 11, u1 12, u1 13, u1 14, u1 15, u1 16, u1 17, u1 18, u1 19, u1 20, u1 21, u1 22, u1 23] qq undef else List.getD [u1 24, u1 25, u1 26, u1 27, u1 28, u1 29, u1 30, u1 31] (qq - 24) undef), (hi32.trans (show rlacks_m_b1 l l7 x9 (rlacks_m_l1 l l7 x9 k31) l27 x29 = .inl (l27, x29) from by unfold rlacks_m_b1; rw [if_neg hc44] <;> rfl)), (by first | omega | (simp; done) | (simp; omega) | (simp at *; omega)), rfl, hm38⟩
      refine wp_skip ?_
      refine then_n (hK42 _ _ ?_)
      refine wp_seq_k (fun K45 hK45 => ?_)
      refine wp_block ?_
      refine wp_seq_k (fun K46 hK46 => ?_)
      refine wp_region_lit ?_
      refine lvw 22 (lv0) rfl rfl (run_mv rfl rfl) ?_
      simp only [nz1, nz2, nz3]
      refine lvw 23 (lv0) rfl rfl (run_mv rfl rfl) ?_
      simp only [nz1, nz2, nz3]
      refine lvw 24 (.int .i64 ((x9 : Nat) : Int)) rfl rfl (run_mv rfl rfl) ?_
      simp only [nz1, nz2, nz3]
      refine lvw 25 (.pointer (some ⟨(bk lv0), (po lv0 + x9 * 5), none⟩)) rfl rfl (r_ixv ((hm38.see 0 rfl)).rd x9 (by omega) Tryd.underlying22 sz_37 rfl rfl rfl) ?_
      simp only [nz1, nz2, nz3]
      refine lvw 26 (.pointer (some ⟨(bk lv0), ((po lv0 + x9 * 5) + 2), none⟩)) rfl rfl (r_fa37_2 (bk lv0) (po lv0 + x9 * 5) rfl rfl) ?_
      simp only [nz1, nz2, nz3]
      refine lvw 27 ((lv1.getD x9 ((Value.slice none 0 0), (Value.slice none 0 0), (Value.slice none 0 0))).1) rfl rfl (r_cellw (Rn.cell ((hm38.see 0 rfl)) nMf_len dMf ((Value.slice none 0 0), (Value.slice none 0 0), (Value.slice none 0 0)) x9 (by omega) 2 _ rfl) Tryd.underlying28 rfl rfl rfl) ?_
      simp only [nz1, nz2, nz3]
      refine lvw 28 (.int .i64 ((x29 : Nat) : Int)) rfl rfl (run_mv rfl rfl) ?_
      simp only [nz1, nz2, nz3]
      refine lvw 29 (.pointer (some ⟨(bk ((lv1.getD x9 ((Value.slice none 0 0), (Value.slice none 0 0), (Value.slice none 0 0))).1)), (po ((lv1.getD x9 ((Value.slice none 0 0), (Value.slice none 0 0), (Value.slice none 0 0))).1) + x29 * 3), none⟩)) rfl rfl (r_ixv ((Rn.el ((hm38.see 0 rfl)) dMf ((Value.slice none 0 0), (Value.slice none 0 0), (Value.slice none 0 0)) x9 (by omega)).1) x29 (by omega) Tryd.underlying28 sz_24 rfl rfl rfl) ?_
      simp only [nz1, nz2, nz3]
      refine lvw 30 (.agg #[.string (tx ((((l.getD x9 dMf).needs).getD x29 dRul).name)), .int .i64 ((((l.getD x9 dMf).needs).getD x29 dRul).op), .string (tx ((((l.getD x9 dMf).needs).getD x29 dRul).version))]) rfl rfl (r_partw (fun j u hj => Rs.cell ((Rn.el ((hm38.see 0 rfl)) dMf ((Value.slice none 0 0), (Value.slice none 0 0), (Value.slice none 0 0)) x9 (by omega)).1) eRul_len dRul x29 (by omega) j u (arr_get hj)) Tryd.underlying24 rfl (by exact sz_24) rfl rfl) ?_
      simp only [nz1, nz2, nz3]
      refine lst rfl (m_call hm38 31 (.bool ((rmeets_m l (((l.getD x9 dMf).needs).getD x29 dRul) ([])))) rfl (run_rmeets rfl rfl rfl rfl) (rmeets_any l (((l.getD x9 dMf).needs).getD x29 dRul) ([]) lv0 lv1 _ (hm38.see 0 rfl) (by first | omega | assumption | (simp; done) | (simp; omega) | (simp only [List.length_append, List.length_cons, List.length_nil]; omega) | (simp only [List.length_append, List.length_cons, List.length_nil] at *; omega) | decide)) (fun w47 (hm48 : Mm none (fun _ => True) w w47 [.see (Rn nMf 5 MfN l lv1 lv0) Fl, .row v28 l27.length (l27.flatMap eRul) 24 3]) => ?_))
      simp only [nz1, nz2, nz3]
      refine lvw 32 (.bool (!(rmeets_m l (((l.getD x9 dMf).needs).getD x29 dRul) ([])))) rfl rfl (r_not (rmeets_m l (((l.getD x9 dMf).needs).getD x29 dRul) ([])) rfl rfl) ?_
      simp only [nz1, nz2, nz3]
      refine wpList_nil ?_
      refine then_n (hK46 _ _ ?_)
      refine cond_B (!(rmeets_m l (((l.getD x9 dMf).needs).getD x29 dRul) ([]))) rfl (fun hc49 => ?_) (fun hc49 => ?_)
      rotate_left
      · refine wp_skip ?_
        refine blk_n ?_
        refine then_n (hK45 _ _ ?_)
        refine wp_region_lit ?_
        refine lvw 20 (.int .i64 ((x29 : Nat) : Int)) rfl rfl (run_mv rfl rfl) ?_
        simp only [nz1, nz2, nz3]
        refine lvw 21 (.int .i64 (((x29 + 1) : Nat) : Int)) rfl rfl (r_add x29 1 (show (x29 + 1) < 9223372036854775808 from by omega) rfl rfl rfl) ?_
        simp only [nz1, nz2, nz3]
        refine lvw 5 (.int .i64 (((x29 + 1) : Nat) : Int)) rfl rfl (run_as rfl rfl) ?_
        simp only [nz1, nz2, nz3]
        refine wpList_nil ?_
        refine then_n (hR39 _ _ _ ⟨k31, l27, (x29 + 1), v28, (fun qq => bif Nat.blt qq 24 then List.getD [.int .i64 ((x29 : Nat) : Int), lv0, .int .i64 ((x9 : Nat) : Int), .pointer (some ⟨(bk lv0), (po lv0 + x9 * 5), none⟩), .pointer (some ⟨(bk lv0), ((po lv0 + x9 * 5) + 2), none⟩), (lv1.getD x9 ((Value.slice none 0 0), (Value.slice none 0 0), (Value.slice none 0 0))).1, .int .i64 ((((l.getD x9 dMf).needs).length : Nat) : Int), .bool (decide (x29 < ((l.getD x9 dMf).needs).length)), .int .i64 ((x29 : Nat) : Int), .int .i64 (((x29 + 1) : Nat) : Int), lv0, lv0, .int .i64 ((x9 : Nat) : Int), .pointer (some ⟨(bk lv0), (po lv0 + x9 * 5), none⟩), .pointer (some ⟨(bk lv0), ((po lv0 + x9 * 5) + 2), none⟩), (lv1.getD x9 ((Value.slice none 0 0), (Value.slice none 0 0), (Value.slice none 0 0))).1, .int .i64 ((x29 : Nat) : Int), .pointer (some ⟨(bk ((lv1.getD x9 ((Value.slice none 0 0), (Value.slice none 0 0), (Value.slice none 0 0))).1)), (po ((lv1.getD x9 ((Value.slice none 0 0), (Value.slice none 0 0), (Value.slice none 0 0))).1) + x29 * 3), none⟩), .agg #[.string (tx ((((l.getD x9 dMf).needs).getD x29 dRul).name)), .int .i64 ((((l.getD x9 dMf).needs).getD x29 dRul).op), .string (tx ((((l.getD x9 dMf).needs).getD x29 dRul).version))], .bool ((rmeets_m l (((l.getD x9 dMf).needs).getD x29 dRul) ([]))), .bool (!(rmeets_m l (((l.getD x9 dMf).needs).getD x29 dRul) ([]))), u1 21, u1 22, u1 23] qq undef else List.getD [u1 24, u1 25, u1 26, u1 27, u1 28, u1 29, u1 30, u1 31] (qq - 24) undef), rfl, (by first | omega | (simp; omega) | (simp at *; omega)), (hi32.trans (show rlacks_m_b1 l l7 x9 (rlacks_m_l1 l l7 x9 k31) l27 x29 = rlacks_m_l1 l l7 x9 k31 (l27, (x29 + 1)) from by unfold rlacks_m_b1; rw [if_pos hc44, if_neg hc49] <;> rfl)), (by (try rw [List.length_append, List.length_singleton]); omega), rfl, hm48⟩ ?_)
        omega
      refine wp_region_lit ?_
      refine lvw 33 (v28) rfl rfl (run_mv rfl rfl) ?_
      simp only [nz1, nz2, nz3]
      refine lvw 34 (lv0) rfl rfl (run_mv rfl rfl) ?_
      simp only [nz1, nz2, nz3]
      refine lvw 35 (.int .i64 ((x9 : Nat) : Int)) rfl rfl (run_mv rfl rfl) ?_
      simp only [nz1, nz2, nz3]
      refine lvw 36 (.pointer (some ⟨(bk lv0), (po lv0 + x9 * 5), none⟩)) rfl rfl (r_ixv ((hm48.see 0 rfl)).rd x9 (by omega) Tryd.underlying22 sz_37 rfl rfl rfl) ?_
      simp only [nz1, nz2, nz3]
      refine lvw 37 (.pointer (some ⟨(bk lv0), ((po lv0 + x9 * 5) + 2), none⟩)) rfl rfl (r_fa37_2 (bk lv0) (po lv0 + x9 * 5) rfl rfl) ?_
      simp only [nz1, nz2, nz3]
      refine lvw 38 ((lv1.getD x9 ((Value.slice none 0 0), (Value.slice none 0 0), (Value.slice none 0 0))).1) rfl rfl (r_cellw (Rn.cell ((hm48.see 0 rfl)) nMf_len dMf ((Value.slice none 0 0), (Value.slice none 0 0), (Value.slice none 0 0)) x9 (by omega) 2 _ rfl) Tryd.underlying28 rfl rfl rfl) ?_
      simp only [nz1, nz2, nz3]
      refine lvw 39 (.int .i64 ((x29 : Nat) : Int)) rfl rfl (run_mv rfl rfl) ?_
      simp only [nz1, nz2, nz3]
      refine lvw 40 (.pointer (some ⟨(bk ((lv1.getD x9 ((Value.slice none 0 0), (Value.slice none 0 0), (Value.slice none 0 0))).1)), (po ((lv1.getD x9 ((Value.slice none 0 0), (Value.slice none 0 0), (Value.slice none 0 0))).1) + x29 * 3), none⟩)) rfl rfl (r_ixv ((Rn.el ((hm48.see 0 rfl)) dMf ((Value.slice none 0 0), (Value.slice none 0 0), (Value.slice none 0 0)) x9 (by omega)).1) x29 (by omega) Tryd.underlying28 sz_24 rfl rfl rfl) ?_
      simp only [nz1, nz2, nz3]
      refine lvw 41 (.agg #[.string (tx ((((l.getD x9 dMf).needs).getD x29 dRul).name)), .int .i64 ((((l.getD x9 dMf).needs).getD x29 dRul).op), .string (tx ((((l.getD x9 dMf).needs).getD x29 dRul).version))]) rfl rfl (r_partw (fun j u hj => Rs.cell ((Rn.el ((hm48.see 0 rfl)) dMf ((Value.slice none 0 0), (Value.slice none 0 0), (Value.slice none 0 0)) x9 (by omega)).1) eRul_len dRul x29 (by omega) j u (arr_get hj)) Tryd.underlying24 rfl (by exact sz_24) rfl rfl) ?_
      simp only [nz1, nz2, nz3]
      refine lst rfl (m_make (c := #[.string (tx ((((l.getD x9 dMf).needs).getD x29 dRul).name)), .int .i64 ((((l.getD x9 dMf).needs).getD x29 dRul).op), .string (tx ((((l.getD x9 dMf).needs).getD x29 dRul).version))]) (T := 24) (fun g => .slice (some ⟨g, 0, none⟩) 1 1) hm48 42 rfl (by unfold execOp; go_simp; try rfl) (fun g52 w50 (hm51 : Mm none (fun _ => True) w w50 [.see (Rn nMf 5 MfN l lv1 lv0) Fl, .row v28 l27.length (l27.flatMap eRul) 24 3, .blk g52 #[.string (tx ((((l.getD x9 dMf).needs).getD x29 dRul).name)), .int .i64 ((((l.getD x9 dMf).needs).getD x29 dRul).op), .string (tx ((((l.getD x9 dMf).needs).getD x29 dRul).version))] 24]) => ?_))
      simp only [nz1, nz2, nz3]
      obtain ⟨iq, hiq, hz1, hz2, hz3⟩ := inf_24
      refine lst rfl (m_appendR 1 (l := l27) (l2 := [(((l.getD x9 dMf).needs).getD x29 dRul)]) iq _ _ _ (.slice (some ⟨g52, 0, none⟩) 1 1) hm51 rfl 43 rfl rfl Tryd.underlying28 hiq hz1 hz2 hz3 eRul_len eRul_one rfl (by decide) rfl rfl (Rs.blk (l := [(((l.getD x9 dMf).needs).getD x29 dRul)]) (hm51.at 2 rfl) rfl rfl eRul_len (Nat.le_refl _)) (by first | omega | (simp; omega)) (by first | omega | (simp; omega)) (fun v55 w53 (hm54 : Mm none (fun _ => True) w w53 [.see (Rn nMf 5 MfN l lv1 lv0) Fl, .row v55 (l27 ++ [(((l.getD x9 dMf).needs).getD x29 dRul)]).length ((l27 ++ [(((l.getD x9 dMf).needs).getD x29 dRul)]).flatMap eRul) 24 3, .blk g52 #[.string (tx ((((l.getD x9 dMf).needs).getD x29 dRul).name)), .int .i64 ((((l.getD x9 dMf).needs).getD x29 dRul).op), .string (tx ((((l.getD x9 dMf).needs).getD x29 dRul).version))] 24]) => ?_))
      simp only [nz1, nz2, nz3]
      refine lvw 3 (v55) rfl rfl (run_as rfl rfl) ?_
      simp only [nz1, nz2, nz3]
      refine wpList_nil ?_
      refine blk_n ?_
      refine then_n (hK45 _ _ ?_)
      refine wp_region_lit ?_
      refine lvw 20 (.int .i64 ((x29 : Nat) : Int)) rfl rfl (run_mv rfl rfl) ?_
      simp only [nz1, nz2, nz3]
      refine lvw 21 (.int .i64 (((x29 + 1) : Nat) : Int)) rfl rfl (r_add x29 1 (show (x29 + 1) < 9223372036854775808 from by omega) rfl rfl rfl) ?_
      simp only [nz1, nz2, nz3]
      refine lvw 5 (.int .i64 (((x29 + 1) : Nat) : Int)) rfl rfl (run_as rfl rfl) ?_
      simp only [nz1, nz2, nz3]
      refine wpList_nil ?_
      refine then_n (hR39 _ _ _ ⟨k31, (l27 ++ [(((l.getD x9 dMf).needs).getD x29 dRul)]), (x29 + 1), v55, (fun qq => bif Nat.blt qq 24 then List.getD [.int .i64 ((x29 : Nat) : Int), lv0, .int .i64 ((x9 : Nat) : Int), .pointer (some ⟨(bk lv0), (po lv0 + x9 * 5), none⟩), .pointer (some ⟨(bk lv0), ((po lv0 + x9 * 5) + 2), none⟩), (lv1.getD x9 ((Value.slice none 0 0), (Value.slice none 0 0), (Value.slice none 0 0))).1, .int .i64 ((((l.getD x9 dMf).needs).length : Nat) : Int), .bool (decide (x29 < ((l.getD x9 dMf).needs).length)), .int .i64 ((x29 : Nat) : Int), .int .i64 (((x29 + 1) : Nat) : Int), lv0, lv0, .int .i64 ((x9 : Nat) : Int), .pointer (some ⟨(bk lv0), (po lv0 + x9 * 5), none⟩), .pointer (some ⟨(bk lv0), ((po lv0 + x9 * 5) + 2), none⟩), (lv1.getD x9 ((Value.slice none 0 0), (Value.slice none 0 0), (Value.slice none 0 0))).1, .int .i64 ((x29 : Nat) : Int), .pointer (some ⟨(bk ((lv1.getD x9 ((Value.slice none 0 0), (Value.slice none 0 0), (Value.slice none 0 0))).1)), (po ((lv1.getD x9 ((Value.slice none 0 0), (Value.slice none 0 0), (Value.slice none 0 0))).1) + x29 * 3), none⟩), .agg #[.string (tx ((((l.getD x9 dMf).needs).getD x29 dRul).name)), .int .i64 ((((l.getD x9 dMf).needs).getD x29 dRul).op), .string (tx ((((l.getD x9 dMf).needs).getD x29 dRul).version))], .bool ((rmeets_m l (((l.getD x9 dMf).needs).getD x29 dRul) ([]))), .bool (!(rmeets_m l (((l.getD x9 dMf).needs).getD x29 dRul) ([]))), v28, lv0, .int .i64 ((x9 : Nat) : Int)] qq undef else List.getD [.pointer (some ⟨(bk lv0), (po lv0 + x9 * 5), none⟩), .pointer (some ⟨(bk lv0), ((po lv0 + x9 * 5) + 2), none⟩), (lv1.getD x9 ((Value.slice none 0 0), (Value.slice none 0 0), (Value.slice none 0 0))).1, .int .i64 ((x29 : Nat) : Int), .pointer (some ⟨(bk ((lv1.getD x9 ((Value.slice none 0 0), (Value.slice none 0 0), (Value.slice none 0 0))).1)), (po ((lv1.getD x9 ((Value.slice none 0 0), (Value.slice none 0 0), (Value.slice none 0 0))).1) + x29 * 3), none⟩), .agg #[.string (tx ((((l.getD x9 dMf).needs).getD x29 dRul).name)), .int .i64 ((((l.getD x9 dMf).needs).getD x29 dRul).op), .string (tx ((((l.getD x9 dMf).needs).getD x29 dRul).version))], .slice (some ⟨g52, 0, none⟩) 1 1, v55] (qq - 24) undef), rfl, (by first | omega | (simp; omega) | (simp at *; omega)), (hi32.trans (show rlacks_m_b1 l l7 x9 (rlacks_m_l1 l l7 x9 k31) l27 x29 = rlacks_m_l1 l l7 x9 k31 ((l27 ++ [(((l.getD x9 dMf).needs).getD x29 dRul)]), (x29 + 1)) from by unfold rlacks_m_b1; rw [if_pos hc44, if_pos hc49] <;> rfl)), (by (try rw [List.length_append, List.length_singleton]); omega), rfl, (Mm.reorder hm54 [0, 1] (by decide) rfl)⟩ ?_)
      omega
    rintro _ w56 ⟨y33, y35, v34, yu1, hx36, hli, rfl, hm57⟩
    have hq58 : rlacks_m_l0 l ((l.length - 0) + 1) (([] : List Rul), 0) = rlacks_m_k1 l l7 x9 (rlacks_m_l0 l k11) y33 y35 := (hi12.trans (show rlacks_m_b0 l (rlacks_m_l0 l k11) l7 x9 = rlacks_m_k1 l l7 x9 (rlacks_m_l0 l k11) y33 y35 from by unfold rlacks_m_b0; rw [if_pos hc24, hx36] <;> rfl))
    refine blk_n ?_
    refine then_n (hK25 _ _ ?_)
    refine wp_region_lit ?_
    refine lvw 10 (.int .i64 ((x9 : Nat) : Int)) rfl rfl (run_mv rfl rfl) ?_
    simp only [nz1, nz2, nz3]
    refine lvw 11 (.int .i64 (((x9 + 1) : Nat) : Int)) rfl rfl (r_add x9 1 (show (x9 + 1) < 9223372036854775808 from by omega) rfl rfl rfl) ?_
    simp only [nz1, nz2, nz3]
    refine lvw 4 (.int .i64 (((x9 + 1) : Nat) : Int)) rfl rfl (run_as rfl rfl) ?_
    simp only [nz1, nz2, nz3]
    refine wpList_nil ?_
    refine then_n (hR19 _ _ _ ⟨k11, y33, (x9 + 1), v34, (fun qq => bif Nat.blt qq 24 then List.getD [.int .i64 ((y35 : Nat) : Int), .int .i64 ((x9 : Nat) : Int), lv0, .int .i64 ((l.length : Nat) : Int), .bool (decide (x9 < l.length)), .int .i64 ((x9 : Nat) : Int), .int .i64 (((x9 + 1) : Nat) : Int), yu1 0, yu1 1, yu1 2, yu1 3, yu1 4, yu1 5, yu1 6, yu1 7, yu1 8, yu1 9, yu1 10, yu1 11, yu1 12, yu1 13, yu1 14, yu1 15, yu1 16] qq undef else List.getD [yu1 17, yu1 18, yu1 19, yu1 20, yu1 21, yu1 22, yu1 23, yu1 24, yu1 25, yu1 26, yu1 27, yu1 28, yu1 29, yu1 30, yu1 31] (qq - 24) undef), rfl, (by first | omega | (simp; omega) | (simp at *; omega)), (hq58.trans (show rlacks_m_k1 l l7 x9 (rlacks_m_l0 l k11) y33 y35 = rlacks_m_l0 l k11 (y33, (x9 + 1)) from by unfold rlacks_m_k1; rfl)), (by have hqn := okl_at hp1 x9; omega), rfl, hm57⟩ ?_)
    omega
  rintro _ w59 ⟨y13, y15, v14, yu0, hx16, hlo, rfl, hm60⟩
  have hq61 : rlacks_m l = rlacks_m_k0 l y13 y15 := (show rlacks_m l = rlacks_m_k0 l y13 y15 from by unfold rlacks_m; rw [hx16] <;> rfl)
  refine then_n (hK3 _ _ ?_)
  refine wp_seq_k (fun K62 hK62 => ?_)
  refine wp_region_lit ?_
  refine lvw 44 (v14) rfl rfl (run_mv rfl rfl) ?_
  simp only [nz1, nz2, nz3]
  refine lvw 2 (v14) rfl rfl (run_as rfl rfl) ?_
  simp only [nz1, nz2, nz3]
  refine wpList_nil ?_
  refine then_n (hK62 _ _ ?_)
  refine wp_ret ?_
  have he63 : rlacks_m l = y13 := (hq61.trans (show rlacks_m_k0 l y13 y15 = y13 from by unfold rlacks_m_k0; rfl))
  exact ⟨rfl, v14, res_t rfl rfl, ⟨⟨_, rfl, v14, (by first | rfl | rw [he63]), by rw [he63]; exact hm60.gives 1 rfl⟩, hm60.below⟩⟩
theorem run_rlacks {o : Oper} {a : Act} {w : World} {x0 : Operand} {v0 : Value} (ho : o.op = .call { callee := .value (.func 11), args := #[x0], argTypes := #[22] }) (h0 : a.eval x0 = v0) :
    (execOp a.eval o).run Tryd.prog w = .ok (.enter 11 #[v0]) w := by
  unfold execOp
  simp only [ho]
  have hf : a.eval (.func 11) = .func (.func 11) #[] #[] := rfl
  generalize a.eval = f at *
  go_simp
def rclashes_m_b1 (l : List Mf) (l7 : List Rul) (x9 : Nat) (rec : (List Rul) × Nat → Sum ((List Rul) × Nat) ((List Rul))) (l27 : List Rul) (x29 : Nat) : Sum ((List Rul) × Nat) ((List Rul)) :=
  if x29 < ((l.getD x9 dMf).clashes).length then
    if (rmeets_m l (((l.getD x9 dMf).clashes).getD x29 dRul) ((l.getD x9 dMf).name)) = true then
      rec ((l27 ++ [(((l.getD x9 dMf).clashes).getD x29 dRul)]), (x29 + 1))
    else
      rec (l27, (x29 + 1))
  else
    .inl (l27, x29)
def rclashes_m_l1 (l : List Mf) (l7 : List Rul) (x9 : Nat) : Nat → (List Rul) × Nat → Sum ((List Rul) × Nat) ((List Rul))
  | 0, zz => .inl zz
  | nq + 1, zz => rclashes_m_b1 l l7 x9 (rclashes_m_l1 l l7 x9 nq) zz.1 zz.2

def rclashes_m_k1 (l : List Mf) (l7 : List Rul) (x9 : Nat) (rec : (List Rul) × Nat → Sum ((List Rul) × Nat) ((List Rul))) (y33 : List Rul) (y35 : Nat) : Sum ((List Rul) × Nat) ((List Rul)) :=
  rec (y33, (x9 + 1))

def rclashes_m_b0 (l : List Mf) (rec : (List Rul) × Nat → Sum ((List Rul) × Nat) ((List Rul))) (l7 : List Rul) (x9 : Nat) : Sum ((List Rul) × Nat) ((List Rul)) :=
  if x9 < l.length then
    fin (rclashes_m_l1 l l7 x9 ((((l.getD x9 dMf).clashes).length - 0) + 1) (l7, 0)) .inr (fun zz => rclashes_m_k1 l l7 x9 rec zz.1 zz.2)
  else
    .inl (l7, x9)
def rclashes_m_l0 (l : List Mf) : Nat → (List Rul) × Nat → Sum ((List Rul) × Nat) ((List Rul))
  | 0, zz => .inl zz
  | nq + 1, zz => rclashes_m_b0 l (rclashes_m_l0 l nq) zz.1 zz.2

def rclashes_m_k0 (l : List Mf) (y13 : List Rul) (y15 : Nat) : (List Rul) :=
  y13

def rclashes_m (l : List Mf) : (List Rul) :=
  fin (rclashes_m_l0 l ((l.length - 0) + 1) (([] : List Rul), 0)) (fun r => r) (fun zz => rclashes_m_k0 l zz.1 zz.2)

set_option maxHeartbeats 4000000 in
set_option maxRecDepth 100000 in
theorem rclashes_any (l : List Mf) (lv0 : Value) (lv1 : List (Value × Value × Value)) (w : World) (hl : Rn nMf 5 MfN l lv1 lv0 w) (hp0 : l.length ≤ 100000) (hp1 : okl l) : Calls Tryd.prog 13 #[lv0] w (fun e w' => (∃ v, e = .returned v ∧ ∃ o0 : Value, v = o0 ∧ w'.ownsRow w.heap.size 24 3 o0 (rclashes_m l).length ((rclashes_m l).flatMap eRul)) ∧ Below w.heap.size w w') := by
  go_enter Tryd.func13, Tryd.ntmps13
  have hm00 := Mm.nil none (fun _ => True) w
  obtain ⟨Fl, hm01⟩ : ∃ Fl, Mm none (fun _ => True) w w [.see (Rn nMf 5 MfN l lv1 lv0) Fl] := hm00.come ((Rn.all MfN_all) hl)
  have hm0 := hm01
  refine wp_seq_k (fun K1 hK1 => ?_)
  refine wp_region_lit ?_
  refine lvw 2 (.slice none 0 0) rfl rfl (run_as rfl rfl) ?_
  simp only [nz1, nz2, nz3]
  refine wpList_nil ?_
  refine then_n (hK1 _ _ ?_)
  refine wp_seq_k (fun K2 hK2 => ?_)
  refine wp_region_lit ?_
  refine lvw 3 (.slice none 0 0) rfl rfl (run_as rfl rfl) ?_
  simp only [nz1, nz2, nz3]
  refine wpList_nil ?_
  refine then_n (hK2 _ _ ?_)
  refine wp_seq_k (fun K3 hK3 => ?_)
  refine wp_seq_k (fun K4 hK4 => ?_)
  refine wp_region_lit ?_
  refine lvw 4 (.int .i64 0) rfl rfl (run_as rfl rfl) ?_
  simp only [nz1, nz2, nz3]
  refine wpList_nil ?_
  refine then_n (hK4 _ _ ?_)
  have hm6 : Mm none (fun _ => True) w w [.see (Rn nMf 5 MfN l lv1 lv0) Fl, .row (.slice none 0 0) ([] : List Rul).length (([] : List Rul).flatMap eRul) 24 3] := hm0.nilrow 24 3
  refine wp_cutK (fun a' w' => ∃ (y13 : List Rul) (y15 : Nat) (v14 : Value) (yu0 : Nat → Value), rclashes_m_l0 l ((l.length - 0) + 1) (([] : List Rul), 0) = .inl (y13, y15) ∧ (y13.length ≤ 6710887 * y15 ∧ y15 ≤ l.length) ∧ a' = ⟨#[lv0, undef, .slice none 0 0, v14, .int .i64 ((y15 : Nat) : Int), yu0 0, yu0 1, yu0 2, yu0 3, yu0 4, yu0 5, yu0 6, yu0 7, yu0 8, yu0 9, yu0 10, yu0 11, yu0 12, yu0 13, yu0 14, yu0 15, yu0 16, yu0 17, yu0 18, yu0 19, yu0 20, yu0 21, yu0 22, yu0 23, yu0 24, yu0 25, yu0 26, yu0 27, yu0 28, yu0 29, yu0 30, yu0 31, yu0 32, yu0 33, yu0 34, yu0 35, yu0 36, yu0 37, yu0 38, yu0 39, yu0 40, yu0 41, yu0 42, undef], []⟩ ∧ Mm none (fun _ => True) w w' [.see (Rn nMf 5 MfN l lv1 lv0) Fl, .row v14 y13.length (y13.flatMap eRul) 24 3]) ?_ ?_
  · refine wp_block ?_
    refine wp_loop_n (fun n' a' w' => ∃ (n10 : Nat) (l7 : List Rul) (x9 : Nat) (v8 : Value) (u0 : Nat → Value), n' = n10 ∧ (l.length - x9) < n10 ∧ rclashes_m_l0 l ((l.length - 0) + 1) (([] : List Rul), 0) = rclashes_m_l0 l n10 (l7, x9) ∧ (l7.length ≤ 6710887 * x9 ∧ x9 ≤ l.length) ∧ a' = ⟨#[lv0, undef, .slice none 0 0, v8, .int .i64 ((x9 : Nat) : Int), u0 0, u0 1, u0 2, u0 3, u0 4, u0 5, u0 6, u0 7, u0 8, u0 9, u0 10, u0 11, u0 12, u0 13, u0 14, u0 15, u0 16, u0 17, u0 18, u0 19, u0 20, u0 21, u0 22, u0 23, u0 24, u0 25, u0 26, u0 27, u0 28, u0 29, u0 30, u0 31, u0 32, u0 33, u0 34, u0 35, u0 36, u0 37, u0 38, u0 39, u0 40, u0 41, u0 42, undef], []⟩ ∧ Mm none (fun _ => True) w w' [.see (Rn nMf 5 MfN l lv1 lv0) Fl, .row v8 l7.length (l7.flatMap eRul) 24 3]) ⟨((l.length - 0) + 1), ([] : List Rul), 0, .slice none 0 0, (fun qq => bif Nat.blt qq 24 then List.getD [undef, undef, undef, undef, undef, undef, undef, undef, undef, undef, undef, undef, undef, undef, undef, undef, undef, undef, undef, undef, undef, undef, undef, undef] qq undef else List.getD [undef, undef, undef, undef, undef, undef, undef, undef, undef, undef, undef, undef, undef, undef, undef, undef, undef, undef, undef] (qq - 24) undef), rfl, Nat.lt_succ_self _, rfl, (by first | omega | (simp; done) | (simp; omega) | (simp at *; omega)), rfl, hm6⟩ ?_
    rintro n10 _ w17 ⟨_, l7, x9, v8, u0, rfl, hl21, hi12, hlo, rfl, hm18⟩ R19 hR19
    obtain ⟨k11, rfl⟩ : ∃ k, n10 = k + 1 := ⟨n10 - 1, by omega⟩
    refine wp_seq_k (fun K22 hK22 => ?_)
    refine wp_seq_k (fun K23 hK23 => ?_)
    refine wp_region_lit ?_
    refine lvw 6 (.int .i64 ((x9 : Nat) : Int)) rfl rfl (run_mv rfl rfl) ?_
    simp only [nz1, nz2, nz3]
    refine lvw 7 (lv0) rfl rfl (run_mv rfl rfl) ?_
    simp only [nz1, nz2, nz3]
    refine lvw 8 (.int .i64 ((l.length : Nat) : Int)) rfl rfl (s_len ((hm18.see 0 rfl)).rd rfl Tryd.underlying22 rfl) ?_
    simp only [nz1, nz2, nz3]
    refine lvw 9 (.bool (decide (x9 < l.length))) rfl rfl (r_lss x9 l.length rfl rfl rfl) ?_
    simp only [nz1, nz2, nz3]
    refine wpList_nil ?_
    refine then_n (hK23 _ _ ?_)
    refine cond_d (x9 < l.length) rfl (fun hc24 => ?_) (fun hc24 => ?_)
    rotate_left
    · refine wp_exit ?_
      refine then_x ?_
      refine then_x ?_
      refine blk_x ?_
      refine then_n ?_
      exact ⟨l7, x9, v8, (fun qq => bif Nat.blt qq 24 then List.getD [u0 0, .int .i64 ((x9 : Nat) : Int), lv0, .int .i64 ((l.length : Nat) : Int), .bool (decide (x9 < l.length)), u0 5, u0 6, u0 7, u0 8, u0 9, u0 10, u0 11, u0 12, u0 13, u0 14, u0 15, u0 16, u0 17, u0 18, u0 19, u0 20, u0 21, u0 22, u0 23] qq undef else List.getD [u0 24, u0 25, u0 26, u0 27, u0 28, u0 29, u0 30, u0 31, u0 32, u0 33, u0 34, u0 35, u0 36, u0 37, u0 38, u0 39, u0 40, u0 41, u0 42] (qq - 24) undef), (hi12.trans (show rclashes_m_b0 l (rclashes_m_l0 l k11) l7 x9 = .inl (l7, x9) from by unfold rclashes_m_b0; rw [if_neg hc24] <;> rfl)), (by first | omega | (simp; done) | (simp; omega) | (simp at *; omega)), rfl, hm18⟩
    refine wp_skip ?_
    refine then_n (hK22 _ _ ?_)
    refine wp_seq_k (fun K25 hK25 => ?_)
    refine wp_block ?_
    refine wp_seq_k (fun K26 hK26 => ?_)
    refine wp_region_lit ?_
    refine lvw 5 (.int .i64 0) rfl rfl (run_as rfl rfl) ?_
    simp only [nz1, nz2, nz3]
    refine wpList_nil ?_
    refine then_n (hK26 _ _ ?_)
    refine wp_cutK (fun a' w' => ∃ (y33 : List Rul) (y35 : Nat) (v34 : Value) (yu1 : Nat → Value), rclashes_m_l1 l l7 x9 ((((l.getD x9 dMf).clashes).length - 0) + 1) (l7, 0) = .inl (y33, y35) ∧ (y33.length ≤ 6710887 * x9 + y35 ∧ y35 ≤ (l.getD x9 dMf).clashes.length ∧ (l.getD x9 dMf).clashes.length ≤ 6710887) ∧ a' = ⟨#[lv0, undef, .slice none 0 0, v34, .int .i64 ((x9 : Nat) : Int), .int .i64 ((y35 : Nat) : Int), .int .i64 ((x9 : Nat) : Int), lv0, .int .i64 ((l.length : Nat) : Int), .bool (decide (x9 < l.length)), u0 5, u0 6, yu1 0, yu1 1, yu1 2, yu1 3, yu1 4, yu1 5, yu1 6, yu1 7, yu1 8, yu1 9, yu1 10, yu1 11, yu1 12, yu1 13, yu1 14, yu1 15, yu1 16, yu1 17, yu1 18, yu1 19, yu1 20, yu1 21, yu1 22, yu1 23, yu1 24, yu1 25, yu1 26, yu1 27, yu1 28, yu1 29, yu1 30, yu1 31, yu1 32, yu1 33, yu1 34, yu1 35, undef], []⟩ ∧ Mm none (fun _ => True) w w' [.see (Rn nMf 5 MfN l lv1 lv0) Fl, .row v34 y33.length (y33.flatMap eRul) 24 3]) ?_ ?_
    · refine wp_block ?_
      refine wp_loop_n (fun n' a' w' => ∃ (n30 : Nat) (l27 : List Rul) (x29 : Nat) (v28 : Value) (u1 : Nat → Value), n' = n30 ∧ (((l.getD x9 dMf).clashes).length - x29) < n30 ∧ rclashes_m_l1 l l7 x9 ((((l.getD x9 dMf).clashes).length - 0) + 1) (l7, 0) = rclashes_m_l1 l l7 x9 n30 (l27, x29) ∧ (l27.length ≤ 6710887 * x9 + x29 ∧ x29 ≤ (l.getD x9 dMf).clashes.length ∧ (l.getD x9 dMf).clashes.length ≤ 6710887) ∧ a' = ⟨#[lv0, undef, .slice none 0 0, v28, .int .i64 ((x9 : Nat) : Int), .int .i64 ((x29 : Nat) : Int), .int .i64 ((x9 : Nat) : Int), lv0, .int .i64 ((l.length : Nat) : Int), .bool (decide (x9 < l.length)), u0 5, u0 6, u1 0, u1 1, u1 2, u1 3, u1 4, u1 5, u1 6, u1 7, u1 8, u1 9, u1 10, u1 11, u1 12, u1 13, u1 14, u1 15, u1 16, u1 17, u1 18, u1 19, u1 20, u1 21, u1 22, u1 23, u1 24, u1 25, u1 26, u1 27, u1 28, u1 29, u1 30, u1 31, u1 32, u1 33, u1 34, u1 35, undef], []⟩ ∧ Mm none (fun _ => True) w w' [.see (Rn nMf 5 MfN l lv1 lv0) Fl, .row v28 l27.length (l27.flatMap eRul) 24 3]) ⟨((((l.getD x9 dMf).clashes).length - 0) + 1), l7, 0, v8, (fun qq => bif Nat.blt qq 24 then List.getD [u0 7, u0 8, u0 9, u0 10, u0 11, u0 12, u0 13, u0 14, u0 15, u0 16, u0 17, u0 18, u0 19, u0 20, u0 21, u0 22, u0 23, u0 24, u0 25, u0 26, u0 27, u0 28, u0 29, u0 30] qq undef else List.getD [u0 31, u0 32, u0 33, u0 34, u0 35, u0 36, u0 37, u0 38, u0 39, u0 40, u0 41, u0 42] (qq - 24) undef), rfl, Nat.lt_succ_self _, rfl, (by have hqn := (okl_at hp1 x9).2; exact ⟨by omega, Nat.zero_le _, hqn⟩), rfl, hm18⟩ ?_
      rintro n30 _ w37 ⟨_, l27, x29, v28, u1, rfl, hl41, hi32, hli, rfl, hm38⟩ R39 hR39
      obtain ⟨k31, rfl⟩ : ∃ k, n30 = k + 1 := ⟨n30 - 1, by omega⟩
      refine wp_seq_k (fun K42 hK42 => ?_)
      refine wp_seq_k (fun K43 hK43 => ?_)
      refine wp_region_lit ?_
      refine lvw 12 (.int .i64 ((x29 : Nat) : Int)) rfl rfl (run_mv rfl rfl) ?_
      simp only [nz1, nz2, nz3]
      refine lvw 13 (lv0) rfl rfl (run_mv rfl rfl) ?_
      simp only [nz1, nz2, nz3]
      refine lvw 14 (.int .i64 ((x9 : Nat) : Int)) rfl rfl (run_mv rfl rfl) ?_
      simp only [nz1, nz2, nz3]
      refine lvw 15 (.pointer (some ⟨(bk lv0), (po lv0 + x9 * 5), none⟩)) rfl rfl (r_ixv ((hm38.see 0 rfl)).rd x9 (by omega) Tryd.underlying22 sz_37 rfl rfl rfl) ?_
      simp only [nz1, nz2, nz3]
      refine lvw 16 (.pointer (some ⟨(bk lv0), ((po lv0 + x9 * 5) + 3), none⟩)) rfl rfl (r_fa37_3 (bk lv0) (po lv0 + x9 * 5) rfl rfl) ?_
      simp only [nz1, nz2, nz3]
      refine lvw 17 ((lv1.getD x9 ((Value.slice none 0 0), (Value.slice none 0 0), (Value.slice none 0 0))).2.1) rfl rfl (r_cellw (Rn.cell ((hm38.see 0 rfl)) nMf_len dMf ((Value.slice none 0 0), (Value.slice none 0 0), (Value.slice none 0 0)) x9 (by omega) 3 _ rfl) Tryd.underlying28 rfl rfl rfl) ?_
      simp only [nz1, nz2, nz3]
      refine lvw 18 (.int .i64 ((((l.getD x9 dMf).clashes).length : Nat) : Int)) rfl rfl (s_len ((Rn.el ((hm38.see 0 rfl)) dMf ((Value.slice none 0 0), (Value.slice none 0 0), (Value.slice none 0 0)) x9 (by omega)).2.1) rfl Tryd.underlying28 rfl) ?_
      simp only [nz1, nz2, nz3]
      refine lvw 19 (.bool (decide (x29 < ((l.getD x9 dMf).clashes).length))) rfl rfl (r_lss x29 (((l.getD x9 dMf).clashes).length) rfl rfl rfl) ?_
      simp only [nz1, nz2, nz3]
      refine wpList_nil ?_
      refine then_n (hK43 _ _ ?_)
      refine cond_d (x29 < ((l.getD x9 dMf).clashes).length) rfl (fun hc44 => ?_) (fun hc44 => ?_)
      rotate_left
      · refine wp_exit ?_
        refine then_x ?_
        refine then_x ?_
        refine blk_x ?_
        refine then_n ?_
        exact ⟨l27, x29, v28, (fun qq => bif Nat.blt qq 24 then List.getD [.int .i64 ((x29 : Nat) : Int), lv0, .int .i64 ((x9 : Nat) : Int), .pointer (some ⟨(bk lv0), (po lv0 + x9 * 5), none⟩), .pointer (some ⟨(bk lv0), ((po lv0 + x9 * 5) + 3), none⟩), (lv1.getD x9 ((Value.slice none 0 0), (Value.slice none 0 0), (Value.slice none 0 0))).2.1, .int .i64 ((((l.getD x9 dMf).clashes).length : Nat) : Int), .bool (decide (x29 < ((l.getD x9 dMf).clashes).length)), u1 8, u1 9, u1 10, u1 11, u1 12, u1 13, u1 14, u1 15, u1 16, u1 17, u1 18, u1 19, u1 20, u1 21, u1 22, u1 23] qq undef else List.getD [u1 24, u1 25, u1 26, u1 27, u1 28, u1 29, u1 30, u1 31, u1 32, u1 33, u1 34, u1 35] (qq - 24) undef), (hi32.trans (show rclashes_m_b1 l l7 x9 (rclashes_m_l1 l l7 x9 k31) l27 x29 = .inl (l27, x29) from by unfold rclashes_m_b1; rw [if_neg hc44] <;> rfl)), (by first | omega | (simp; done) | (simp; omega) | (simp at *; omega)), rfl, hm38⟩
      refine wp_skip ?_
      refine then_n (hK42 _ _ ?_)
      refine wp_seq_k (fun K45 hK45 => ?_)
      refine wp_block ?_
      refine wp_seq_k (fun K46 hK46 => ?_)
      have hm47 := hm38.drew
      refine wp_region_held_drew (S := fun w' => Rn nMf 5 MfN l lv1 lv0 w') (by kernel_rfl) (((hm47.see 0 rfl))) (fun _ => ?_)
      generalize w37.drew = w48 at *
      refine tk 0 22 (lv0) rfl rfl (fun _ hw => run_mv rfl rfl) ((hm47.see 0 rfl)) ?_
      simp only [nz1, nz2, nz3]
      refine tk 1 23 (lv0) rfl rfl (fun _ hw => run_mv rfl rfl) ((hm47.see 0 rfl)) ?_
      simp only [nz1, nz2, nz3]
      refine tk 2 24 (.int .i64 ((x9 : Nat) : Int)) rfl rfl (fun _ hw => run_mv rfl rfl) ((hm47.see 0 rfl)) ?_
      simp only [nz1, nz2, nz3]
      refine tk 3 25 (.pointer (some ⟨(bk lv0), (po lv0 + x9 * 5), none⟩)) rfl rfl (fun _ hw => r_ixv ((hm47.see 0 rfl)).rd x9 (by omega) Tryd.underlying22 sz_37 rfl rfl rfl) ((hm47.see 0 rfl)) ?_
      simp only [nz1, nz2, nz3]
      refine tk 4 26 (.pointer (some ⟨(bk lv0), ((po lv0 + x9 * 5) + 3), none⟩)) rfl rfl (fun _ hw => r_fa37_3 (bk lv0) (po lv0 + x9 * 5) rfl rfl) ((hm47.see 0 rfl)) ?_
      simp only [nz1, nz2, nz3]
      refine tk 5 27 ((lv1.getD x9 ((Value.slice none 0 0), (Value.slice none 0 0), (Value.slice none 0 0))).2.1) rfl rfl (fun _ hw => r_cellw (Rn.cell hw nMf_len dMf ((Value.slice none 0 0), (Value.slice none 0 0), (Value.slice none 0 0)) x9 (by omega) 3 _ rfl) Tryd.underlying28 rfl rfl rfl) ((hm47.see 0 rfl)) ?_
      simp only [nz1, nz2, nz3]
      refine tk 6 28 (.int .i64 ((x29 : Nat) : Int)) rfl rfl (fun _ hw => run_mv rfl rfl) ((hm47.see 0 rfl)) ?_
      simp only [nz1, nz2, nz3]
      refine tk 7 29 (.pointer (some ⟨(bk ((lv1.getD x9 ((Value.slice none 0 0), (Value.slice none 0 0), (Value.slice none 0 0))).2.1)), (po ((lv1.getD x9 ((Value.slice none 0 0), (Value.slice none 0 0), (Value.slice none 0 0))).2.1) + x29 * 3), none⟩)) rfl rfl (fun _ hw => r_ixv ((Rn.el ((hm47.see 0 rfl)) dMf ((Value.slice none 0 0), (Value.slice none 0 0), (Value.slice none 0 0)) x9 (by omega)).2.1) x29 (by omega) Tryd.underlying28 sz_24 rfl rfl rfl) ((hm47.see 0 rfl)) ?_
      simp only [nz1, nz2, nz3]
      refine tk 8 30 (.agg #[.string (tx ((((l.getD x9 dMf).clashes).getD x29 dRul).name)), .int .i64 ((((l.getD x9 dMf).clashes).getD x29 dRul).op), .string (tx ((((l.getD x9 dMf).clashes).getD x29 dRul).version))]) rfl rfl (fun _ hw => r_partw (fun j u hj => Rs.cell ((Rn.el hw dMf ((Value.slice none 0 0), (Value.slice none 0 0), (Value.slice none 0 0)) x9 (by omega)).2.1) eRul_len dRul x29 (by omega) j u (arr_get hj)) Tryd.underlying24 rfl (by exact sz_24) rfl rfl) ((hm47.see 0 rfl)) ?_
      simp only [nz1, nz2, nz3]
      refine tk 9 31 (lv0) rfl rfl (fun _ hw => run_mv rfl rfl) ((hm47.see 0 rfl)) ?_
      simp only [nz1, nz2, nz3]
      refine tk 10 32 (.int .i64 ((x9 : Nat) : Int)) rfl rfl (fun _ hw => run_mv rfl rfl) ((hm47.see 0 rfl)) ?_
      simp only [nz1, nz2, nz3]
      refine tk 11 33 (.pointer (some ⟨(bk lv0), (po lv0 + x9 * 5), none⟩)) rfl rfl (fun _ hw => r_ixv ((hm47.see 0 rfl)).rd x9 (by omega) Tryd.underlying22 sz_37 rfl rfl rfl) ((hm47.see 0 rfl)) ?_
      simp only [nz1, nz2, nz3]
      refine tk 12 34 (.pointer (some ⟨(bk lv0), ((po lv0 + x9 * 5) + 0), none⟩)) rfl rfl (fun _ hw => r_fa37_0 (bk lv0) (po lv0 + x9 * 5) rfl rfl) ((hm47.see 0 rfl)) ?_
      simp only [nz1, nz2, nz3]
      refine tk 13 35 (.string (tx ((l.getD x9 dMf).name))) rfl rfl (fun _ hw => r_cellw (Rn.cell hw nMf_len dMf ((Value.slice none 0 0), (Value.slice none 0 0), (Value.slice none 0 0)) x9 (by omega) 0 _ rfl) Tryd.underlying9 rfl rfl rfl) ((hm47.see 0 rfl)) ?_
      simp only [nz1, nz2, nz3]
      refine one_ready 14 (by kernel_rfl) ?_
      refine opd rfl (wanted_none rfl) (m_call hm47 36 (.bool ((rmeets_m l (((l.getD x9 dMf).clashes).getD x29 dRul) ((l.getD x9 dMf).name)))) rfl (run_rmeets rfl rfl rfl rfl) (rmeets_any l (((l.getD x9 dMf).clashes).getD x29 dRul) ((l.getD x9 dMf).name) lv0 lv1 _ (hm47.see 0 rfl) (by first | omega | assumption | (simp; done) | (simp; omega) | (simp only [List.length_append, List.length_cons, List.length_nil]; omega) | (simp only [List.length_append, List.length_cons, List.length_nil] at *; omega) | decide)) (fun w49 (hm50 : Mm none (fun _ => True) w w49 [.see (Rn nMf 5 MfN l lv1 lv0) Fl, .row v28 l27.length (l27.flatMap eRul) 24 3]) => ?_))
      refine ⟨((hm50.see 0 rfl)), ?_⟩
      simp only [nz1, nz2, nz3]
      refine wpAnyH_done (by kernel_rfl) ?_ _
      refine then_n (hK46 _ _ ?_)
      refine cond_B (rmeets_m l (((l.getD x9 dMf).clashes).getD x29 dRul) ((l.getD x9 dMf).name)) rfl (fun hc51 => ?_) (fun hc51 => ?_)
      rotate_left
      · refine wp_skip ?_
        refine blk_n ?_
        refine then_n (hK45 _ _ ?_)
        refine wp_region_lit ?_
        refine lvw 20 (.int .i64 ((x29 : Nat) : Int)) rfl rfl (run_mv rfl rfl) ?_
        simp only [nz1, nz2, nz3]
        refine lvw 21 (.int .i64 (((x29 + 1) : Nat) : Int)) rfl rfl (r_add x29 1 (show (x29 + 1) < 9223372036854775808 from by omega) rfl rfl rfl) ?_
        simp only [nz1, nz2, nz3]
        refine lvw 5 (.int .i64 (((x29 + 1) : Nat) : Int)) rfl rfl (run_as rfl rfl) ?_
        simp only [nz1, nz2, nz3]
        refine wpList_nil ?_
        refine then_n (hR39 _ _ _ ⟨k31, l27, (x29 + 1), v28, (fun qq => bif Nat.blt qq 24 then List.getD [.int .i64 ((x29 : Nat) : Int), lv0, .int .i64 ((x9 : Nat) : Int), .pointer (some ⟨(bk lv0), (po lv0 + x9 * 5), none⟩), .pointer (some ⟨(bk lv0), ((po lv0 + x9 * 5) + 3), none⟩), (lv1.getD x9 ((Value.slice none 0 0), (Value.slice none 0 0), (Value.slice none 0 0))).2.1, .int .i64 ((((l.getD x9 dMf).clashes).length : Nat) : Int), .bool (decide (x29 < ((l.getD x9 dMf).clashes).length)), .int .i64 ((x29 : Nat) : Int), .int .i64 (((x29 + 1) : Nat) : Int), lv0, lv0, .int .i64 ((x9 : Nat) : Int), .pointer (some ⟨(bk lv0), (po lv0 + x9 * 5), none⟩), .pointer (some ⟨(bk lv0), ((po lv0 + x9 * 5) + 3), none⟩), (lv1.getD x9 ((Value.slice none 0 0), (Value.slice none 0 0), (Value.slice none 0 0))).2.1, .int .i64 ((x29 : Nat) : Int), .pointer (some ⟨(bk ((lv1.getD x9 ((Value.slice none 0 0), (Value.slice none 0 0), (Value.slice none 0 0))).2.1)), (po ((lv1.getD x9 ((Value.slice none 0 0), (Value.slice none 0 0), (Value.slice none 0 0))).2.1) + x29 * 3), none⟩), .agg #[.string (tx ((((l.getD x9 dMf).clashes).getD x29 dRul).name)), .int .i64 ((((l.getD x9 dMf).clashes).getD x29 dRul).op), .string (tx ((((l.getD x9 dMf).clashes).getD x29 dRul).version))], lv0, .int .i64 ((x9 : Nat) : Int), .pointer (some ⟨(bk lv0), (po lv0 + x9 * 5), none⟩), .pointer (some ⟨(bk lv0), ((po lv0 + x9 * 5) + 0), none⟩), .string (tx ((l.getD x9 dMf).name))] qq undef else List.getD [.bool ((rmeets_m l (((l.getD x9 dMf).clashes).getD x29 dRul) ((l.getD x9 dMf).name))), u1 25, u1 26, u1 27, u1 28, u1 29, u1 30, u1 31, u1 32, u1 33, u1 34, u1 35] (qq - 24) undef), rfl, (by first | omega | (simp; omega) | (simp at *; omega)), (hi32.trans (show rclashes_m_b1 l l7 x9 (rclashes_m_l1 l l7 x9 k31) l27 x29 = rclashes_m_l1 l l7 x9 k31 (l27, (x29 + 1)) from by unfold rclashes_m_b1; rw [if_pos hc44, if_neg hc51] <;> rfl)), (by (try rw [List.length_append, List.length_singleton]); omega), rfl, hm50⟩ ?_)
        omega
      refine wp_region_lit ?_
      refine lvw 37 (v28) rfl rfl (run_mv rfl rfl) ?_
      simp only [nz1, nz2, nz3]
      refine lvw 38 (lv0) rfl rfl (run_mv rfl rfl) ?_
      simp only [nz1, nz2, nz3]
      refine lvw 39 (.int .i64 ((x9 : Nat) : Int)) rfl rfl (run_mv rfl rfl) ?_
      simp only [nz1, nz2, nz3]
      refine lvw 40 (.pointer (some ⟨(bk lv0), (po lv0 + x9 * 5), none⟩)) rfl rfl (r_ixv ((hm50.see 0 rfl)).rd x9 (by omega) Tryd.underlying22 sz_37 rfl rfl rfl) ?_
      simp only [nz1, nz2, nz3]
      refine lvw 41 (.pointer (some ⟨(bk lv0), ((po lv0 + x9 * 5) + 3), none⟩)) rfl rfl (r_fa37_3 (bk lv0) (po lv0 + x9 * 5) rfl rfl) ?_
      simp only [nz1, nz2, nz3]
      refine lvw 42 ((lv1.getD x9 ((Value.slice none 0 0), (Value.slice none 0 0), (Value.slice none 0 0))).2.1) rfl rfl (r_cellw (Rn.cell ((hm50.see 0 rfl)) nMf_len dMf ((Value.slice none 0 0), (Value.slice none 0 0), (Value.slice none 0 0)) x9 (by omega) 3 _ rfl) Tryd.underlying28 rfl rfl rfl) ?_
      simp only [nz1, nz2, nz3]
      refine lvw 43 (.int .i64 ((x29 : Nat) : Int)) rfl rfl (run_mv rfl rfl) ?_
      simp only [nz1, nz2, nz3]
      refine lvw 44 (.pointer (some ⟨(bk ((lv1.getD x9 ((Value.slice none 0 0), (Value.slice none 0 0), (Value.slice none 0 0))).2.1)), (po ((lv1.getD x9 ((Value.slice none 0 0), (Value.slice none 0 0), (Value.slice none 0 0))).2.1) + x29 * 3), none⟩)) rfl rfl (r_ixv ((Rn.el ((hm50.see 0 rfl)) dMf ((Value.slice none 0 0), (Value.slice none 0 0), (Value.slice none 0 0)) x9 (by omega)).2.1) x29 (by omega) Tryd.underlying28 sz_24 rfl rfl rfl) ?_
      simp only [nz1, nz2, nz3]
      refine lvw 45 (.agg #[.string (tx ((((l.getD x9 dMf).clashes).getD x29 dRul).name)), .int .i64 ((((l.getD x9 dMf).clashes).getD x29 dRul).op), .string (tx ((((l.getD x9 dMf).clashes).getD x29 dRul).version))]) rfl rfl (r_partw (fun j u hj => Rs.cell ((Rn.el ((hm50.see 0 rfl)) dMf ((Value.slice none 0 0), (Value.slice none 0 0), (Value.slice none 0 0)) x9 (by omega)).2.1) eRul_len dRul x29 (by omega) j u (arr_get hj)) Tryd.underlying24 rfl (by exact sz_24) rfl rfl) ?_
      simp only [nz1, nz2, nz3]
      refine lst rfl (m_make (c := #[.string (tx ((((l.getD x9 dMf).clashes).getD x29 dRul).name)), .int .i64 ((((l.getD x9 dMf).clashes).getD x29 dRul).op), .string (tx ((((l.getD x9 dMf).clashes).getD x29 dRul).version))]) (T := 24) (fun g => .slice (some ⟨g, 0, none⟩) 1 1) hm50 46 rfl (by unfold execOp; go_simp; try rfl) (fun g54 w52 (hm53 : Mm none (fun _ => True) w w52 [.see (Rn nMf 5 MfN l lv1 lv0) Fl, .row v28 l27.length (l27.flatMap eRul) 24 3, .blk g54 #[.string (tx ((((l.getD x9 dMf).clashes).getD x29 dRul).name)), .int .i64 ((((l.getD x9 dMf).clashes).getD x29 dRul).op), .string (tx ((((l.getD x9 dMf).clashes).getD x29 dRul).version))] 24]) => ?_))
      simp only [nz1, nz2, nz3]
      obtain ⟨iq, hiq, hz1, hz2, hz3⟩ := inf_24
      refine lst rfl (m_appendR 1 (l := l27) (l2 := [(((l.getD x9 dMf).clashes).getD x29 dRul)]) iq _ _ _ (.slice (some ⟨g54, 0, none⟩) 1 1) hm53 rfl 47 rfl rfl Tryd.underlying28 hiq hz1 hz2 hz3 eRul_len eRul_one rfl (by decide) rfl rfl (Rs.blk (l := [(((l.getD x9 dMf).clashes).getD x29 dRul)]) (hm53.at 2 rfl) rfl rfl eRul_len (Nat.le_refl _)) (by first | omega | (simp; omega)) (by first | omega | (simp; omega)) (fun v57 w55 (hm56 : Mm none (fun _ => True) w w55 [.see (Rn nMf 5 MfN l lv1 lv0) Fl, .row v57 (l27 ++ [(((l.getD x9 dMf).clashes).getD x29 dRul)]).length ((l27 ++ [(((l.getD x9 dMf).clashes).getD x29 dRul)]).flatMap eRul) 24 3, .blk g54 #[.string (tx ((((l.getD x9 dMf).clashes).getD x29 dRul).name)), .int .i64 ((((l.getD x9 dMf).clashes).getD x29 dRul).op), .string (tx ((((l.getD x9 dMf).clashes).getD x29 dRul).version))] 24]) => ?_))
      simp only [nz1, nz2, nz3]
      refine lvw 3 (v57) rfl rfl (run_as rfl rfl) ?_
      simp only [nz1, nz2, nz3]
      refine wpList_nil ?_
      refine blk_n ?_
      refine then_n (hK45 _ _ ?_)
      refine wp_region_lit ?_
      refine lvw 20 (.int .i64 ((x29 : Nat) : Int)) rfl rfl (run_mv rfl rfl) ?_
      simp only [nz1, nz2, nz3]
      refine lvw 21 (.int .i64 (((x29 + 1) : Nat) : Int)) rfl rfl (r_add x29 1 (show (x29 + 1) < 9223372036854775808 from by omega) rfl rfl rfl) ?_
      simp only [nz1, nz2, nz3]
      refine lvw 5 (.int .i64 (((x29 + 1) : Nat) : Int)) rfl rfl (run_as rfl rfl) ?_
      simp only [nz1, nz2, nz3]
      refine wpList_nil ?_
      refine then_n (hR39 _ _ _ ⟨k31, (l27 ++ [(((l.getD x9 dMf).clashes).getD x29 dRul)]), (x29 + 1), v57, (fun qq => bif Nat.blt qq 24 then List.getD [.int .i64 ((x29 : Nat) : Int), lv0, .int .i64 ((x9 : Nat) : Int), .pointer (some ⟨(bk lv0), (po lv0 + x9 * 5), none⟩), .pointer (some ⟨(bk lv0), ((po lv0 + x9 * 5) + 3), none⟩), (lv1.getD x9 ((Value.slice none 0 0), (Value.slice none 0 0), (Value.slice none 0 0))).2.1, .int .i64 ((((l.getD x9 dMf).clashes).length : Nat) : Int), .bool (decide (x29 < ((l.getD x9 dMf).clashes).length)), .int .i64 ((x29 : Nat) : Int), .int .i64 (((x29 + 1) : Nat) : Int), lv0, lv0, .int .i64 ((x9 : Nat) : Int), .pointer (some ⟨(bk lv0), (po lv0 + x9 * 5), none⟩), .pointer (some ⟨(bk lv0), ((po lv0 + x9 * 5) + 3), none⟩), (lv1.getD x9 ((Value.slice none 0 0), (Value.slice none 0 0), (Value.slice none 0 0))).2.1, .int .i64 ((x29 : Nat) : Int), .pointer (some ⟨(bk ((lv1.getD x9 ((Value.slice none 0 0), (Value.slice none 0 0), (Value.slice none 0 0))).2.1)), (po ((lv1.getD x9 ((Value.slice none 0 0), (Value.slice none 0 0), (Value.slice none 0 0))).2.1) + x29 * 3), none⟩), .agg #[.string (tx ((((l.getD x9 dMf).clashes).getD x29 dRul).name)), .int .i64 ((((l.getD x9 dMf).clashes).getD x29 dRul).op), .string (tx ((((l.getD x9 dMf).clashes).getD x29 dRul).version))], lv0, .int .i64 ((x9 : Nat) : Int), .pointer (some ⟨(bk lv0), (po lv0 + x9 * 5), none⟩), .pointer (some ⟨(bk lv0), ((po lv0 + x9 * 5) + 0), none⟩), .string (tx ((l.getD x9 dMf).name))] qq undef else List.getD [.bool ((rmeets_m l (((l.getD x9 dMf).clashes).getD x29 dRul) ((l.getD x9 dMf).name))), v28, lv0, .int .i64 ((x9 : Nat) : Int), .pointer (some ⟨(bk lv0), (po lv0 + x9 * 5), none⟩), .pointer (some ⟨(bk lv0), ((po lv0 + x9 * 5) + 3), none⟩), (lv1.getD x9 ((Value.slice none 0 0), (Value.slice none 0 0), (Value.slice none 0 0))).2.1, .int .i64 ((x29 : Nat) : Int), .pointer (some ⟨(bk ((lv1.getD x9 ((Value.slice none 0 0), (Value.slice none 0 0), (Value.slice none 0 0))).2.1)), (po ((lv1.getD x9 ((Value.slice none 0 0), (Value.slice none 0 0), (Value.slice none 0 0))).2.1) + x29 * 3), none⟩), .agg #[.string (tx ((((l.getD x9 dMf).clashes).getD x29 dRul).name)), .int .i64 ((((l.getD x9 dMf).clashes).getD x29 dRul).op), .string (tx ((((l.getD x9 dMf).clashes).getD x29 dRul).version))], .slice (some ⟨g54, 0, none⟩) 1 1, v57] (qq - 24) undef), rfl, (by first | omega | (simp; omega) | (simp at *; omega)), (hi32.trans (show rclashes_m_b1 l l7 x9 (rclashes_m_l1 l l7 x9 k31) l27 x29 = rclashes_m_l1 l l7 x9 k31 ((l27 ++ [(((l.getD x9 dMf).clashes).getD x29 dRul)]), (x29 + 1)) from by unfold rclashes_m_b1; rw [if_pos hc44, if_pos hc51] <;> rfl)), (by (try rw [List.length_append, List.length_singleton]); omega), rfl, (Mm.reorder hm56 [0, 1] (by decide) rfl)⟩ ?_)
      omega
    rintro _ w58 ⟨y33, y35, v34, yu1, hx36, hli, rfl, hm59⟩
    have hq60 : rclashes_m_l0 l ((l.length - 0) + 1) (([] : List Rul), 0) = rclashes_m_k1 l l7 x9 (rclashes_m_l0 l k11) y33 y35 := (hi12.trans (show rclashes_m_b0 l (rclashes_m_l0 l k11) l7 x9 = rclashes_m_k1 l l7 x9 (rclashes_m_l0 l k11) y33 y35 from by unfold rclashes_m_b0; rw [if_pos hc24, hx36] <;> rfl))
    refine blk_n ?_
    refine then_n (hK25 _ _ ?_)
    refine wp_region_lit ?_
    refine lvw 10 (.int .i64 ((x9 : Nat) : Int)) rfl rfl (run_mv rfl rfl) ?_
    simp only [nz1, nz2, nz3]
    refine lvw 11 (.int .i64 (((x9 + 1) : Nat) : Int)) rfl rfl (r_add x9 1 (show (x9 + 1) < 9223372036854775808 from by omega) rfl rfl rfl) ?_
    simp only [nz1, nz2, nz3]
    refine lvw 4 (.int .i64 (((x9 + 1) : Nat) : Int)) rfl rfl (run_as rfl rfl) ?_
    simp only [nz1, nz2, nz3]
    refine wpList_nil ?_
    refine then_n (hR19 _ _ _ ⟨k11, y33, (x9 + 1), v34, (fun qq => bif Nat.blt qq 24 then List.getD [.int .i64 ((y35 : Nat) : Int), .int .i64 ((x9 : Nat) : Int), lv0, .int .i64 ((l.length : Nat) : Int), .bool (decide (x9 < l.length)), .int .i64 ((x9 : Nat) : Int), .int .i64 (((x9 + 1) : Nat) : Int), yu1 0, yu1 1, yu1 2, yu1 3, yu1 4, yu1 5, yu1 6, yu1 7, yu1 8, yu1 9, yu1 10, yu1 11, yu1 12, yu1 13, yu1 14, yu1 15, yu1 16] qq undef else List.getD [yu1 17, yu1 18, yu1 19, yu1 20, yu1 21, yu1 22, yu1 23, yu1 24, yu1 25, yu1 26, yu1 27, yu1 28, yu1 29, yu1 30, yu1 31, yu1 32, yu1 33, yu1 34, yu1 35] (qq - 24) undef), rfl, (by first | omega | (simp; omega) | (simp at *; omega)), (hq60.trans (show rclashes_m_k1 l l7 x9 (rclashes_m_l0 l k11) y33 y35 = rclashes_m_l0 l k11 (y33, (x9 + 1)) from by unfold rclashes_m_k1; rfl)), (by have hqn := okl_at hp1 x9; omega), rfl, hm59⟩ ?_)
    omega
  rintro _ w61 ⟨y13, y15, v14, yu0, hx16, hlo, rfl, hm62⟩
  have hq63 : rclashes_m l = rclashes_m_k0 l y13 y15 := (show rclashes_m l = rclashes_m_k0 l y13 y15 from by unfold rclashes_m; rw [hx16] <;> rfl)
  refine then_n (hK3 _ _ ?_)
  refine wp_seq_k (fun K64 hK64 => ?_)
  refine wp_region_lit ?_
  refine lvw 48 (v14) rfl rfl (run_mv rfl rfl) ?_
  simp only [nz1, nz2, nz3]
  refine lvw 2 (v14) rfl rfl (run_as rfl rfl) ?_
  simp only [nz1, nz2, nz3]
  refine wpList_nil ?_
  refine then_n (hK64 _ _ ?_)
  refine wp_ret ?_
  have he65 : rclashes_m l = y13 := (hq63.trans (show rclashes_m_k0 l y13 y15 = y13 from by unfold rclashes_m_k0; rfl))
  exact ⟨rfl, v14, res_t rfl rfl, ⟨⟨_, rfl, v14, (by first | rfl | rw [he65]), by rw [he65]; exact hm62.gives 1 rfl⟩, hm62.below⟩⟩
theorem run_rclashes {o : Oper} {a : Act} {w : World} {x0 : Operand} {v0 : Value} (ho : o.op = .call { callee := .value (.func 13), args := #[x0], argTypes := #[22] }) (h0 : a.eval x0 = v0) :
    (execOp a.eval o).run Tryd.prog w = .ok (.enter 13 #[v0]) w := by
  unfold execOp
  simp only [ho]
  have hf : a.eval (.func 13) = .func (.func 13) #[] #[] := rfl
  generalize a.eval = f at *
  go_simp
def rsolve_m (l : List Mf) : Int :=
  if 0 < (rlacks_m l).length then
    15
  else
    if 0 < (rclashes_m l).length then
      16
    else
      0

set_option maxHeartbeats 4000000 in
set_option maxRecDepth 100000 in
theorem rsolve_any (l : List Mf) (lv0 : Value) (lv1 : List (Value × Value × Value)) (w : World) (hl : Rn nMf 5 MfN l lv1 lv0 w) (hp0 : l.length ≤ 100000) (hp1 : okl l) : Calls Tryd.prog 15 #[lv0] w (fun e w' => e = .returned (.int .i64 ((rsolve_m l))) ∧ Below w.heap.size w w') := by
  go_enter Tryd.func15, Tryd.ntmps15
  have hm00 := Mm.nil none (fun _ => True) w
  obtain ⟨Fl, hm01⟩ : ∃ Fl, Mm none (fun _ => True) w w [.see (Rn nMf 5 MfN l lv1 lv0) Fl] := hm00.come ((Rn.all MfN_all) hl)
  have hm0 := hm01
  refine wp_seq_k (fun K1 hK1 => ?_)
  refine wp_region_lit ?_
  refine lvw 2 (.int .i64 0) rfl rfl (run_as rfl rfl) ?_
  simp only [nz1, nz2, nz3]
  refine wpList_nil ?_
  refine then_n (hK1 _ _ ?_)
  refine wp_seq_k (fun K2 hK2 => ?_)
  refine wp_block ?_
  refine wp_seq_k (fun K3 hK3 => ?_)
  refine wp_region_lit ?_
  refine lvw 4 (lv0) rfl rfl (run_mv rfl rfl) ?_
  simp only [nz1, nz2, nz3]
  refine lst rfl (m_callx hm0 5 rfl (run_rlacks rfl rfl) (rlacks_any l lv0 lv1 _ (hm0.see 0 rfl) (by first | omega | assumption | (simp; done) | (simp; omega) | (simp only [List.length_append, List.length_cons, List.length_nil]; omega) | (simp only [List.length_append, List.length_cons, List.length_nil] at *; omega) | decide) (by first | omega | assumption | (simp; done) | (simp; omega) | (simp only [List.length_append, List.length_cons, List.length_nil]; omega) | (simp only [List.length_append, List.length_cons, List.length_nil] at *; omega) | decide)) (fun v6 w4 hR8 hb9 hm5 => ?_))
  obtain ⟨_, rfl, ho11⟩ := hR8
  have hm10 : Mm none (fun _ => True) w w4 [.see (Rn nMf 5 MfN l lv1 lv0) Fl, .row v6 (rlacks_m l).length ((rlacks_m l).flatMap eRul) 24 3] := hm0.gained hb9 ho11
  clear hm5
  simp only [nz1, nz2, nz3]
  refine lvw 6 (.int .i64 (((rlacks_m l).length : Nat) : Int)) rfl rfl (s_len (Rs.row (hm10.row 1 rfl)) rfl Tryd.underlying28 rfl) ?_
  simp only [nz1, nz2, nz3]
  refine lvw 7 (.bool (decide (0 < (rlacks_m l).length))) rfl rfl (r_gtr ((rlacks_m l).length) 0 rfl rfl rfl) ?_
  simp only [nz1, nz2, nz3]
  refine lvw 3 (.bool (decide (0 < (rlacks_m l).length))) rfl rfl (run_as rfl rfl) ?_
  simp only [nz1, nz2, nz3]
  refine wpList_nil ?_
  refine then_n (hK3 _ _ ?_)
  refine cond_d (0 < (rlacks_m l).length) rfl (fun hc12 => ?_) (fun hc12 => ?_)
  · refine wp_seq_k (fun K13 hK13 => ?_)
    refine wp_region_lit ?_
    refine lvw 2 (.int .i64 15) rfl rfl (run_as rfl rfl) ?_
    simp only [nz1, nz2, nz3]
    refine wpList_nil ?_
    refine then_n (hK13 _ _ ?_)
    refine wp_ret ?_
    refine blk_r ?_
    refine then_r ?_
    have he14 : rsolve_m l = 15 := (show rsolve_m l = 15 from by unfold rsolve_m; rw [if_pos hc12] <;> rfl)
    exact ⟨rfl, .int .i64 15, res_t rfl rfl, ⟨by (rw [he14]; try rfl), hm10.below⟩⟩
  refine wp_seq_k (fun K15 hK15 => ?_)
  refine wp_region_lit ?_
  refine lvw 9 (lv0) rfl rfl (run_mv rfl rfl) ?_
  simp only [nz1, nz2, nz3]
  refine lst rfl (m_callx hm10 10 rfl (run_rclashes rfl rfl) (rclashes_any l lv0 lv1 _ (hm10.see 0 rfl) (by first | omega | assumption | (simp; done) | (simp; omega) | (simp only [List.length_append, List.length_cons, List.length_nil]; omega) | (simp only [List.length_append, List.length_cons, List.length_nil] at *; omega) | decide) (by first | omega | assumption | (simp; done) | (simp; omega) | (simp only [List.length_append, List.length_cons, List.length_nil]; omega) | (simp only [List.length_append, List.length_cons, List.length_nil] at *; omega) | decide)) (fun v18 w16 hR20 hb21 hm17 => ?_))
  obtain ⟨_, rfl, ho23⟩ := hR20
  have hm22 : Mm none (fun _ => True) w w16 [.see (Rn nMf 5 MfN l lv1 lv0) Fl, .row v6 (rlacks_m l).length ((rlacks_m l).flatMap eRul) 24 3, .row v18 (rclashes_m l).length ((rclashes_m l).flatMap eRul) 24 3] := hm10.gained hb21 ho23
  clear hm17
  simp only [nz1, nz2, nz3]
  refine lvw 11 (.int .i64 (((rclashes_m l).length : Nat) : Int)) rfl rfl (s_len (Rs.row (hm22.row 2 rfl)) rfl Tryd.underlying28 rfl) ?_
  simp only [nz1, nz2, nz3]
  refine lvw 12 (.bool (decide (0 < (rclashes_m l).length))) rfl rfl (r_gtr ((rclashes_m l).length) 0 rfl rfl rfl) ?_
  simp only [nz1, nz2, nz3]
  refine lvw 8 (.bool (decide (0 < (rclashes_m l).length))) rfl rfl (run_as rfl rfl) ?_
  simp only [nz1, nz2, nz3]
  refine wpList_nil ?_
  refine then_n (hK15 _ _ ?_)
  refine cond_d (0 < (rclashes_m l).length) rfl (fun hc24 => ?_) (fun hc24 => ?_)
  · refine wp_seq_k (fun K25 hK25 => ?_)
    refine wp_region_lit ?_
    refine lvw 2 (.int .i64 16) rfl rfl (run_as rfl rfl) ?_
    simp only [nz1, nz2, nz3]
    refine wpList_nil ?_
    refine then_n (hK25 _ _ ?_)
    refine wp_ret ?_
    refine blk_r ?_
    refine then_r ?_
    have he26 : rsolve_m l = 16 := (show rsolve_m l = 16 from by unfold rsolve_m; rw [if_neg hc12, if_pos hc24] <;> rfl)
    exact ⟨rfl, .int .i64 16, res_t rfl rfl, ⟨by (rw [he26]; try rfl), hm22.below⟩⟩
  refine wp_skip ?_
  refine blk_n ?_
  refine then_n (hK2 _ _ ?_)
  refine wp_seq_k (fun K27 hK27 => ?_)
  refine wp_region_lit ?_
  refine lvw 2 (.int .i64 0) rfl rfl (run_as rfl rfl) ?_
  simp only [nz1, nz2, nz3]
  refine wpList_nil ?_
  refine then_n (hK27 _ _ ?_)
  refine wp_ret ?_
  have he28 : rsolve_m l = 0 := (show rsolve_m l = 0 from by unfold rsolve_m; rw [if_neg hc12, if_neg hc24] <;> rfl)
  exact ⟨rfl, .int .i64 0, res_t rfl rfl, ⟨by (rw [he28]; try rfl), hm22.below⟩⟩
theorem run_rsolve {o : Oper} {a : Act} {w : World} {x0 : Operand} {v0 : Value} (ho : o.op = .call { callee := .value (.func 15), args := #[x0], argTypes := #[22] }) (h0 : a.eval x0 = v0) :
    (execOp a.eval o).run Tryd.prog w = .ok (.enter 15 #[v0]) w := by
  unfold execOp
  simp only [ho]
  have hf : a.eval (.func 15) = .func (.func 15) #[] #[] := rfl
  generalize a.eval = f at *
  go_simp
end Go.Proofs.YtpbenhfnebgbiaaDoor.So
