/- The contract of the reference's SHA-256: the sum of a message. -/
import Derived.Test.YtbgfndabfmjmkaaDoorRefA
import Derived.Test.YtbgfndabfmjmkaaDoorRefB
namespace Go.Proofs.YtbgfndabfmjmkaaDoor.Sha
open Go.RowKit
set_option linter.unusedSimpArgs false

theorem step_lit (f : Nat → UInt32) (s : ByteArray) (w : World) (hs : s.size = 64) (hk : KT 1 w) :
    Calls Tryd.prog 20 #[.agg #[.int .u32 (nt (f 0)), .int .u32 (nt (f 1)), .int .u32 (nt (f 2)), .int .u32 (nt (f 3)), .int .u32 (nt (f 4)), .int .u32 (nt (f 5)), .int .u32 (nt (f 6)), .int .u32 (nt (f 7))], .string s] w
      fun e w' => e = .returned (.agg (rowOf (mixf f s) 8)) ∧ Below w.heap.size w w' := step_any f s w hs hk
theorem four_string (W : World) (x : UInt32) :
    (convert 26 9 (.slice (some ⟨W.heap.size, 0, none⟩) 4 4)).run Tryd.prog (W.alloc (.cells #[.int .u8 (IntKind.u8.wrap (nt x / 16777216)), .int .u8 (IntKind.u8.wrap (nt x / 65536)), .int .u8 (IntKind.u8.wrap (nt x / 256)), .int .u8 (IntKind.u8.wrap (nt x))] 5)).drew = .ok (.string ⟨(by4 x).toArray⟩) (W.alloc (.cells #[.int .u8 (IntKind.u8.wrap (nt x / 16777216)), .int .u8 (IntKind.u8.wrap (nt x / 65536)), .int .u8 (IntKind.u8.wrap (nt x / 256)), .int .u8 (IntKind.u8.wrap (nt x))] 5)).drew := by
  rw [IntKind.wrap_u8, IntKind.wrap_u8, IntKind.wrap_u8, IntKind.wrap_u8, fb3, fb2, fb1, fb0]
  exact Buf.buf_string (Buf.buf_drew (Buf.buf_lit (base := 0) W (by4 x) (Nat.zero_le _) (by unfold maxLen; simp [by4])))

theorem four_plain (W : World) (x : UInt32) :
    (convert 26 9 (.slice (some ⟨W.heap.size, 0, none⟩) 4 4)).run Tryd.prog (W.alloc (.cells #[.int .u8 (IntKind.u8.wrap (nt x / 16777216)), .int .u8 (IntKind.u8.wrap (nt x / 65536)), .int .u8 (IntKind.u8.wrap (nt x / 256)), .int .u8 (IntKind.u8.wrap (nt x))] 5)) = .ok (.string ⟨(by4 x).toArray⟩) (W.alloc (.cells #[.int .u8 (IntKind.u8.wrap (nt x / 16777216)), .int .u8 (IntKind.u8.wrap (nt x / 65536)), .int .u8 (IntKind.u8.wrap (nt x / 256)), .int .u8 (IntKind.u8.wrap (nt x))] 5)) := by
  rw [IntKind.wrap_u8, IntKind.wrap_u8, IntKind.wrap_u8, IntKind.wrap_u8, fb3, fb2, fb1, fb0]
  exact Buf.buf_string (Buf.buf_lit (base := 0) W (by4 x) (Nat.zero_le _) (by unfold maxLen; simp [by4]))

set_option maxRecDepth 100000 in
set_option maxHeartbeats 800000 in
theorem refsum_any (s : ByteArray) (w : World) (hs : s.size ≤ 250000) (hk : KT 1 w) :
    Calls Tryd.prog 11 #[.string s] w fun e w' => e = .returned (.string ⟨(sha s).toArray⟩) ∧ Below w.heap.size w w' := by
  have HK := Lib.hid hk
  clear hk
  go_enter Tryd.func11, Tryd.ntmps11
  go_wp2_with fail
  generalize hW : World.alloc w _ = W0
  have R0 : Row W0 w.heap.size 8 34 h0 ∧ Below w.heap.size w W0 := by
    rw [← hW]
    exact ⟨Row.lit w 34 8 _ h0 (by kernel_rfl), (Below.refl _ _).alloc (Nat.le_refl _) _⟩
  clear hW
  obtain ⟨hrow, hbel⟩ := R0
  refine (padded_any s _ hs).mono ?_
  rintro e w1 ⟨b, rfl, hbl, hb1⟩
  have hrow1 := hrow.below hb1 hrow.lt
  have hbel1 := hbel.trans (hb1.mono hbel.size)
  have hmod := msg_mod s
  have hml := msg_length s
  have hpad := pad_le s.size
  have hbs : b.size = (msg s).length := by rw [Lib.size_eq, hbl]
  have hble : b.size ≤ 300000 := by omega
  have HBL := Lib.hid hbl
  have HBS := Lib.hid hbs
  have HMOD := Lib.hid hmod
  clear hbl hbs hmod hml hpad hrow hbel hb1
  go_wp2
  go_loopw [4] (fun av wr => ∃ a j : Nat, Hid (a = 64 * j) ∧ a ≤ b.size ∧ av = .int .i64 a ∧ Row wr w.heap.size 8 34 (runN (msg s) j) ∧ Below w.heap.size w wr) (fun av _ => b.size - (intOf av).toNat)
  case atStart => exact ⟨0, 0, rfl, Nat.zero_le _, rfl, hrow1, hbel1⟩
  case round =>
    clear hrow1 hbel1
    obtain ⟨a, j, ha, hle, rfl, hrow, hbel⟩ := hrel
    by_cases hlt : a < b.size
    · have hlt64 : a + 64 ≤ b.size := by have := HMOD.out; have := HBS.out; have := ha.out; omega
      obtain ⟨c0, _⟩ := hrow.at 0 (by omega)
      obtain ⟨c1, _⟩ := hrow.at 1 (by omega)
      obtain ⟨c2, _⟩ := hrow.at 2 (by omega)
      obtain ⟨c3, _⟩ := hrow.at 3 (by omega)
      obtain ⟨c4, _⟩ := hrow.at 4 (by omega)
      obtain ⟨c5, _⟩ := hrow.at 5 (by omega)
      obtain ⟨c6, _⟩ := hrow.at 6 (by omega)
      obtain ⟨c7, _⟩ := hrow.at 7 (by omega)
      have hx0 : (0 : Int) ≤ (a : Int) := by omega
      have hx1 : (0 : Int) ≤ (a : Int) + 64 := by omega
      have hx2 : (a : Int) ≤ (a : Int) + 64 := by omega
      have hx3 : (a : Int) + 64 ≤ (b.size : Int) := by omega
      have hx4 : ((a : Int) + 64).toNat = a + 64 := by omega
      have hx5 : IntKind.i64.wrap ((a : Int) + 64) = (a : Int) + 64 := IntWalk.i64_in _ (by omega)
      go_wp2_with fail
      go_still_tail 6, (by kernel_rfl)
      change wpList _ _ _ _ _ wr.drew
      clear c0 c1 c2 c3 c4 c5 c6 c7 hx1 hx2 hx4 hx5
      go_wp2_with fail
      have hxe : (b.extract a (a + 64)).size = 64 := by rw [ByteArray.size_extract]; omega
      refine (step_lit (runN (msg s) j) (b.extract a (a + 64)) _ hxe (HK.out.below hbel.drew HK.out.lt)).mono ?_
      rintro e' w5 ⟨rfl, hb4⟩
      have hb5 : Below wr.heap.size wr w5 := (Below.refl _ wr).drew.trans hb4
      have hrow4 := hrow.below hb5 hrow.lt
      have hbel4 := hbel.trans (hb5.mono hbel.size)
      have hstep : mixf (runN (msg s) j) (b.extract a (a + 64)) = runN (msg s) (j + 1) := by
        rw [ha.out, blk_back s b 0 j (by rw [HBL.out]; rfl), Nat.zero_add]; rfl
      rw [hstep]
      clear hstep hxe
      go_wp2_with (with_reducible refine wpList_store_row rfl 34 _ _ rfl w.heap.size _ rfl rfl 34 _ hrow4.heap (by rw [rowOf_size]; exact info34) (by rw [rowOf_size, rowOf_size]) (rowOf_one _ _) ?_)
      go_roundw
      case rel => exact ⟨a + 64, j + 1, by have := ha.out; show a + 64 = 64 * (j + 1); omega, by omega, by go_num, hrow4.setRow rfl, below_setRow hbel4 (Nat.le_refl _)⟩
      case measure => simp [intOf]; omega
    · have hkj : j = (msg s).length / 64 := by have := HBS.out; have := ha.out; have := HMOD.out; omega
      rw [hkj] at hrow
      have HKJ := Lib.hid hkj
      clear hkj
      obtain ⟨f, hf⟩ : ∃ f, runN (msg s) ((msg s).length / 64) = f := ⟨_, rfl⟩
      rw [hf] at hrow
      have HF := Lib.hid hf
      clear hf
      go_wp2
      go_loopw [5, 6] (fun ov iv wr => ∃ (k : Nat) (l : List UInt8), k ≤ 8 ∧ iv = .int .i64 k ∧ ov = .string ⟨l.toArray⟩ ∧ Hid (l = spellN f k) ∧ l.length ≤ 32 ∧ Row wr w.heap.size 8 34 f ∧ Below w.heap.size w wr) (fun _ iv _ => 8 - (intOf iv).toNat)
      case atStart => exact ⟨0, [], by omega, rfl, rfl, rfl, by simp, hrow, hbel⟩
      case round =>
        clear hrow hbel
        obtain ⟨k, l, hk, rfl, rfl, hl, hll, hrow, hbel⟩ := hrel
        by_cases hlt : k < 8
        · obtain ⟨hc, _⟩ := hrow.at k hlt
          have hk0 : (0 : Int) ≤ (k : Int) := by omega
          have hk8 : (k : Int) < 8 := by omega
          have hs4 := four_string wr (f k)
          have hs5 := four_plain wr (f k)
          have hs6 : (convert 26 9 (.slice (some ⟨wr.heap.size, 0, none⟩) 4 4)).run Tryd.prog (wr.drew.alloc (.cells #[.int .u8 (IntKind.u8.wrap (nt (f k) / 16777216)), .int .u8 (IntKind.u8.wrap (nt (f k) / 65536)), .int .u8 (IntKind.u8.wrap (nt (f k) / 256)), .int .u8 (IntKind.u8.wrap (nt (f k)))] 5)) = _ := four_plain wr.drew (f k)
          have hcon := fun W => run_string_add_sum (P := Tryd.prog) W ⟨l.toArray⟩ ⟨(by4 (f k)).toArray⟩ (by show l.length + 4 ≤ _; omega)
          have hl4 : (by4 (f k)).length = 4 := rfl
          go_wp2_with fail
          refine wp_region_held_drew (S := fun w' => w'.cell? ⟨w.heap.size, k, none⟩ = some (.int .u32 (nt (f k)))) (by kernel_rfl) ?_ (fun hHeld => ?_)
          · go_simp
          refine wpAnyH_take (i := 0) (v := ?_) rfl (by kernel_rfl) (by kernel_rfl) (by kernel_rfl) (fun _ _ _ h => h) (Or.inl ⟨by rfl, by (intro w hSw; (try dsimp only at hSw); go_simp; try with_reducible rfl)⟩) (by assumption) ?_
          try simp only [Act.put, List.setIfInBounds_toArray, List.set_cons_zero, List.set_cons_succ]
          refine wpAnyH_take (i := 1) (v := ?_) rfl (by kernel_rfl) (by kernel_rfl) (by kernel_rfl) (fun _ _ _ h => h) (Or.inl ⟨by rfl, by (intro w hSw; (try dsimp only at hSw); go_simp; try with_reducible rfl)⟩) (by assumption) ?_
          try simp only [Act.put, List.setIfInBounds_toArray, List.set_cons_zero, List.set_cons_succ]
          refine wpAnyH_take (i := 2) (v := ?_) rfl (by kernel_rfl) (by kernel_rfl) (by kernel_rfl) (fun _ _ _ h => h) (Or.inl ⟨by rfl, by (intro w hSw; (try dsimp only at hSw); go_simp; try with_reducible rfl)⟩) (by assumption) ?_
          try simp only [Act.put, List.setIfInBounds_toArray, List.set_cons_zero, List.set_cons_succ]
          refine wpAnyH_take (i := 3) (v := ?_) rfl (by kernel_rfl) (by kernel_rfl) (by kernel_rfl) (fun _ _ _ h => h) (Or.inl ⟨by rfl, by (intro w hSw; (try dsimp only at hSw); go_simp; try with_reducible rfl)⟩) (by assumption) ?_
          try simp only [Act.put, List.setIfInBounds_toArray, List.set_cons_zero, List.set_cons_succ]
          refine wpAnyH_take (i := 4) (v := ?_) rfl (by kernel_rfl) (by kernel_rfl) (by kernel_rfl) (fun _ _ _ h => h) (Or.inl ⟨by rfl, by (intro w hSw; (try dsimp only at hSw); go_simp; try with_reducible rfl)⟩) (by assumption) ?_
          try simp only [Act.put, List.setIfInBounds_toArray, List.set_cons_zero, List.set_cons_succ]
          refine wpAnyH_take (i := 5) (v := ?_) rfl (by kernel_rfl) (by kernel_rfl) (by kernel_rfl) (fun _ _ _ h => h) (Or.inl ⟨by rfl, by (intro w hSw; (try dsimp only at hSw); go_simp; try with_reducible rfl)⟩) (by assumption) ?_
          try simp only [Act.put, List.setIfInBounds_toArray, List.set_cons_zero, List.set_cons_succ]
          refine wpAnyH_take (i := 6) (v := ?_) rfl (by kernel_rfl) (by kernel_rfl) (by kernel_rfl) (fun _ _ _ h => h) (Or.inl ⟨by rfl, by (intro w hSw; (try dsimp only at hSw); go_simp; try with_reducible rfl)⟩) (by assumption) ?_
          try simp only [Act.put, List.setIfInBounds_toArray, List.set_cons_zero, List.set_cons_succ]
          refine wpAnyH_take (i := 7) (v := ?_) rfl (by kernel_rfl) (by kernel_rfl) (by kernel_rfl) (fun _ _ _ h => h) (Or.inl ⟨by rfl, by (intro w hSw; (try dsimp only at hSw); go_simp; try with_reducible rfl)⟩) (by assumption) ?_
          try simp only [Act.put, List.setIfInBounds_toArray, List.set_cons_zero, List.set_cons_succ]
          refine wpAnyH_take (i := 8) (v := ?_) rfl (by kernel_rfl) (by kernel_rfl) (by kernel_rfl) (fun _ _ _ h => h) (Or.inl ⟨by rfl, by (intro w hSw; (try dsimp only at hSw); go_simp; try with_reducible rfl)⟩) (by assumption) ?_
          try simp only [Act.put, List.setIfInBounds_toArray, List.set_cons_zero, List.set_cons_succ]
          refine wpAnyH_take (i := 9) (v := ?_) rfl (by kernel_rfl) (by kernel_rfl) (by kernel_rfl) (fun _ _ _ h => h) (Or.inl ⟨by rfl, by (intro w hSw; (try dsimp only at hSw); go_simp; try with_reducible rfl)⟩) (by assumption) ?_
          try simp only [Act.put, List.setIfInBounds_toArray, List.set_cons_zero, List.set_cons_succ]
          refine wpAnyH_take (i := 10) (v := ?_) rfl (by kernel_rfl) (by kernel_rfl) (by kernel_rfl) (fun _ _ _ h => h) (Or.inl ⟨by rfl, by (intro w hSw; (try dsimp only at hSw); go_simp; try with_reducible rfl)⟩) (by assumption) ?_
          try simp only [Act.put, List.setIfInBounds_toArray, List.set_cons_zero, List.set_cons_succ]
          refine wpAnyH_take (i := 11) (v := ?_) rfl (by kernel_rfl) (by kernel_rfl) (by kernel_rfl) (fun _ _ _ h => h) (Or.inl ⟨by rfl, by (intro w hSw; (try dsimp only at hSw); go_simp; try with_reducible rfl)⟩) (by assumption) ?_
          try simp only [Act.put, List.setIfInBounds_toArray, List.set_cons_zero, List.set_cons_succ]
          refine wpAnyH_take (i := 12) (v := ?_) rfl (by kernel_rfl) (by kernel_rfl) (by kernel_rfl) (fun _ _ _ h => h) (Or.inl ⟨by rfl, by (intro w hSw; (try dsimp only at hSw); go_simp; try with_reducible rfl)⟩) (by assumption) ?_
          try simp only [Act.put, List.setIfInBounds_toArray, List.set_cons_zero, List.set_cons_succ]
          refine wpAnyH_take (i := 13) (v := ?_) rfl (by kernel_rfl) (by kernel_rfl) (by kernel_rfl) (fun _ _ _ h => h) (Or.inl ⟨by rfl, by (intro w hSw; (try dsimp only at hSw); go_simp; try with_reducible rfl)⟩) (by assumption) ?_
          try simp only [Act.put, List.setIfInBounds_toArray, List.set_cons_zero, List.set_cons_succ]
          refine wpAnyH_take (i := 14) (v := ?_) rfl (by kernel_rfl) (by kernel_rfl) (by kernel_rfl) (fun _ _ _ h => h) (Or.inl ⟨by rfl, by (intro w hSw; (try dsimp only at hSw); go_simp; try with_reducible rfl)⟩) (by assumption) ?_
          try simp only [Act.put, List.setIfInBounds_toArray, List.set_cons_zero, List.set_cons_succ]
          refine wpAnyH_take (i := 15) (v := ?_) rfl (by kernel_rfl) (by kernel_rfl) (by kernel_rfl) (fun _ _ _ h => h) (Or.inl ⟨by rfl, by (intro w hSw; (try dsimp only at hSw); go_simp; try with_reducible rfl)⟩) (by assumption) ?_
          try simp only [Act.put, List.setIfInBounds_toArray, List.set_cons_zero, List.set_cons_succ]
          refine wpAnyH_take (i := 16) (v := ?_) rfl (by kernel_rfl) (by kernel_rfl) (by kernel_rfl) (fun _ _ _ h => h) (Or.inl ⟨by rfl, by (intro w hSw; (try dsimp only at hSw); go_simp; try with_reducible rfl)⟩) (by assumption) ?_
          try simp only [Act.put, List.setIfInBounds_toArray, List.set_cons_zero, List.set_cons_succ]
          refine wpAnyH_take (i := 17) (v := ?_) rfl (by kernel_rfl) (by kernel_rfl) (by kernel_rfl) (fun _ _ _ h => h) (Or.inl ⟨by rfl, by (intro w hSw; (try dsimp only at hSw); go_simp; try with_reducible rfl)⟩) (by assumption) ?_
          try simp only [Act.put, List.setIfInBounds_toArray, List.set_cons_zero, List.set_cons_succ]
          refine wpAnyH_take (i := 18) (v := ?_) rfl (by kernel_rfl) (by kernel_rfl) (by kernel_rfl) (fun _ _ _ h => h) (Or.inl ⟨by rfl, by (intro w hSw; (try dsimp only at hSw); go_simp; try with_reducible rfl)⟩) (by assumption) ?_
          try simp only [Act.put, List.setIfInBounds_toArray, List.set_cons_zero, List.set_cons_succ]
          refine wpAnyH_take (i := 19) (v := ?_) rfl (by kernel_rfl) (by kernel_rfl) (by kernel_rfl) (fun _ _ _ h => h) (Or.inl ⟨by rfl, by (intro w hSw; (try dsimp only at hSw); go_simp; try with_reducible rfl)⟩) (by assumption) ?_
          try simp only [Act.put, List.setIfInBounds_toArray, List.set_cons_zero, List.set_cons_succ]
          clear hcon
          refine wpAnyH_ready (rs := [20]) (by kernel_rfl) (by simp) ?_
          refine AllReadyH.cons rfl (fun K hK => ?_) AllReadyH.nil
          go_simp
          refine hK.out _ _ ?_ (fun hHeld => ?_)
          · go_keep
          clear hK K
          try simp only [Act.put, List.setIfInBounds_toArray, List.set_cons_zero, List.set_cons_succ]
          refine wpAnyH_ready (rs := [21]) (by kernel_rfl) (by simp) ?_
          refine AllReadyH.cons rfl (fun K hK => ?_) AllReadyH.nil
          go_simp
          refine hK.out _ _ ?_ (fun hHeld => ?_)
          · go_keep
          clear hK K
          try simp only [Act.put, List.setIfInBounds_toArray, List.set_cons_zero, List.set_cons_succ]
          have hcon := fun W => run_string_add_sum (P := Tryd.prog) W ⟨l.toArray⟩ ⟨(by4 (f k)).toArray⟩ (by show l.length + 4 ≤ _; omega)
          refine wpAnyH_take (i := 22) (v := ?_) rfl (by kernel_rfl) (by kernel_rfl) (by kernel_rfl) (fun _ _ _ h => h) (Or.inl ⟨by rfl, by (intro w hSw; (try dsimp only at hSw); go_simp; try with_reducible rfl)⟩) (by assumption) ?_
          try simp only [Act.put, List.setIfInBounds_toArray, List.set_cons_zero, List.set_cons_succ]
          refine wpAnyH_take (i := 23) (v := ?_) rfl (by kernel_rfl) (by kernel_rfl) (by kernel_rfl) (fun _ _ _ h => h) (Or.inl ⟨by rfl, by (intro w hSw; (try dsimp only at hSw); go_simp; try with_reducible rfl)⟩) (by assumption) ?_
          try simp only [Act.put, List.setIfInBounds_toArray, List.set_cons_zero, List.set_cons_succ]
          refine wpAnyH_done (by kernel_rfl) ?_ _
          all_goals
            go_wp2
            go_roundw
            case rel =>
              refine ⟨k + 1, l ++ by4 (f k), by omega, by go_num, congrArg Value.string (Buf.str_app _ _), ?_, ?_, ?_, ?_⟩
              · show _ = spellN f k ++ _; rw [hl.out]
              · have h1 := congrArg List.length hl.out; rw [spellN_length] at h1; rw [List.length_append, hl4]; omega
              · exact hrow.below (b := wr.heap.size) (((Below.refl _ wr).alloc (Nat.le_refl _) _).drew) hrow.lt
              · exact hbel.trans ((((Below.refl _ wr).alloc (Nat.le_refl _) _).drew).mono hbel.size)
            case measure => simp [intOf]; omega
        · obtain rfl : k = 8 := by omega
          have e1 : (⟨l.toArray⟩ : ByteArray) = ⟨(sha s).toArray⟩ := by rw [hl.out, ← HF.out]; rfl
          go_wp2
          go_ret
          exact ⟨congrArg (fun b => Ending.returned (Value.string b)) e1, hbel⟩
end Go.Proofs.YtbgfndabfmjmkaaDoor.Sha
