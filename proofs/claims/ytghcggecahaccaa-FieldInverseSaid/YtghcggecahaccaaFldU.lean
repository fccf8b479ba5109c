/- Layer 3, the document's answers: a number without another one. -/
import Derived.Test.YtghcggecahaccaaFldS
import Derived.Test.YtghcggecahaccaaFldB8
namespace Go.Proofs.Ytghcggecahaccaa.Fld
open Go.RowKit
open Go.Proofs.Ytghcggecahaccaa.Arr
open Go.Proofs.Ytghcggecahaccaa.Num (val up val_congr val_add val_lt val_up val_digits val_word)

/-- A number's bytes while they are replaced: the first k are there. -/
def mixb (a n k : Nat) : Nat → Nat := fun j => if j < k then bt n j else bt a j
theorem mixb_up (a n k : Nat) : up (mixb a n k) k (bt n k) = mixb a n (k + 1) := by
  funext j
  unfold up mixb
  by_cases e : j = k
  · rw [if_pos e, e, if_pos (by omega)]
  · rw [if_neg e]
    by_cases h : j < k
    · rw [if_pos h, if_pos (by omega)]
    · rw [if_neg h, if_neg (by omega)]
theorem mixb_all (a n : Nat) : rowOf .u8 (mixb a n 32) 32 = bs n := rowOf_congr fun j hj => by unfold mixb; rw [if_pos hj]
theorem mixb_none (a n : Nat) : rowOf .u8 (mixb a n 0) 32 = bs a := rowOf_congr fun j hj => by unfold mixb; rw [if_neg (by omega)]

set_option maxHeartbeats 1000000 in
theorem rless_any (a b : Nat) (hb : b ≤ MM) (w : World) : Calls Try.prog 37 #[.agg (bs a), .agg (bs b)] w fun e w' => e = .returned (.agg (bs (a + MM - b))) ∧ Below w.heap.size w w' := by
  have HB := Lib.hid hb
  clear hb
  go_enter Try.func37, Try.ntmps37
  go_wp2_with fail
  generalize hW : World.alloc _ _ = W0
  have h0 : Fr w W0 [(rowOf .u8 (mixb a (a + MM - b) 0) 32, 23), (bs b, 23), (bs 0, 23)] := by rw [mixb_none]; exact hW ▸ Fr.three w (bs a) (bs b) (bs 0) _ _ _
  clear hW
  go_loopw [5, 6] (fun cv iv wr => ∃ k : Nat, k ≤ 32 ∧ iv = .int .i64 (k : Int) ∧ cv = .int .i64 (bo8 a b k : Int) ∧ Fr w wr [(rowOf .u8 (mixb a (a + MM - b) k) 32, 23), (bs b, 23), (bs 0, 23)]) (fun _ iv _ => 32 - (intOf iv).toNat)
  case atStart => exact ⟨0, by omega, rfl, by rw [bo8_zero]; rfl, h0⟩
  case round =>
    clear h0
    obtain ⟨k, hk, rfl, rfl, h0⟩ := hrel
    by_cases hlt : k < 32
    · have r0 : Row wr (w.heap.size) 32 23 .u8 (mixb a (a + MM - b) k) := h0.at' 0 _ _ rfl
      have r1 : Row wr (w.heap.size + 1) 32 23 .u8 (bt b) := h0.at' 1 _ _ rfl
      obtain ⟨c0, f0⟩ := r0.at k hlt
      obtain ⟨c1, _⟩ := r1.at k hlt
      rw [show mixb a (a + MM - b) k k = bt a k by unfold mixb; rw [if_neg (by omega)]] at c0
      have ba := bt_lt a k
      have bb := bt_lt b k
      have bc := bo8_le a b k
      have e1 := bo8_succ a b k
      have e2 := bt_sub a b k hlt HB.out
      obtain ⟨p, hp⟩ : ∃ p, p = bt a k := ⟨_, rfl⟩
      obtain ⟨q, hq⟩ : ∃ q, q = bt b k := ⟨_, rfl⟩
      obtain ⟨c, hc⟩ : ∃ c, c = bo8 a b k := ⟨_, rfl⟩
      obtain ⟨n, hn⟩ : ∃ n, n = bt (a + MM - b) k := ⟨_, rfl⟩
      rw [← hp] at c0 ba e1 e2
      rw [← hq] at c1 bb e1 e2
      rw [← hc] at bc e1 e2
      rw [← hn] at e2
      have x1 : IntKind.i64.wrap ((p : Int) - (q : Int)) = (p : Int) - (q : Int) := IntWalk.i64_in _ (by omega)
      have x2 : IntKind.i64.wrap ((p : Int) - (q : Int) - (c : Int)) = (p : Int) - (q : Int) - (c : Int) := IntWalk.i64_in _ (by omega)
      obtain ⟨x, hx⟩ : ∃ x : Int, x = (p : Int) - (q : Int) - (c : Int) := ⟨_, rfl⟩
      rw [← hx] at x2
      have HX := Lib.hid hx
      have hxl : -257 ≤ x ∧ x ≤ 255 := by omega
      have k0 : (0 : Int) ≤ (k : Int) := by omega
      have k1 : (k : Int) < 32 := by omega
      have H0 := Lib.hid h0
      have HN := Lib.hid hn
      have HE1 := Lib.hid e1
      have HE2 := Lib.hid e2
      have hcw : ∀ z : Int, z = (p : Int) - (q : Int) - (c : Int) → z = x := fun z hz => hz.trans hx.symm
      clear h0 r0 r1 hx hn e1 e2 hp hq
      rw [← hc]
      clear hc
      have hnl : (n : Int) < 256 := by have := HE2.out; omega
      by_cases hneg : p < q + c
      · have hd : decide (x < 0) = true := by have := HX.out; simp; omega
        have hb1 : bo8 a b (k + 1) = 1 := by rw [HE1.out, if_pos hneg]
        have hnn : x + 256 = (n : Int) := by have := HX.out; have := HE2.out; omega
        have HB1 := Lib.hid hb1
        clear hneg hb1 hcw
        go_wp2_with fail
        go_quiet (fail)
        rw [← HX.out]
        clear x1 c1
        go_wp2
        go_roundw
        case rel =>
          refine ⟨k + 1, by omega, by go_num, by rw [HB1.out]; rfl, ?_⟩
          rw [← mixb_up, ← rowOf_set, ← HN.out]
          exact (H0.out.drewN _).put 0 rfl k _ _ rfl
        case measure => simp [intOf]; omega
      · have hd : decide (x < 0) = false := by have := HX.out; simp; omega
        have hb1 : bo8 a b (k + 1) = 0 := by rw [HE1.out, if_neg hneg]
        have hnn : x = (n : Int) := by have := HX.out; have := HE2.out; omega
        have HB1 := Lib.hid hb1
        clear hneg hb1 hcw hd
        subst hnn
        have hd : decide ((n : Int) < 0) = false := by simp
        go_wp2_with fail
        go_quiet (fail)
        rw [← HX.out]
        clear x1 c1
        go_wp2
        go_roundw
        case rel =>
          refine ⟨k + 1, by omega, by go_num, by rw [HB1.out]; rfl, ?_⟩
          rw [← mixb_up, ← rowOf_set, ← HN.out]
          exact (H0.out.drewN _).put 0 rfl k _ _ rfl
        case measure => simp [intOf]; omega
    · obtain rfl : k = 32 := by omega
      rw [show ((32 : Nat) : Int) = (32 : Int) from rfl]
      rw [mixb_all] at h0
      go_wp2_with (first
        | (with_reducible refine wpList_load_row rfl 23 _ rfl (w.heap.size) rfl 23 _ (0, 0) _ (h0.at' 0 _ _ rfl) Try.underlying23 rfl (by rw [bs_sz]; exact info_b) ?_)
        | (with_reducible refine wpList_store_row rfl 23 _ _ rfl (w.heap.size + 2) (bs (a + MM - b)) rfl rfl 23 _ (h0.at' 2 _ _ rfl) (by rw [bs_sz]; exact info_b) (by rw [bs_sz, bs_sz]) (bs_one _) ?_))
      refine bodyPost_ret (v := .agg (bs (a + MM - b))) (results_cell_row rfl _ _ (w.heap.size + 2) 23 _ (0, 0) _ rfl (setRow_heap _ _ _ _ _ _ (h0.at' 2 _ _ rfl)) Try.underlying23 rfl (by rw [bs_sz]; exact info_b)) rfl ⟨rfl, below_setRow h0.below (by omega)⟩
end Go.Proofs.Ytghcggecahaccaa.Fld
