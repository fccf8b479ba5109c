/- Layer 3, the document's answers: the order, which number is less, what is left. -/
import Derived.Test.YtghcggecahaccaaFldK
import Derived.Test.YtghcggecahaccaaFr
import Derived.Deep.QuietTactic
namespace Go.Proofs.Ytghcggecahaccaa.Fld
open Go.RowKit
open Go.Proofs.Ytghcggecahaccaa.Arr
open Go.Proofs.Ytghcggecahaccaa.Num (val up val_congr val_add val_lt val_up val_digits val_word)

/-- The order's bytes on their way. -/
def ob (k : Nat) : Nat → Nat := fun j => if j < k then 255 else 0
theorem ob_up (k : Nat) : up (ob k) k 255 = ob (k + 1) := by
  funext j
  unfold up ob
  by_cases e : j = k
  · rw [if_pos e, if_pos (by omega)]
  · rw [if_neg e]
    by_cases h : j < k
    · rw [if_pos h, if_pos (by omega)]
    · rw [if_neg h, if_neg (by omega)]
theorem ob_end : rowOf .u8 (up (up (ob 32) 0 237) 31 127) 32 = bs PP := by rfl
set_option maxHeartbeats 1000000 in
theorem rorder_any (w : World) : Calls Try.prog 34 #[] w fun e w' => e = .returned (.agg (bs PP)) ∧ Below w.heap.size w w' := by
  go_enter Try.func34, Try.ntmps34
  go_wp2_with fail
  generalize hW : World.alloc _ _ = W0
  have h0 : Fr w W0 [(bs 0, 23), (rowOf .u8 (ob 0) 32, 23)] := hW ▸ Fr.two w (bs 0) (rowOf .u8 (ob 0) 32) _ _
  clear hW
  go_loopw [2] (fun iv wr => ∃ k : Nat, k ≤ 32 ∧ iv = .int .i64 (k : Int) ∧ Fr w wr [(bs 0, 23), (rowOf .u8 (ob k) 32, 23)]) (fun iv _ => 32 - (intOf iv).toNat)
  case atStart => exact ⟨0, by omega, rfl, h0⟩
  case round =>
    clear h0
    obtain ⟨k, hk, rfl, h0⟩ := hrel
    by_cases hlt : k < 32
    · have r1 : Row wr (w.heap.size + 1) 32 23 .u8 (ob k) := h0.at' 1 _ _ rfl
      obtain ⟨c1, f1⟩ := r1.at k hlt
      have hk0 : (0 : Int) ≤ (k : Int) := by omega
      have hk4 : (k : Int) < 32 := by omega
      have H0 := Lib.hid h0
      clear h0 r1
      go_wp2
      go_roundw
      case rel => exact ⟨k + 1, by omega, by go_num, H0.out.put 1 rfl k _ _ (by rw [← ob_up]; exact rowOf_set .u8 (ob k) 32 k 255)⟩
      case measure => simp [intOf]; omega
    · obtain rfl : k = 32 := by omega
      rw [show ((32 : Nat) : Int) = (32 : Int) from rfl]
      have r1 : Row wr (w.heap.size + 1) 32 23 .u8 (ob 32) := h0.at' 1 _ _ rfl
      obtain ⟨c0, f0⟩ := r1.at 0 (by omega)
      obtain ⟨c1, f1⟩ := r1.at 31 (by omega)
      clear r1
      have h1 := (h0.put 1 rfl 0 (.int .u8 (237 : Int)) _ (rowOf_set .u8 (ob 32) 32 0 237)).put 1 rfl 31 (.int .u8 (127 : Int)) _ (rowOf_set .u8 _ 32 31 127)
      have H1 := Lib.hid h1
      clear h0 h1
      go_wp2_with (first
        | (with_reducible refine wpList_load_row rfl 23 _ rfl (w.heap.size + 1) rfl 23 _ (0, 0) _ (H1.out.at' 1 _ _ rfl) Try.underlying23 rfl (by rw [rowOf_size]; exact info_b) ?_)
        | (with_reducible refine wpList_store_row rfl 23 _ _ rfl (w.heap.size) _ rfl rfl 23 _ (H1.out.at' 0 _ _ rfl) (by rw [rowOf_size]; exact info_b) (by rw [bs_sz, rowOf_size]) (rowOf_one _ _ _) ?_))
      refine bodyPost_ret (v := .agg (rowOf .u8 (up (up (ob 32) 0 237) 31 127) 32)) (results_cell_row rfl _ _ (w.heap.size) 23 _ (0, 0) _ rfl (setRow_heap _ _ _ _ _ _ (H1.out.at' 0 _ _ rfl)) Try.underlying23 rfl (by rw [rowOf_size]; exact info_b)) rfl ⟨by rw [ob_end], below_setRow H1.out.below (by omega)⟩

/-- From k on two numbers have the same bytes; then byte k says which is less. -/
theorem lt_at (a b k : Nat) (hk : k < 32) (ha : a < MM) (hb : b < MM) (h : ∀ j, k + 1 ≤ j → j < 32 → bt a j = bt b j) (hne : bt a k ≠ bt b k) : (a < b) ↔ (bt a k < bt b k) := by
  have hq : a / 256 ^ (k + 1) = b / 256 ^ (k + 1) := by
    have e : ∀ n, n < MM → n / 256 ^ (k + 1) = val 256 (fun j => bt n (k + 1 + j)) (31 - k) := by
      intro n hn
      have : (fun j => bt n (k + 1 + j)) = (fun j => n / 256 ^ (k + 1) / 256 ^ j % 256) := by
        funext j; unfold bt; rw [Nat.pow_add, ← Nat.div_div_eq_div_mul]
      rw [this, val_digits]
      refine (Nat.mod_eq_of_lt ?_).symm
      rw [MM_eq_b] at hn
      rw [Nat.div_lt_iff_lt_mul (Nat.pow_pos (by decide)), ← Nat.pow_add, show 31 - k + (k + 1) = 32 by omega]
      exact hn
    rw [e a ha, e b hb]
    exact val_congr fun j hj => h _ (by omega) (by omega)
  have da : a / 256 ^ k = 256 * (a / 256 ^ (k + 1)) + bt a k := by unfold bt; rw [Nat.pow_succ, ← Nat.div_div_eq_div_mul]; omega
  have db : b / 256 ^ k = 256 * (b / 256 ^ (k + 1)) + bt b k := by unfold bt; rw [Nat.pow_succ, ← Nat.div_div_eq_div_mul]; omega
  have ma := Nat.div_add_mod a (256 ^ k)
  have mb := Nat.div_add_mod b (256 ^ k)
  have hp : 0 < 256 ^ k := Nat.pow_pos (by decide)
  have la := Nat.mod_lt a hp
  have lb := Nat.mod_lt b hp
  rw [hq] at da
  generalize 256 ^ k = p at *
  constructor
  · intro hab
    apply Nat.lt_of_not_le
    intro hle
    have : p * (b / p + 1) ≤ p * (a / p) := Nat.mul_le_mul_left _ (by omega)
    rw [Nat.mul_add] at this
    omega
  · intro hbt
    have : p * (a / p + 1) ≤ p * (b / p) := Nat.mul_le_mul_left _ (by omega)
    rw [Nat.mul_add] at this
    omega

set_option maxHeartbeats 1000000 in
theorem rbelow_any (a b : Nat) (ha : a < MM) (hb : b < MM) (w : World) : Calls Try.prog 33 #[.agg (bs a), .agg (bs b)] w fun e w' => e = .returned (.bool (decide (a < b))) ∧ Below w.heap.size w w' := by
  have HA := Lib.hid ha
  have HB := Lib.hid hb
  clear ha hb
  go_enter Try.func33, Try.ntmps33
  go_wp2_with fail
  generalize hW : World.alloc _ _ = W0
  have h0 : Fr w W0 [(bs a, 23), (bs b, 23)] := hW ▸ Fr.two w (bs a) (bs b) _ _
  clear hW
  go_loopw [5] (fun iv wr => ∃ (k : Nat) (x : Int), k ≤ 32 ∧ x = (k : Int) - 1 ∧ iv = .int .i64 x ∧ Fr w wr [(bs a, 23), (bs b, 23)] ∧ Hid (∀ j, k ≤ j → j < 32 → bt a j = bt b j)) (fun iv _ => (intOf iv + 1).toNat)
  case atStart => exact ⟨32, 31, by omega, by decide, rfl, h0, fun j _ _ => by omega⟩
  case round =>
    clear h0
    obtain ⟨k, x, hk, hx, rfl, h0, hs⟩ := hrel
    rcases k with _ | k
    · obtain rfl : x = -1 := by omega
      have hab : a = b := (bytes_same a b HA.out HB.out).1 fun j hj => hs.out j (by omega) hj
      have HD : Hid (decide (a < b) = false) := by show _ = _; rw [hab]; simp
      clear hx hk hab
      go_wp2
      go_ret
      exact ⟨by rw [HD.out]; rfl, h0.below⟩
    · obtain rfl : x = (k : Int) := by omega
      clear hx
      have r0 : Row wr (w.heap.size) 32 23 .u8 (bt a) := h0.at' 0 _ _ rfl
      have r1 : Row wr (w.heap.size + 1) 32 23 .u8 (bt b) := h0.at' 1 _ _ rfl
      obtain ⟨c0, _⟩ := r0.at k (by omega)
      obtain ⟨c1, _⟩ := r1.at k (by omega)
      have k0 : (0 : Int) ≤ (k : Int) := by omega
      have k1 : (k : Int) < 32 := by omega
      have H0 := Lib.hid h0
      clear h0 r0 r1
      by_cases he : bt a k = bt b k
      · have hn : ((bt a k : Int) != (bt b k : Int)) = false := by rw [he]; simp
        have HE := Lib.hid he
        clear he
        go_wp2_with fail
        go_quiet (fail)
        go_wp2
        go_roundw
        case rel =>
          refine ⟨k, (k : Int) - 1, by omega, rfl, rfl, H0.out.drewN _, fun j h1 h2 => ?_⟩
          rcases Nat.lt_or_ge k j with h | h
          · exact hs.out j h h2
          · obtain rfl : j = k := by omega
            exact HE.out
        case measure => simp [intOf]
      · have hn : ((bt a k : Int) != (bt b k : Int)) = true := by simp; omega
        have HE := Lib.hid he
        have HL := Lib.hid (lt_at a b k (by omega) HA.out HB.out (fun j h1 h2 => hs.out j h1 h2) he)
        clear he
        go_wp2_with fail
        go_quiet (fail)
        clear hn
        go_wp2_with fail
        go_quiet (fail)
        go_wp2
        go_ret
        refine ⟨?_, by first | exact (H0.out.drewN _).below | exact ((H0.out.drewN _).drewN _).below⟩
        rw [show decide (a < b) = decide (bt a k < bt b k) from decide_eq_decide.2 HL.out]; rfl
end Go.Proofs.Ytghcggecahaccaa.Fld
