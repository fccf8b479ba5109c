/- Layer 3, the document's answers: the order, which number is less, what is left. Layer 3: bytes of a number, what is borrowed between them: plain facts, no program. Layer 3, the document's answers: a number without another one. Layer 3, the document's answers: Canon, Reduce, Neg. Layer 3, the document's answers: a number's words. Layer 3, the document's answers: eight words folded. -/
import Derived.Test.YtfpphinnngblgaaDoorFldK
import Derived.Test.YtfpphinnngblgaaDoorFr
import Derived.Deep.QuietTactic
import Derived.Test.YtfpphinnngblgaaDoorFldM
import Derived.Test.YtfpphinnngblgaaDoorFldQ
import Derived.Test.YtfpphinnngblgaaDoorSym
import Derived.Deep.LoopGhost
import Derived.StillTailTactics
namespace Go.Proofs.YtfpphinnngblgaaDoor.Fld
open Go.RowKit
open Go.Proofs.YtfpphinnngblgaaDoor.Arr
open Go.Proofs.YtfpphinnngblgaaDoor.Num (val up val_congr val_add val_lt val_up val_digits val_word)

/-- The order's bytes on their way. -/
def ob (k : Nat) : Nat → Nat := fun j => if j < k then 255 else 0
theorem ob_up (k : Nat) : up (ob k) k 255 = ob (k + 1) := by
  funext j
  unfold up ob
  by_cases e : j = k
  · rw [if_pos e, if_pos (by omega)]
  · rw [if_neg e]
    by_cases h : j < k
    · rw [if_pos h, if_pos (by omega)]
    · rw [if_neg h, if_neg (by omega)]
theorem ob_end : rowOf .u8 (up (up (ob 32) 0 237) 31 127) 32 = bs PP := by rfl
set_option maxHeartbeats 1000000 in
theorem rorder_any (w : World) : Calls Tryd.prog 56 #[] w fun e w' => e = .returned (.agg (bs PP)) ∧ Below w.heap.size w w' := by
  go_enter Tryd.func56, Tryd.ntmps56
  go_wp2_with fail
  generalize hW : World.alloc _ _ = W0
  have h0 : Fr w W0 [(bs 0, 23), (rowOf .u8 (ob 0) 32, 23)] := hW ▸ Fr.two w (bs 0) (rowOf .u8 (ob 0) 32) _ _
  clear hW
  go_loopw [2] (fun iv wr => ∃ k : Nat, k ≤ 32 ∧ iv = .int .i64 (k : Int) ∧ Fr w wr [(bs 0, 23), (rowOf .u8 (ob k) 32, 23)]) (fun iv _ => 32 - (intOf iv).toNat)
  case atStart => exact ⟨0, by omega, rfl, h0⟩
  case round =>
    clear h0
    obtain ⟨k, hk, rfl, h0⟩ := hrel
    by_cases hlt : k < 32
    · have r1 : Row wr (w.heap.size + 1) 32 23 .u8 (ob k) := h0.at' 1 _ _ rfl
      obtain ⟨c1, f1⟩ := r1.at k hlt
      have hk0 : (0 : Int) ≤ (k : Int) := by omega
      have hk4 : (k : Int) < 32 := by omega
      have H0 := Lib.hid h0
      clear h0 r1
      go_wp2
      go_roundw
      case rel => exact ⟨k + 1, by omega, by go_num, H0.out.put 1 rfl k _ _ (by rw [← ob_up]; exact rowOf_set .u8 (ob k) 32 k 255)⟩
      case measure => simp [intOf]; omega
    · obtain rfl : k = 32 := by omega
      rw [show ((32 : Nat) : Int) = (32 : Int) from rfl]
      have r1 : Row wr (w.heap.size + 1) 32 23 .u8 (ob 32) := h0.at' 1 _ _ rfl
      obtain ⟨c0, f0⟩ := r1.at 0 (by omega)
      obtain ⟨c1, f1⟩ := r1.at 31 (by omega)
      clear r1
      have h1 := (h0.put 1 rfl 0 (.int .u8 (237 : Int)) _ (rowOf_set .u8 (ob 32) 32 0 237)).put 1 rfl 31 (.int .u8 (127 : Int)) _ (rowOf_set .u8 _ 32 31 127)
      have H1 := Lib.hid h1
      clear h0 h1
      go_wp2_with (first
        | (with_reducible refine wpList_load_row rfl 23 _ rfl (w.heap.size + 1) rfl 23 _ (0, 0) _ (H1.out.at' 1 _ _ rfl) Tryd.underlying23 rfl (by rw [rowOf_size]; exact info_b) ?_)
        | (with_reducible refine wpList_store_row rfl 23 _ _ rfl (w.heap.size) _ rfl rfl 23 _ (H1.out.at' 0 _ _ rfl) (by rw [rowOf_size]; exact info_b) (by rw [bs_sz, rowOf_size]) (rowOf_one _ _ _) ?_))
      refine bodyPost_ret (v := .agg (rowOf .u8 (up (up (ob 32) 0 237) 31 127) 32)) (results_cell_row rfl _ _ (w.heap.size) 23 _ (0, 0) _ rfl (setRow_heap _ _ _ _ _ _ (H1.out.at' 0 _ _ rfl)) Tryd.underlying23 rfl (by rw [rowOf_size]; exact info_b)) rfl ⟨by rw [ob_end], below_setRow H1.out.below (by omega)⟩

/-- From k on two numbers have the same bytes; then byte k says which is less. -/
theorem lt_at (a b k : Nat) (hk : k < 32) (ha : a < MM) (hb : b < MM) (h : ∀ j, k + 1 ≤ j → j < 32 → bt a j = bt b j) (hne : bt a k ≠ bt b k) : (a < b) ↔ (bt a k < bt b k) := by
  have hq : a / 256 ^ (k + 1) = b / 256 ^ (k + 1) := by
    have e : ∀ n, n < MM → n / 256 ^ (k + 1) = val 256 (fun j => bt n (k + 1 + j)) (31 - k) := by
      intro n hn
      have : (fun j => bt n (k + 1 + j)) = (fun j => n / 256 ^ (k + 1) / 256 ^ j % 256) := by
        funext j; unfold bt; rw [Nat.pow_add, ← Nat.div_div_eq_div_mul]
      rw [this, val_digits]
      refine (Nat.mod_eq_of_lt ?_).symm
      rw [MM_eq_b] at hn
      rw [Nat.div_lt_iff_lt_mul (Nat.pow_pos (by decide)), ← Nat.pow_add, show 31 - k + (k + 1) = 32 by omega]
      exact hn
    rw [e a ha, e b hb]
    exact val_congr fun j hj => h _ (by omega) (by omega)
  have da : a / 256 ^ k = 256 * (a / 256 ^ (k + 1)) + bt a k := by unfold bt; rw [Nat.pow_succ, ← Nat.div_div_eq_div_mul]; omega
  have db : b / 256 ^ k = 256 * (b / 256 ^ (k + 1)) + bt b k := by unfold bt; rw [Nat.pow_succ, ← Nat.div_div_eq_div_mul]; omega
  have ma := Nat.div_add_mod a (256 ^ k)
  have mb := Nat.div_add_mod b (256 ^ k)
  have hp : 0 < 256 ^ k := Nat.pow_pos (by decide)
  have la := Nat.mod_lt a hp
  have lb := Nat.mod_lt b hp
  rw [hq] at da
  generalize 256 ^ k = p at *
  constructor
  · intro hab
    apply Nat.lt_of_not_le
    intro hle
    have : p * (b / p + 1) ≤ p * (a / p) := Nat.mul_le_mul_left _ (by omega)
    rw [Nat.mul_add] at this
    omega
  · intro hbt
    have : p * (a / p + 1) ≤ p * (b / p) := Nat.mul_le_mul_left _ (by omega)
    rw [Nat.mul_add] at this
    omega

set_option maxHeartbeats 1000000 in
theorem rbelow_any (a b : Nat) (ha : a < MM) (hb : b < MM) (w : World) : Calls Tryd.prog 55 #[.agg (bs a), .agg (bs b)] w fun e w' => e = .returned (.bool (decide (a < b))) ∧ Below w.heap.size w w' := by
  have HA := Lib.hid ha
  have HB := Lib.hid hb
  clear ha hb
  go_enter Tryd.func55, Tryd.ntmps55
  go_wp2_with fail
  generalize hW : World.alloc _ _ = W0
  have h0 : Fr w W0 [(bs a, 23), (bs b, 23)] := hW ▸ Fr.two w (bs a) (bs b) _ _
  clear hW
  go_loopw [5] (fun iv wr => ∃ (k : Nat) (x : Int), k ≤ 32 ∧ x = (k : Int) - 1 ∧ iv = .int .i64 x ∧ Fr w wr [(bs a, 23), (bs b, 23)] ∧ Hid (∀ j, k ≤ j → j < 32 → bt a j = bt b j)) (fun iv _ => (intOf iv + 1).toNat)
  case atStart => exact ⟨32, 31, by omega, by decide, rfl, h0, fun j _ _ => by omega⟩
  case round =>
    clear h0
    obtain ⟨k, x, hk, hx, rfl, h0, hs⟩ := hrel
    rcases k with _ | k
    · obtain rfl : x = -1 := by omega
      have hab : a = b := (bytes_same a b HA.out HB.out).1 fun j hj => hs.out j (by omega) hj
      have HD : Hid (decide (a < b) = false) := by show _ = _; rw [hab]; simp
      clear hx hk hab
      go_wp2
      go_ret
      exact ⟨by rw [HD.out]; rfl, h0.below⟩
    · obtain rfl : x = (k : Int) := by omega
      clear hx
      have r0 : Row wr (w.heap.size) 32 23 .u8 (bt a) := h0.at' 0 _ _ rfl
      have r1 : Row wr (w.heap.size + 1) 32 23 .u8 (bt b) := h0.at' 1 _ _ rfl
      obtain ⟨c0, _⟩ := r0.at k (by omega)
      obtain ⟨c1, _⟩ := r1.at k (by omega)
      have k0 : (0 : Int) ≤ (k : Int) := by omega
      have k1 : (k : Int) < 32 := by omega
      have H0 := Lib.hid h0
      clear h0 r0 r1
      by_cases he : bt a k = bt b k
      · have hn : ((bt a k : Int) != (bt b k : Int)) = false := by rw [he]; simp
        have HE := Lib.hid he
        clear he
        go_wp2_with fail
        go_quiet (fail)
        go_wp2
        go_roundw
        case rel =>
          refine ⟨k, (k : Int) - 1, by omega, rfl, rfl, H0.out.drewN _, fun j h1 h2 => ?_⟩
          rcases Nat.lt_or_ge k j with h | h
          · exact hs.out j h h2
          · obtain rfl : j = k := by omega
            exact HE.out
        case measure => simp [intOf]
      · have hn : ((bt a k : Int) != (bt b k : Int)) = true := by simp; omega
        have HE := Lib.hid he
        have HL := Lib.hid (lt_at a b k (by omega) HA.out HB.out (fun j h1 h2 => hs.out j h1 h2) he)
        clear he
        go_wp2_with fail
        go_quiet (fail)
        clear hn
        go_wp2_with fail
        go_quiet (fail)
        go_wp2
        go_ret
        refine ⟨?_, by first | exact (H0.out.drewN _).below | exact ((H0.out.drewN _).drewN _).below⟩
        rw [show decide (a < b) = decide (bt a k < bt b k) from decide_eq_decide.2 HL.out]; rfl
end Go.Proofs.YtfpphinnngblgaaDoor.Fld

namespace Go.Proofs.YtfpphinnngblgaaDoor.Fld
def bo8 (a b k : Nat) : Nat := if a % 256 ^ k < b % 256 ^ k then 1 else 0
theorem bpow_pos (k : Nat) : 0 < 256 ^ k := Nat.pow_pos (by decide)

theorem bo8_le (a b k : Nat) : bo8 a b k ≤ 1 := by unfold bo8; split <;> omega
theorem bo8_zero (a b : Nat) : bo8 a b 0 = 0 := by simp [bo8, Nat.mod_one]
theorem bmod_succ (a k : Nat) : a % 256 ^ (k + 1) = a % 256 ^ k + 256 ^ k * bt a k := Nat.mod_pow_succ
theorem bo8_succ (a b k : Nat) : bo8 a b (k + 1) = if bt a k < bt b k + bo8 a b k then 1 else 0 := by
  have h1 := Nat.mod_lt a (bpow_pos k)
  have h2 := Nat.mod_lt b (bpow_pos k)
  unfold bo8
  rw [bmod_succ, bmod_succ]
  generalize 256 ^ k = P at *
  generalize a % P = x at *
  generalize b % P = y at *
  generalize bt a k = p
  generalize bt b k = q
  by_cases hxy : x < y
  · rw [if_pos hxy]
    by_cases hpq : p < q + 1
    · rw [if_pos hpq, if_pos]
      have : P * p ≤ P * q := Nat.mul_le_mul_left _ (by omega)
      omega
    · rw [if_neg hpq, if_neg]
      have : P * (q + 1) ≤ P * p := Nat.mul_le_mul_left _ (by omega)
      rw [Nat.mul_add] at this
      omega
  · rw [if_neg hxy]
    by_cases hpq : p < q + 0
    · rw [if_pos hpq, if_pos]
      have : P * (p + 1) ≤ P * q := Nat.mul_le_mul_left _ (by omega)
      rw [Nat.mul_add] at this
      omega
    · rw [if_neg hpq, if_neg]
      have : P * q ≤ P * p := Nat.mul_le_mul_left _ (by omega)
      omega
theorem bt_sub (a b k : Nat) (hk : k < 32) (hb : b ≤ MM) : bt (a + MM - b) k = (bt a k + 256 - bt b k - bo8 a b k) % 256 := by
  have hM : MM = 256 ^ k * (256 * 256 ^ (31 - k)) := by
    rw [MM_eq_b, Nat.mul_comm 256 (_ ^ (31 - k)), ← Nat.pow_succ, ← Nat.pow_add]
    congr 1; omega
  have h1 := Nat.div_add_mod a (256 ^ k)
  have h2 := Nat.div_add_mod b (256 ^ k)
  have h3 := Nat.mod_lt a (bpow_pos k)
  have h4 := Nat.mod_lt b (bpow_pos k)
  have hP := bpow_pos k
  unfold bt bo8
  rw [hM] at hb ⊢
  generalize 256 ^ (31 - k) = m at *
  generalize 256 ^ k = P at *
  generalize a / P = p at *
  generalize b / P = q at *
  generalize a % P = x at *
  generalize b % P = y at *
  have hq : q ≤ 256 * m := by
    apply Nat.le_of_not_lt
    intro h
    have : P * (256 * m + 1) ≤ P * q := Nat.mul_le_mul_left _ h
    rw [Nat.mul_add] at this
    omega
  have hq0 : x < y → q + 1 ≤ p + 256 * m := by
    intro hxy
    apply Nat.le_of_not_lt
    intro h
    have hz : p = 0 := by omega
    have hz2 : q = 256 * m := by omega
    subst hz; subst hz2; omega
  have e : (a + P * (256 * m) - b) / P = p + 256 * m - q - (if x < y then 1 else 0) := by
    by_cases hxy : x < y
    · rw [if_pos hxy]
      have hq1 := hq0 hxy
      have : a + P * (256 * m) - b = (P + x - y) + P * (p + 256 * m - q - 1) := by
        have e1 : P * (p + 256 * m - q - 1) = P * p + P * (256 * m) - P * q - P := by
          rw [Nat.mul_sub, Nat.mul_sub, Nat.mul_add, Nat.mul_one]
        have : P * (q + 1) ≤ P * (p + 256 * m) := Nat.mul_le_mul_left _ hq1
        rw [Nat.mul_add, Nat.mul_add] at this
        omega
      rw [this, Nat.add_mul_div_left _ _ hP, Nat.div_eq_of_lt (by omega)]; omega
    · rw [if_neg hxy]
      have : a + P * (256 * m) - b = (x - y) + P * (p + 256 * m - q) := by
        have e1 : P * (p + 256 * m - q) = P * p + P * (256 * m) - P * q := by
          rw [Nat.mul_sub, Nat.mul_add]
        have : P * q ≤ P * (p + 256 * m) := Nat.mul_le_mul_left _ (by omega)
        rw [Nat.mul_add] at this
        omega
      rw [this, Nat.add_mul_div_left _ _ hP, Nat.div_eq_of_lt (by omega)]; omega
  rw [e]
  clear e h1 h2 hb hM
  by_cases hxy : x < y
  · have hq1 := hq0 hxy
    rw [if_pos hxy]; omega
  · rw [if_neg hxy]; omega
theorem bo8_top (a b : Nat) (ha : a < MM) (hb : b < MM) : bo8 a b 32 = if a < b then 1 else 0 := by
  unfold bo8
  rw [MM_eq_b] at *
  rw [Nat.mod_eq_of_lt ha, Nat.mod_eq_of_lt hb]
end Go.Proofs.YtfpphinnngblgaaDoor.Fld

namespace Go.Proofs.YtfpphinnngblgaaDoor.Fld
open Go.RowKit
open Go.Proofs.YtfpphinnngblgaaDoor.Arr
open Go.Proofs.YtfpphinnngblgaaDoor.Num (val up val_congr val_add val_lt val_up val_digits val_word)

/-- A number's bytes while they are replaced: the first k are there. -/
def mixb (a n k : Nat) : Nat → Nat := fun j => if j < k then bt n j else bt a j
theorem mixb_up (a n k : Nat) : up (mixb a n k) k (bt n k) = mixb a n (k + 1) := by
  funext j
  unfold up mixb
  by_cases e : j = k
  · rw [if_pos e, e, if_pos (by omega)]
  · rw [if_neg e]
    by_cases h : j < k
    · rw [if_pos h, if_pos (by omega)]
    · rw [if_neg h, if_neg (by omega)]
theorem mixb_all (a n : Nat) : rowOf .u8 (mixb a n 32) 32 = bs n := rowOf_congr fun j hj => by unfold mixb; rw [if_pos hj]
theorem mixb_none (a n : Nat) : rowOf .u8 (mixb a n 0) 32 = bs a := rowOf_congr fun j hj => by unfold mixb; rw [if_neg (by omega)]

set_option maxHeartbeats 1000000 in
theorem rless_any (a b : Nat) (hb : b ≤ MM) (w : World) : Calls Tryd.prog 62 #[.agg (bs a), .agg (bs b)] w fun e w' => e = .returned (.agg (bs (a + MM - b))) ∧ Below w.heap.size w w' := by
  have HB := Lib.hid hb
  clear hb
  go_enter Tryd.func62, Tryd.ntmps62
  go_wp2_with fail
  generalize hW : World.alloc _ _ = W0
  have h0 : Fr w W0 [(rowOf .u8 (mixb a (a + MM - b) 0) 32, 23), (bs b, 23), (bs 0, 23)] := by rw [mixb_none]; exact hW ▸ Fr.three w (bs a) (bs b) (bs 0) _ _ _
  clear hW
  go_loopw [5, 6] (fun cv iv wr => ∃ k : Nat, k ≤ 32 ∧ iv = .int .i64 (k : Int) ∧ cv = .int .i64 (bo8 a b k : Int) ∧ Fr w wr [(rowOf .u8 (mixb a (a + MM - b) k) 32, 23), (bs b, 23), (bs 0, 23)]) (fun _ iv _ => 32 - (intOf iv).toNat)
  case atStart => exact ⟨0, by omega, rfl, by rw [bo8_zero]; rfl, h0⟩
  case round =>
    clear h0
    obtain ⟨k, hk, rfl, rfl, h0⟩ := hrel
    by_cases hlt : k < 32
    · have r0 : Row wr (w.heap.size) 32 23 .u8 (mixb a (a + MM - b) k) := h0.at' 0 _ _ rfl
      have r1 : Row wr (w.heap.size + 1) 32 23 .u8 (bt b) := h0.at' 1 _ _ rfl
      obtain ⟨c0, f0⟩ := r0.at k hlt
      obtain ⟨c1, _⟩ := r1.at k hlt
      rw [show mixb a (a + MM - b) k k = bt a k by unfold mixb; rw [if_neg (by omega)]] at c0
      have ba := bt_lt a k
      have bb := bt_lt b k
      have bc := bo8_le a b k
      have e1 := bo8_succ a b k
      have e2 := bt_sub a b k hlt HB.out
      obtain ⟨p, hp⟩ : ∃ p, p = bt a k := ⟨_, rfl⟩
      obtain ⟨q, hq⟩ : ∃ q, q = bt b k := ⟨_, rfl⟩
      obtain ⟨c, hc⟩ : ∃ c, c = bo8 a b k := ⟨_, rfl⟩
      obtain ⟨n, hn⟩ : ∃ n, n = bt (a + MM - b) k := ⟨_, rfl⟩
      rw [← hp] at c0 ba e1 e2
      rw [← hq] at c1 bb e1 e2
      rw [← hc] at bc e1 e2
      rw [← hn] at e2
      have x1 : IntKind.i64.wrap ((p : Int) - (q : Int)) = (p : Int) - (q : Int) := IntWalk.i64_in _ (by omega)
      have x2 : IntKind.i64.wrap ((p : Int) - (q : Int) - (c : Int)) = (p : Int) - (q : Int) - (c : Int) := IntWalk.i64_in _ (by omega)
      obtain ⟨x, hx⟩ : ∃ x : Int, x = (p : Int) - (q : Int) - (c : Int) := ⟨_, rfl⟩
      rw [← hx] at x2
      have HX := Lib.hid hx
      have hxl : -257 ≤ x ∧ x ≤ 255 := by omega
      have k0 : (0 : Int) ≤ (k : Int) := by omega
      have k1 : (k : Int) < 32 := by omega
      have H0 := Lib.hid h0
      have HN := Lib.hid hn
      have HE1 := Lib.hid e1
      have HE2 := Lib.hid e2
      have hcw : ∀ z : Int, z = (p : Int) - (q : Int) - (c : Int) → z = x := fun z hz => hz.trans hx.symm
      clear h0 r0 r1 hx hn e1 e2 hp hq
      rw [← hc]
      clear hc
      have hnl : (n : Int) < 256 := by have := HE2.out; omega
      by_cases hneg : p < q + c
      · have hd : decide (x < 0) = true := by have := HX.out; simp; omega
        have hb1 : bo8 a b (k + 1) = 1 := by rw [HE1.out, if_pos hneg]
        have hnn : x + 256 = (n : Int) := by have := HX.out; have := HE2.out; omega
        have HB1 := Lib.hid hb1
        clear hneg hb1 hcw
        go_wp2_with fail
        go_quiet (fail)
        rw [← HX.out]
        clear x1 c1
        go_wp2
        go_roundw
        case rel =>
          refine ⟨k + 1, by omega, by go_num, by rw [HB1.out]; rfl, ?_⟩
          rw [← mixb_up, ← rowOf_set, ← HN.out]
          exact (H0.out.drewN _).put 0 rfl k _ _ rfl
        case measure => simp [intOf]; omega
      · have hd : decide (x < 0) = false := by have := HX.out; simp; omega
        have hb1 : bo8 a b (k + 1) = 0 := by rw [HE1.out, if_neg hneg]
        have hnn : x = (n : Int) := by have := HX.out; have := HE2.out; omega
        have HB1 := Lib.hid hb1
        clear hneg hb1 hcw hd
        subst hnn
        have hd : decide ((n : Int) < 0) = false := by simp
        go_wp2_with fail
        go_quiet (fail)
        rw [← HX.out]
        clear x1 c1
        go_wp2
        go_roundw
        case rel =>
          refine ⟨k + 1, by omega, by go_num, by rw [HB1.out]; rfl, ?_⟩
          rw [← mixb_up, ← rowOf_set, ← HN.out]
          exact (H0.out.drewN _).put 0 rfl k _ _ rfl
        case measure => simp [intOf]; omega
    · obtain rfl : k = 32 := by omega
      rw [show ((32 : Nat) : Int) = (32 : Int) from rfl]
      rw [mixb_all] at h0
      go_wp2_with (first
        | (with_reducible refine wpList_load_row rfl 23 _ rfl (w.heap.size) rfl 23 _ (0, 0) _ (h0.at' 0 _ _ rfl) Tryd.underlying23 rfl (by rw [bs_sz]; exact info_b) ?_)
        | (with_reducible refine wpList_store_row rfl 23 _ _ rfl (w.heap.size + 2) (bs (a + MM - b)) rfl rfl 23 _ (h0.at' 2 _ _ rfl) (by rw [bs_sz]; exact info_b) (by rw [bs_sz, bs_sz]) (bs_one _) ?_))
      refine bodyPost_ret (v := .agg (bs (a + MM - b))) (results_cell_row rfl _ _ (w.heap.size + 2) 23 _ (0, 0) _ rfl (setRow_heap _ _ _ _ _ _ (h0.at' 2 _ _ rfl)) Tryd.underlying23 rfl (by rw [bs_sz]; exact info_b)) rfl ⟨rfl, below_setRow h0.below (by omega)⟩
end Go.Proofs.YtfpphinnngblgaaDoor.Fld

namespace Go.Proofs.YtfpphinnngblgaaDoor.Fld
open Go.RowKit
open Go.Proofs.YtfpphinnngblgaaDoor.Arr Go.Proofs.YtfpphinnngblgaaDoor.Sym

theorem run_rorder {o : Oper} {a : Act} {w : World} (ho : o.op = .call { callee := .value (.func 56), args := #[], argTypes := #[] })  :
    (execOp a.eval o).run Tryd.prog w = .ok (.enter 56 #[]) w := by
  unfold execOp
  simp only [ho]
  have hf : a.eval (.func 56) = .func (.func 56) #[] #[] := rfl
  generalize a.eval = f at *
  go_simp
theorem run_rbelow {o : Oper} {a : Act} {w : World} {x0 x1 : Operand} {v0 v1 : Value} (ho : o.op = .call { callee := .value (.func 55), args := #[x0, x1], argTypes := #[23, 23] }) (h0 : a.eval x0 = v0) (h1 : a.eval x1 = v1) :
    (execOp a.eval o).run Tryd.prog w = .ok (.enter 55 #[v0, v1]) w := by
  unfold execOp
  simp only [ho]
  have hf : a.eval (.func 55) = .func (.func 55) #[] #[] := rfl
  generalize a.eval = f at *
  go_simp
theorem run_rless {o : Oper} {a : Act} {w : World} {x0 x1 : Operand} {v0 v1 : Value} (ho : o.op = .call { callee := .value (.func 62), args := #[x0, x1], argTypes := #[23, 23] }) (h0 : a.eval x0 = v0) (h1 : a.eval x1 = v1) :
    (execOp a.eval o).run Tryd.prog w = .ok (.enter 62 #[v0, v1]) w := by
  unfold execOp
  simp only [ho]
  have hf : a.eval (.func 62) = .func (.func 62) #[] #[] := rfl
  generalize a.eval = f at *
  go_simp
theorem run_rCanon {o : Oper} {a : Act} {w : World} {x0 : Operand} {v0 : Value} (ho : o.op = .call { callee := .value (.func 35), args := #[x0], argTypes := #[23] }) (h0 : a.eval x0 = v0) :
    (execOp a.eval o).run Tryd.prog w = .ok (.enter 35 #[v0]) w := by
  unfold execOp
  simp only [ho]
  have hf : a.eval (.func 35) = .func (.func 35) #[] #[] := rfl
  generalize a.eval = f at *
  go_simp
theorem run_rReduce {o : Oper} {a : Act} {w : World} {x0 : Operand} {v0 : Value} (ho : o.op = .call { callee := .value (.func 44), args := #[x0], argTypes := #[23] }) (h0 : a.eval x0 = v0) :
    (execOp a.eval o).run Tryd.prog w = .ok (.enter 44 #[v0]) w := by
  unfold execOp
  simp only [ho]
  have hf : a.eval (.func 44) = .func (.func 44) #[] #[] := rfl
  generalize a.eval = f at *
  go_simp
theorem run_rNeg {o : Oper} {a : Act} {w : World} {x0 : Operand} {v0 : Value} (ho : o.op = .call { callee := .value (.func 42), args := #[x0], argTypes := #[23] }) (h0 : a.eval x0 = v0) :
    (execOp a.eval o).run Tryd.prog w = .ok (.enter 42 #[v0]) w := by
  unfold execOp
  simp only [ho]
  have hf : a.eval (.func 42) = .func (.func 42) #[] #[] := rfl
  generalize a.eval = f at *
  go_simp
theorem PP_pos : 0 < PP := by decide
theorem rcanonb (a : Nat) (ha : a < MM) (w : World) : Calls Tryd.prog 55 #[.agg (bs a), .agg (bs PP)] w fun e w' => e = .returned (.bool (canonB a)) ∧ Below w.heap.size w w' := rbelow_any a PP ha pp_lt w
theorem rless_ge (a b : Nat) (h : b ≤ a ∧ b ≤ MM) (w : World) : Calls Tryd.prog 62 #[.agg (bs a), .agg (bs b)] w fun e w' => e = .returned (.agg (bs (a - b))) ∧ Below w.heap.size w w' := by
  have := rless_any a b h.2 w
  rw [bs_low (a + MM - b) (a - b) (by omega)] at this
  exact this
set_option maxHeartbeats 1000000 in
theorem rcanon_any (a : Nat) (ha : a < MM) (w : World) : Calls Tryd.prog 35 #[.agg (bs a)] w fun e w' => e = .returned (.bool (canonB a)) ∧ Below w.heap.size w w' := by
  have HA := Lib.hid ha
  clear ha
  go_enter Tryd.func35, Tryd.ntmps35
  have hbel0 := Below.refl w.heap.size w
  go_step
  go_step
  go_step
  refine lst (wanted_none rfl) (w_alloc (c := bs a) (T := 23) 1 rfl (run_box rfl rfl) (fun w1 he2 => ?_))
  have k3 := Blk.new he2
  have hg4 : w.heap.size ≤ w.heap.size := hbel0.size
  have hbel5 := bel_alloc hbel0 he2
  simp only [nz1, nz2, nz3]
  refine lv 2 (.bool false) rfl rfl (run_as rfl rfl) ?_
  simp only [nz1, nz2, nz3]
  go_step
  go_step
  go_step
  go_step
  have k6 := k3.drew
  have hbel7 := hbel5.drew
  refine wp_region_held_drew (S := fun w' => Blk w' (w.heap.size) (bs a) 23) (by kernel_rfl) k6 (fun _ => ?_)
  generalize w1.drew = wd8 at *
  refine tk 0 3 (.agg (bs a)) rfl rfl (fun _ hw => run_row rfl rfl hw Tryd.underlying23 rfl (by rw [bs_sz]; exact info_b)) k6 ?_
  simp only [nz1, nz2, nz3]
  refine one_ready 1 (by kernel_rfl) ?_
  refine opd rfl (wanted_none rfl) (w_enter 4 (.agg (bs PP)) rfl (run_rorder rfl) (rorder_any _) (fun w9 hb10 => ?_))
  have k11 := k6.call hb10
  have hbel12 := bel_call hbel7 hb10
  refine ⟨k11, ?_⟩
  simp only [nz1, nz2, nz3]
  refine one_ready 2 (by kernel_rfl) ?_
  refine opd rfl (wanted_none rfl) (w_enter 5 (.bool (canonB a)) rfl (run_rbelow rfl rfl rfl) (rcanonb a HA.out _) (fun w13 hb14 => ?_))
  have k15 := k11.call hb14
  have hbel16 := bel_call hbel12 hb14
  refine ⟨k15, ?_⟩
  simp only [nz1, nz2, nz3]
  refine one_ready 3 (by kernel_rfl) ?_
  refine opd rfl (wanted_none rfl) (w_value 2 (.bool (canonB a)) rfl (run_as rfl rfl) ⟨k15, ?_⟩)
  simp only [nz1, nz2, nz3]
  refine wpAnyH_done (by kernel_rfl) ?_ _
  go_step
  go_step
  go_wp2
  go_ret
  exact ⟨rfl, hbel16⟩

set_option maxHeartbeats 1000000 in
theorem rreduce_any (a : Nat) (ha : a < MM) (w : World) : Calls Tryd.prog 44 #[.agg (bs a)] w fun e w' => e = .returned (.agg (bs (a % PP))) ∧ Below w.heap.size w w' := by
  have HA := Lib.hid ha
  clear ha
  go_enter Tryd.func44, Tryd.ntmps44
  have hbel0 := Below.refl w.heap.size w
  go_step
  go_step
  go_step
  refine lst (wanted_none rfl) (w_alloc (c := bs a) (T := 23) 1 rfl (run_box rfl rfl) (fun w1 he2 => ?_))
  have k3 := Blk.new he2
  have hg4 : w.heap.size ≤ w.heap.size := hbel0.size
  have hbel5 := bel_alloc hbel0 he2
  simp only [nz1, nz2, nz3]
  refine lst (wanted_none rfl) (w_alloc (c := bs 0) (T := 23) 2 rfl (run_alN rfl) (fun w6 he7 => ?_))
  have hne9 : w.heap.size ≠ w1.heap.size := Nat.ne_of_lt k3.lt
  have k8 := k3.alloc he7
  have k10 := Blk.new he7
  have hg11 : w.heap.size ≤ w1.heap.size := hbel5.size
  have hbel12 := bel_alloc hbel5 he7
  simp only [nz1, nz2, nz3]
  go_step
  go_wp2_with fail
  go_loopg [] a (fun n wr => n < MM ∧ n % PP = a % PP ∧ Blk wr (w.heap.size) (bs n) 23 ∧ Blk wr (w1.heap.size) (bs 0) 23 ∧ Below w.heap.size w wr)
  case atStart => exact ⟨HA.out, rfl, k8, k10, hbel12⟩
  case round =>
    obtain ⟨hn, hm, r0, r1, hbelr⟩ := hrel
    have HN := Lib.hid hn
    have HM := Lib.hid hm
    have hnn : w.heap.size ≠ w1.heap.size := hne9
    clear hn hm
    by_cases hlt : gk < PP
    · have hcan : ∀ w, Calls Tryd.prog 35 #[.agg (bs gk)] w fun e w' => e = .returned (.bool true) ∧ Below w.heap.size w w' := by
        intro w
        have := rcanon_any gk HN.out w
        rwa [show canonB gk = true from decide_eq_true hlt] at this
      have HL := Lib.hid hlt
      clear hlt
      have hres : gk = a % PP := by rw [← HM.out, Nat.mod_eq_of_lt HL.out]
      have HR := Lib.hid hres
      clear hres
      go_step
      go_step
      go_step
      refine lv 3 (.agg (bs gk)) rfl rfl (run_row rfl rfl r0 Tryd.underlying23 rfl (by rw [bs_sz]; exact info_b)) ?_
      simp only [nz1, nz2, nz3]
      refine lst (wanted_none rfl) (w_enter 4 (.bool true) rfl (run_rCanon rfl rfl) (hcan _) (fun w13 hb14 => ?_))
      have k15 := r0.call hb14
      have k16 := r1.call hb14
      have hbel17 := bel_call hbelr hb14
      simp only [nz1, nz2, nz3]
      refine lv 5 (.bool false) rfl rfl (run_not true rfl rfl) ?_
      simp only [nz1, nz2, nz3]
      go_step
      go_step
      go_step
      go_step
      go_step
      go_step
      go_step
      go_step
      go_step
      refine lv 9 (.agg (bs gk)) rfl rfl (run_row rfl rfl k15 Tryd.underlying23 rfl (by rw [bs_sz]; exact info_b)) ?_
      simp only [nz1, nz2, nz3]
      refine lst (wanted_none rfl) (w_store 23 _ _ (w1.heap.size) (bs gk) rfl rfl rfl rfl k16 (by rw [bs_sz]; exact info_b) ((bs_sz _).trans (bs_sz _).symm) (bs_one _) (fun w23 he24 => ?_))
      have k25 := k15.other hnn he24
      have k26 := k16.set he24
      have hbel27 := bel_set hbel17 hg11 he24
      go_step
      go_wp2
      refine bodyPost_ret (v := .agg (bs gk)) (results_cell_row rfl _ _ (w1.heap.size) 23 _ (0, 0) _ rfl k26 Tryd.underlying23 rfl (by rw [bs_sz]; exact info_b)) rfl ⟨by rw [← HR.out], hbel27⟩
    · have hcan : ∀ w, Calls Tryd.prog 35 #[.agg (bs gk)] w fun e w' => e = .returned (.bool false) ∧ Below w.heap.size w w' := by
        intro w
        have := rcanon_any gk HN.out w
        rwa [show canonB gk = false from decide_eq_false hlt] at this
      have hge : PP ≤ gk ∧ PP ≤ MM := ⟨Nat.le_of_not_lt hlt, Nat.le_of_lt pp_lt⟩
      have HG := Lib.hid hge
      clear hge hlt
      go_step
      go_step
      go_step
      refine lv 3 (.agg (bs gk)) rfl rfl (run_row rfl rfl r0 Tryd.underlying23 rfl (by rw [bs_sz]; exact info_b)) ?_
      simp only [nz1, nz2, nz3]
      refine lst (wanted_none rfl) (w_enter 4 (.bool false) rfl (run_rCanon rfl rfl) (hcan _) (fun w18 hb19 => ?_))
      have k20 := r0.call hb19
      have k21 := r1.call hb19
      have hbel22 := bel_call hbelr hb19
      simp only [nz1, nz2, nz3]
      refine lv 5 (.bool true) rfl rfl (run_not false rfl rfl) ?_
      simp only [nz1, nz2, nz3]
      go_step
      go_step
      go_step
      go_step
      go_step
      go_step
      go_step
      go_step
      have k28 := k20.drew
      have k29 := k21.drew
      have hbel30 := hbel22.drew
      refine wp_region_held_drew (S := fun w' => True) (by kernel_rfl) trivial (fun _ => ?_)
      generalize w18.drew = wd31 at *
      refine two_ready 0 1 (by kernel_rfl) ?_ ?_
      · refine opd rfl (wanted_none rfl) (w_value 6 (.agg (bs gk)) rfl (run_row rfl rfl k28 Tryd.underlying23 rfl (by rw [bs_sz]; exact info_b)) ⟨trivial, ?_⟩)
        simp only [nz1, nz2, nz3]
        refine one_ready 1 (by kernel_rfl) ?_
        refine opd rfl (wanted_none rfl) (w_enter 7 (.agg (bs PP)) rfl (run_rorder rfl) (rorder_any _) (fun w32 hb33 => ?_))
        have k34 := k28.call hb33
        have k35 := k29.call hb33
        have hbel36 := bel_call hbel30 hb33
        refine ⟨trivial, ?_⟩
        simp only [nz1, nz2, nz3]
        refine one_ready 2 (by kernel_rfl) ?_
        refine opd rfl (wanted_none rfl) (w_enter 8 (.agg (bs (gk - PP))) rfl (run_rless rfl rfl rfl) (rless_ge gk PP HG.out _) (fun w37 hb38 => ?_))
        have k39 := k34.call hb38
        have k40 := k35.call hb38
        have hbel41 := bel_call hbel36 hb38
        refine ⟨trivial, ?_⟩
        simp only [nz1, nz2, nz3]
        refine one_ready 3 (by kernel_rfl) ?_
        refine opd rfl (wanted_none rfl) (w_store 23 _ _ (w.heap.size) (bs (gk - PP)) rfl rfl rfl rfl k39 (by rw [bs_sz]; exact info_b) ((bs_sz _).trans (bs_sz _).symm) (bs_one _) (fun w42 he43 => ?_))
        have k44 := k40.other hnn.symm he43
        have k45 := k39.set he43
        have hbel46 := bel_set hbel41 (Nat.le_refl _) he43
        refine ⟨trivial, ?_⟩
        refine wpAnyH_done (by kernel_rfl) ?_ _
        go_wp2
        go_roundg (gk - PP)
        case rel => exact ⟨Nat.lt_of_le_of_lt (Nat.sub_le _ _) HN.out, by rw [← HM.out]; exact (Nat.mod_eq_sub_mod HG.out.1).symm, k45, k44, hbel46⟩
        case measure =>
          have := HG.out.1
          have := PP_pos
          omega
      · refine opd rfl (wanted_none rfl) (w_enter 7 (.agg (bs PP)) rfl (run_rorder rfl) (rorder_any _) (fun w47 hb48 => ?_))
        have k49 := k28.call hb48
        have k50 := k29.call hb48
        have hbel51 := bel_call hbel30 hb48
        refine ⟨trivial, ?_⟩
        simp only [nz1, nz2, nz3]
        refine one_ready 0 (by kernel_rfl) ?_
        refine opd rfl (wanted_none rfl) (w_value 6 (.agg (bs gk)) rfl (run_row rfl rfl k49 Tryd.underlying23 rfl (by rw [bs_sz]; exact info_b)) ⟨trivial, ?_⟩)
        simp only [nz1, nz2, nz3]
        refine one_ready 2 (by kernel_rfl) ?_
        refine opd rfl (wanted_none rfl) (w_enter 8 (.agg (bs (gk - PP))) rfl (run_rless rfl rfl rfl) (rless_ge gk PP HG.out _) (fun w52 hb53 => ?_))
        have k54 := k49.call hb53
        have k55 := k50.call hb53
        have hbel56 := bel_call hbel51 hb53
        refine ⟨trivial, ?_⟩
        simp only [nz1, nz2, nz3]
        refine one_ready 3 (by kernel_rfl) ?_
        refine opd rfl (wanted_none rfl) (w_store 23 _ _ (w.heap.size) (bs (gk - PP)) rfl rfl rfl rfl k54 (by rw [bs_sz]; exact info_b) ((bs_sz _).trans (bs_sz _).symm) (bs_one _) (fun w57 he58 => ?_))
        have k59 := k55.other hnn.symm he58
        have k60 := k54.set he58
        have hbel61 := bel_set hbel56 (Nat.le_refl _) he58
        refine ⟨trivial, ?_⟩
        refine wpAnyH_done (by kernel_rfl) ?_ _
        go_wp2
        go_roundg (gk - PP)
        case rel => exact ⟨Nat.lt_of_le_of_lt (Nat.sub_le _ _) HN.out, by rw [← HM.out]; exact (Nat.mod_eq_sub_mod HG.out.1).symm, k60, k59, hbel61⟩
        case measure =>
          have := HG.out.1
          have := PP_pos
          omega

set_option maxHeartbeats 1000000 in
theorem rneg_z (a : Nat) (hred : ∀ w, Calls Tryd.prog 44 #[.agg (bs a)] w fun e w' => e = .returned (.agg (bs 0)) ∧ Below w.heap.size w w') (w : World) : Calls Tryd.prog 42 #[.agg (bs a)] w fun e w' => e = .returned (.agg (bs 0)) ∧ Below w.heap.size w w' := by
  go_enter Tryd.func42, Tryd.ntmps42
  have hbel0 := Below.refl w.heap.size w
  go_step
  go_step
  go_step
  refine lst (wanted_none rfl) (w_alloc (c := bs a) (T := 23) 1 rfl (run_box rfl rfl) (fun w1 he2 => ?_))
  have k3 := Blk.new he2
  have hg4 : w.heap.size ≤ w.heap.size := hbel0.size
  have hbel5 := bel_alloc hbel0 he2
  simp only [nz1, nz2, nz3]
  refine lst (wanted_none rfl) (w_alloc (c := bs 0) (T := 23) 2 rfl (run_alN rfl) (fun w6 he7 => ?_))
  have hne9 : w.heap.size ≠ w1.heap.size := Nat.ne_of_lt k3.lt
  have k8 := k3.alloc he7
  have k10 := Blk.new he7
  have hg11 : w.heap.size ≤ w1.heap.size := hbel5.size
  have hbel12 := bel_alloc hbel5 he7
  simp only [nz1, nz2, nz3]
  go_step
  go_step
  go_step
  go_step
  go_step
  refine lv 3 (.agg (bs a)) rfl rfl (run_row rfl rfl k8 Tryd.underlying23 rfl (by rw [bs_sz]; exact info_b)) ?_
  simp only [nz1, nz2, nz3]
  refine lst (wanted_none rfl) (w_enter 4 (.agg (bs 0)) rfl (run_rReduce rfl rfl) (hred _) (fun w13 hb14 => ?_))
  have k15 := k8.call hb14
  have k16 := k10.call hb14
  have hbel17 := bel_call hbel12 hb14
  simp only [nz1, nz2, nz3]
  refine lst (wanted_none rfl) (w_store 23 _ _ (w.heap.size) (bs 0) rfl rfl rfl rfl k15 (by rw [bs_sz]; exact info_b) ((bs_sz _).trans (bs_sz _).symm) (bs_one _) (fun w18 he19 => ?_))
  have k20 := k16.other hne9.symm he19
  have k21 := k15.set he19
  have hbel22 := bel_set hbel17 hg4 he19
  go_step
  go_step
  go_step
  go_step
  go_step
  go_step
  refine lv 5 (.agg (bs 0)) rfl rfl (run_row rfl rfl k21 Tryd.underlying23 rfl (by rw [bs_sz]; exact info_b)) ?_
  simp only [nz1, nz2, nz3]
  refine lv 6 (.agg (bs 0)) rfl rfl (by unfold execOp; go_simp; rfl) ?_
  simp only [nz1, nz2, nz3]
  refine lv 7 (.bool true) rfl rfl (run_eqN 0 0 (by decide) (by decide) true rfl rfl rfl rfl) ?_
  simp only [nz1, nz2, nz3]
  go_step
  go_step
  go_step
  go_step
  go_step
  go_step
  refine lv 8 (.agg (bs 0)) rfl rfl (run_row rfl rfl k21 Tryd.underlying23 rfl (by rw [bs_sz]; exact info_b)) ?_
  simp only [nz1, nz2, nz3]
  refine lst (wanted_none rfl) (w_store 23 _ _ (w1.heap.size) (bs 0) rfl rfl rfl rfl k20 (by rw [bs_sz]; exact info_b) ((bs_sz _).trans (bs_sz _).symm) (bs_one _) (fun w23 he24 => ?_))
  have k25 := k21.other hne9 he24
  have k26 := k20.set he24
  have hbel27 := bel_set hbel22 hg11 he24
  go_step
  go_step
  go_step
  go_wp2
  refine bodyPost_ret (v := .agg (bs 0)) (results_cell_row rfl _ _ (w1.heap.size) 23 _ (0, 0) _ rfl k26 Tryd.underlying23 rfl (by rw [bs_sz]; exact info_b)) rfl ⟨rfl, hbel27⟩

set_option maxHeartbeats 1000000 in
theorem rneg_p (a m : Nat) (hm : m ≠ 0 ∧ m ≤ PP ∧ m < MM) (hred : ∀ w, Calls Tryd.prog 44 #[.agg (bs a)] w fun e w' => e = .returned (.agg (bs m)) ∧ Below w.heap.size w w') (w : World) : Calls Tryd.prog 42 #[.agg (bs a)] w fun e w' => e = .returned (.agg (bs (PP - m))) ∧ Below w.heap.size w w' := by
  go_enter Tryd.func42, Tryd.ntmps42
  have hbel0 := Below.refl w.heap.size w
  go_step
  go_step
  go_step
  refine lst (wanted_none rfl) (w_alloc (c := bs a) (T := 23) 1 rfl (run_box rfl rfl) (fun w1 he2 => ?_))
  have k3 := Blk.new he2
  have hg4 : w.heap.size ≤ w.heap.size := hbel0.size
  have hbel5 := bel_alloc hbel0 he2
  simp only [nz1, nz2, nz3]
  refine lst (wanted_none rfl) (w_alloc (c := bs 0) (T := 23) 2 rfl (run_alN rfl) (fun w6 he7 => ?_))
  have hne9 : w.heap.size ≠ w1.heap.size := Nat.ne_of_lt k3.lt
  have k8 := k3.alloc he7
  have k10 := Blk.new he7
  have hg11 : w.heap.size ≤ w1.heap.size := hbel5.size
  have hbel12 := bel_alloc hbel5 he7
  simp only [nz1, nz2, nz3]
  go_step
  go_step
  go_step
  go_step
  go_step
  refine lv 3 (.agg (bs a)) rfl rfl (run_row rfl rfl k8 Tryd.underlying23 rfl (by rw [bs_sz]; exact info_b)) ?_
  simp only [nz1, nz2, nz3]
  refine lst (wanted_none rfl) (w_enter 4 (.agg (bs m)) rfl (run_rReduce rfl rfl) (hred _) (fun w13 hb14 => ?_))
  have k15 := k8.call hb14
  have k16 := k10.call hb14
  have hbel17 := bel_call hbel12 hb14
  simp only [nz1, nz2, nz3]
  refine lst (wanted_none rfl) (w_store 23 _ _ (w.heap.size) (bs m) rfl rfl rfl rfl k15 (by rw [bs_sz]; exact info_b) ((bs_sz _).trans (bs_sz _).symm) (bs_one _) (fun w18 he19 => ?_))
  have k20 := k16.other hne9.symm he19
  have k21 := k15.set he19
  have hbel22 := bel_set hbel17 hg4 he19
  go_step
  go_step
  go_step
  go_step
  go_step
  go_step
  refine lv 5 (.agg (bs m)) rfl rfl (run_row rfl rfl k21 Tryd.underlying23 rfl (by rw [bs_sz]; exact info_b)) ?_
  simp only [nz1, nz2, nz3]
  refine lv 6 (.agg (bs 0)) rfl rfl (by unfold execOp; go_simp; rfl) ?_
  simp only [nz1, nz2, nz3]
  refine lv 7 (.bool false) rfl rfl (run_eqN m 0 hm.2.2 (by decide) false (decide_eq_false hm.1) rfl rfl rfl) ?_
  simp only [nz1, nz2, nz3]
  go_step
  go_step
  go_step
  go_step
  go_step
  go_step
  go_step
  go_step
  have k23 := k21.drew
  have k24 := k20.drew
  have hbel25 := hbel22.drew
  refine wp_region_held_drew (S := fun w' => Blk w' (w.heap.size) (bs m) 23) (by kernel_rfl) k23 (fun _ => ?_)
  generalize w18.drew = wd26 at *
  refine tk 1 10 (.agg (bs m)) rfl rfl (fun _ hw => run_row rfl rfl hw Tryd.underlying23 rfl (by rw [bs_sz]; exact info_b)) k23 ?_
  simp only [nz1, nz2, nz3]
  refine one_ready 0 (by kernel_rfl) ?_
  refine opd rfl (wanted_none rfl) (w_enter 9 (.agg (bs PP)) rfl (run_rorder rfl) (rorder_any _) (fun w27 hb28 => ?_))
  have k29 := k23.call hb28
  have k30 := k24.call hb28
  have hbel31 := bel_call hbel25 hb28
  refine ⟨k29, ?_⟩
  simp only [nz1, nz2, nz3]
  refine one_ready 2 (by kernel_rfl) ?_
  refine opd rfl (wanted_none rfl) (w_enter 11 (.agg (bs (PP - m))) rfl (run_rless rfl rfl rfl) (rless_ge PP m ⟨hm.2.1, Nat.le_of_lt hm.2.2⟩ _) (fun w32 hb33 => ?_))
  have k34 := k29.call hb33
  have k35 := k30.call hb33
  have hbel36 := bel_call hbel31 hb33
  refine ⟨k34, ?_⟩
  simp only [nz1, nz2, nz3]
  refine one_ready 3 (by kernel_rfl) ?_
  refine opd rfl (wanted_none rfl) (w_store 23 _ _ (w1.heap.size) (bs (PP - m)) rfl rfl rfl rfl k35 (by rw [bs_sz]; exact info_b) ((bs_sz _).trans (bs_sz _).symm) (bs_one _) (fun w37 he38 => ?_))
  have k39 := k34.other hne9 he38
  have k40 := k35.set he38
  have hbel41 := bel_set hbel36 hg11 he38
  refine ⟨k39, ?_⟩
  refine wpAnyH_done (by kernel_rfl) ?_ _
  go_step
  go_step
  go_wp2
  refine bodyPost_ret (v := .agg (bs (PP - m))) (results_cell_row rfl _ _ (w1.heap.size) 23 _ (0, 0) _ rfl k40 Tryd.underlying23 rfl (by rw [bs_sz]; exact info_b)) rfl ⟨rfl, hbel41⟩

theorem rneg_any (a : Nat) (ha : a < MM) (w : World) : Calls Tryd.prog 42 #[.agg (bs a)] w fun e w' => e = .returned (.agg (bs ((PP - (a % PP)) % PP))) ∧ Below w.heap.size w w' := by
  have hr := rreduce_any a ha
  have hl : a % PP < PP := Nat.mod_lt _ PP_pos
  generalize a % PP = m at *
  by_cases h0 : m = 0
  · subst h0
    rw [show (PP - 0) % PP = 0 from Nat.mod_self PP]
    exact rneg_z a hr w
  · rw [Nat.mod_eq_of_lt (show PP - m < PP by omega)]
    exact rneg_p a m ⟨h0, Nat.le_of_lt hl, Nat.lt_trans hl pp_lt⟩ hr w
end Go.Proofs.YtfpphinnngblgaaDoor.Fld

namespace Go.Proofs.YtfpphinnngblgaaDoor.Fld
open Go.RowKit Go.Lib
open Go.Proofs.YtfpphinnngblgaaDoor.Num (val up val_congr val_add val_lt val_up val_digits val_word)
open Go.Proofs.YtfpphinnngblgaaDoor.Arr Go.Proofs.YtfpphinnngblgaaDoor.Sym

theorem info_x : (Tryd.prog.info? 51).map (·.size) = some 4 := by kernel_rfl
/-- The words of a number's first k bytes. -/
def fw (n k : Nat) : Nat → Nat := fun i => if i < k / 8 then wd n i else if i = k / 8 then wd n i % 256 ^ (k % 8) else 0
theorem fw_here (n k : Nat) : fw n k (k / 8) = wd n (k / 8) % 256 ^ (k % 8) := by
  unfold fw; rw [if_neg (by omega), if_pos rfl]
theorem fw_up (n k : Nat) : up (fw n k) (k / 8) (wd n (k / 8) % 256 ^ (k % 8) + bt n k * 256 ^ (k % 8)) = fw n (k + 1) := by
  have hb : bt n k = wd n (k / 8) / 256 ^ (k % 8) % 256 := by
    have := bt_wd n (k / 8) (k % 8) (Nat.mod_lt _ (by decide))
    rwa [show 8 * (k / 8) + k % 8 = k by omega] at this
  have hs : wd n (k / 8) % 256 ^ (k % 8) + bt n k * 256 ^ (k % 8) = wd n (k / 8) % 256 ^ (k % 8 + 1) := by
    rw [hb, Nat.mod_pow_succ, Nat.mul_comm (256 ^ _)]
  rw [hs]
  funext i
  unfold up fw
  by_cases h7 : k % 8 = 7
  · have e1 : (k + 1) / 8 = k / 8 + 1 := by omega
    have e2 : (k + 1) % 8 = 0 := by omega
    rw [h7, e1, e2]
    by_cases hi : i = k / 8
    · rw [if_pos hi, if_pos (by omega), hi]
      exact Nat.mod_eq_of_lt (wd_lt _ _)
    · rw [if_neg hi, if_neg hi]
      by_cases h : i < k / 8
      · rw [if_pos h, if_pos (by omega)]
      · rw [if_neg h, if_neg (by omega), Nat.pow_zero, Nat.mod_one, ite_self]
  · have e1 : (k + 1) / 8 = k / 8 := by omega
    have e2 : (k + 1) % 8 = k % 8 + 1 := by omega
    rw [e1, e2]
    by_cases hi : i = k / 8
    · rw [if_pos hi, if_neg (by omega), if_pos hi, hi]
    · rw [if_neg hi, if_neg hi, if_neg hi]
theorem fw_all (n : Nat) : rowOf .u64 (fw n 32) 4 = ws n := rowOf_congr fun j hj => by unfold fw; rw [if_pos hj]
theorem fw_none (n : Nat) : rowOf .u64 (fw n 0) 4 = ws 0 := rowOf_congr fun j hj => by
  unfold fw wd; simp [Nat.mod_one]

section
variable {o : Oper} {a : Act} {w : World} {x y : Operand}
theorem run_q8 (n : Nat) (hn : n < 256) (ho : o.op = .binOp .quo 3 x (.const (.int .i64 8)) 3) (hx : a.eval x = .int .i64 (n : Int)) : (execOp a.eval o).run Tryd.prog w = .ok (.value (.int .i64 ((n / 8 : Nat) : Int))) w := by
  have h0 : (n : Int) < 256 := by omega
  have h1 : (0 : Int) ≤ (n : Int) := by omega
  have hf : a.eval (.const (.int .i64 8)) = .int .i64 8 := rfl
  unfold execOp
  simp only [ho, hx]
  generalize a.eval = f at *
  go_simp
  exact IntWalk.i64_in _ (by omega)
theorem run_r8 (n : Nat) (hn : n < 256) (ho : o.op = .binOp .rem 3 x (.const (.int .i64 8)) 3) (hx : a.eval x = .int .i64 (n : Int)) : (execOp a.eval o).run Tryd.prog w = .ok (.value (.int .i64 ((n % 8 : Nat) : Int))) w := by
  have h0 : (n : Int) < 256 := by omega
  have h1 : (0 : Int) ≤ (n : Int) := by omega
  have hf : a.eval (.const (.int .i64 8)) = .int .i64 8 := rfl
  unfold execOp
  simp only [ho, hx]
  generalize a.eval = f at *
  go_simp
  exact Int.tmod_eq_emod_of_nonneg h1
theorem run_ix4v (i B : Nat) (ho : o.op = .indexAddr 51 x y) (hx : a.eval x = .pointer (some ⟨B, 0, none⟩)) (hy : a.eval y = .int .i64 (i : Int)) (hi : i < 4) :
    (execOp a.eval o).run Tryd.prog w = .ok (.value (.pointer (some ⟨B, i, none⟩))) w := by
  have h1 : (i : Int) < 4 := by omega
  have h2 : (0 : Int) ≤ (i : Int) := by omega
  unfold execOp
  simp only [ho, hx, hy]
  generalize a.eval = f at *
  go_simp
theorem run_ix32v (i B : Nat) (ho : o.op = .indexAddr 23 x y) (hx : a.eval x = .pointer (some ⟨B, 0, none⟩)) (hy : a.eval y = .int .i64 (i : Int)) (hi : i < 32) :
    (execOp a.eval o).run Tryd.prog w = .ok (.value (.pointer (some ⟨B, i, none⟩))) w := by
  have h1 : (i : Int) < 32 := by omega
  have h2 : (0 : Int) ≤ (i : Int) := by omega
  unfold execOp
  simp only [ho, hx, hy]
  generalize a.eval = f at *
  go_simp
theorem run_ld4v {m : Nat} {T : TypeId} (f : Nat → Nat) (i B : Nat) (hr : Row w B m T .u64 f) (ho : o.op = .load 50 x) (hx : a.eval x = .pointer (some ⟨B, i, none⟩)) (hi : i < m) :
    (execOp a.eval o).run Tryd.prog w = .ok (.value (.int .u64 (f i : Int))) w := by
  have h1 := (hr.at i hi).1
  unfold execOp
  simp only [ho, hx]
  generalize a.eval = g at *
  go_simp
theorem run_ld8v {m : Nat} {T : TypeId} (f : Nat → Nat) (i B : Nat) (hr : Row w B m T .u8 f) (ho : o.op = .load 5 x) (hx : a.eval x = .pointer (some ⟨B, i, none⟩)) (hi : i < m) :
    (execOp a.eval o).run Tryd.prog w = .ok (.value (.int .u8 (f i : Int))) w := by
  have h1 := (hr.at i hi).1
  unfold execOp
  simp only [ho, hx]
  generalize a.eval = g at *
  go_simp
theorem run_cv8 (n : Nat) (hn : n < 256) (ho : o.op = .convert 5 50 x) (hx : a.eval x = .int .u8 (n : Int)) : (execOp a.eval o).run Tryd.prog w = .ok (.value (.int .u64 (n : Int))) w := by
  have h0 : (n : Int) < 256 := by omega
  have h1 : (0 : Int) ≤ (n : Int) := by omega
  unfold execOp
  simp only [ho, hx]
  generalize a.eval = f at *
  go_simp
  exact IntWalk.u64_in _ (by omega)
theorem run_cvu (n : Nat) (hn : n < 256) (ho : o.op = .convert 3 40 x) (hx : a.eval x = .int .i64 (n : Int)) : (execOp a.eval o).run Tryd.prog w = .ok (.value (.int .u64 (n : Int))) w := by
  have h0 : (n : Int) < 256 := by omega
  have h1 : (0 : Int) ≤ (n : Int) := by omega
  unfold execOp
  simp only [ho, hx]
  generalize a.eval = f at *
  go_simp
  exact IntWalk.u64_in _ (by omega)
theorem run_m8 (n : Nat) (hn : n < 8) (ho : o.op = .binOp .mul 40 (.const (.int .u64 8)) x 40) (hx : a.eval x = .int .u64 (n : Int)) : (execOp a.eval o).run Tryd.prog w = .ok (.value (.int .u64 ((8 * n : Nat) : Int))) w := by
  have h0 : (n : Int) < 8 := by omega
  have h1 : (0 : Int) ≤ (n : Int) := by omega
  have hf : a.eval (.const (.int .u64 8)) = .int .u64 8 := rfl
  unfold execOp
  simp only [ho, hx]
  generalize a.eval = f at *
  go_simp
  exact IntWalk.u64_in _ (by omega)
theorem run_shl8 (v r : Nat) (hv : v < 256) (hr : r < 8) (ho : o.op = .binOp .shl 50 x y 40) (hx : a.eval x = .int .u64 (v : Int)) (hy : a.eval y = .int .u64 ((8 * r : Nat) : Int)) : (execOp a.eval o).run Tryd.prog w = .ok (.value (.int .u64 ((v * 256 ^ r : Nat) : Int))) w := by
  have h0 : (v : Int) < 256 := by omega
  have h1 : (0 : Int) ≤ (v : Int) := by omega
  unfold execOp
  simp only [ho, hx, hy]
  clear hx hy ho
  generalize a.eval = f at *
  rcases (by omega : r = 0 ∨ r = 1 ∨ r = 2 ∨ r = 3 ∨ r = 4 ∨ r = 5 ∨ r = 6 ∨ r = 7) with rfl | rfl | rfl | rfl | rfl | rfl | rfl | rfl <;> go_simp <;> exact IntWalk.u64_in _ (by omega)
theorem run_or8 (u v r : Nat) (hu : u < 256 ^ r) (hv : v < 256) (hr : r < 8) (ho : o.op = .binOp .or 50 x y 50) (hx : a.eval x = .int .u64 (u : Int)) (hy : a.eval y = .int .u64 ((v * 256 ^ r : Nat) : Int)) : (execOp a.eval o).run Tryd.prog w = .ok (.value (.int .u64 ((u + v * 256 ^ r : Nat) : Int))) w := by
  have hb : bits BinOp.or IntKind.u64 (u : Int) ((v * 256 ^ r : Nat) : Int) = ((u + v * 256 ^ r : Nat) : Int) := by
    rcases (by omega : r = 0 ∨ r = 1 ∨ r = 2 ∨ r = 3 ∨ r = 4 ∨ r = 5 ∨ r = 6 ∨ r = 7) with rfl | rfl | rfl | rfl | rfl | rfl | rfl | rfl
    · rw [bits_join_low .u64 64 (by decide) wraps_u64 0 _ _ (by omega) (by omega) (by omega) (by omega) (by omega) (by omega)]; omega
    · rw [bits_join_low .u64 64 (by decide) wraps_u64 8 _ _ (by omega) (by omega) (by omega) (by omega) (by omega) (by omega)]; omega
    · rw [bits_join_low .u64 64 (by decide) wraps_u64 16 _ _ (by omega) (by omega) (by omega) (by omega) (by omega) (by omega)]; omega
    · rw [bits_join_low .u64 64 (by decide) wraps_u64 24 _ _ (by omega) (by omega) (by omega) (by omega) (by omega) (by omega)]; omega
    · rw [bits_join_low .u64 64 (by decide) wraps_u64 32 _ _ (by omega) (by omega) (by omega) (by omega) (by omega) (by omega)]; omega
    · rw [bits_join_low .u64 64 (by decide) wraps_u64 40 _ _ (by omega) (by omega) (by omega) (by omega) (by omega) (by omega)]; omega
    · rw [bits_join_low .u64 64 (by decide) wraps_u64 48 _ _ (by omega) (by omega) (by omega) (by omega) (by omega) (by omega)]; omega
    · rw [bits_join_low .u64 64 (by decide) wraps_u64 56 _ _ (by omega) (by omega) (by omega) (by omega) (by omega) (by omega)]; omega
  generalize v * 256 ^ r = z at *
  unfold execOp
  simp only [ho, hx, hy]
  clear hx hy ho
  generalize a.eval = f at *
  go_simp
end

set_option maxHeartbeats 1000000 in
theorem rwords_any (n : Nat) (w : World) : Calls Tryd.prog 57 #[.agg (bs n)] w fun e w' => e = .returned (.agg (ws n)) ∧ Below w.heap.size w w' := by
  go_enter Tryd.func57, Tryd.ntmps57
  go_wp2_with fail
  generalize hW : World.alloc _ _ = W0
  have h0 : Fr w W0 [(bs n, 23), (ws 0, 51), (rowOf .u64 (fw n 0) 4, 51)] := by rw [fw_none]; exact hW ▸ Fr.three w (bs n) (ws 0) (ws 0) _ _ _
  clear hW
  go_loopw [4] (fun iv wr => ∃ k : Nat, k ≤ 32 ∧ iv = .int .i64 (k : Int) ∧ Fr w wr [(bs n, 23), (ws 0, 51), (rowOf .u64 (fw n k) 4, 51)]) (fun iv _ => 32 - (intOf iv).toNat)
  case atStart => exact ⟨0, by omega, rfl, h0⟩
  case round =>
    clear h0
    obtain ⟨k, hk, rfl, h0⟩ := hrel
    by_cases hlt : k < 32
    · have k0 : (0 : Int) ≤ (k : Int) := by omega
      have k1 : (k : Int) < 32 := by omega
      have kq : k / 8 < 4 := by omega
      have kr : k % 8 < 8 := by omega
      go_wp2_with fail
      refine wp_region_still_tail 17 (by kernel_rfl) (by kernel_rfl) ?_
      simp only [List.take_succ_cons, List.take_zero, List.drop_succ_cons, List.drop_zero]
      change wpStill _ _ (World.drew wr) _ _ _
      have h1 := h0.drew
      have r0 : Row (World.drew wr) w.heap.size 32 23 .u8 (bt n) := h1.at' 0 _ _ rfl
      have r2 : Row (World.drew wr) (w.heap.size + 2) 4 51 .u64 (fw n k) := h1.at' 2 _ _ rfl
      refine still_value (.int .i64 (k : Int)) rfl (run_mv rfl rfl) ?_
      simp only [Act.put, nz1, nz2, nz3]
      refine still_value (.int .i64 ((k / 8 : Nat) : Int)) rfl (run_q8 k (by omega) rfl rfl) ?_
      simp only [Act.put, nz1, nz2, nz3]
      refine still_value (.int .i64 (k : Int)) rfl (run_mv rfl rfl) ?_
      simp only [Act.put, nz1, nz2, nz3]
      refine still_value (.int .i64 ((k / 8 : Nat) : Int)) rfl (run_q8 k (by omega) rfl rfl) ?_
      simp only [Act.put, nz1, nz2, nz3]
      refine still_value (.pointer (some ⟨w.heap.size + 2, k / 8, none⟩)) rfl (run_ix4v (k / 8) (w.heap.size + 2) rfl rfl rfl kq) ?_
      simp only [Act.put, nz1, nz2, nz3]
      refine still_value (.int .u64 (fw n k (k / 8) : Int)) rfl (run_ld4v (fw n k) (k / 8) (w.heap.size + 2) r2 rfl rfl kq) ?_
      simp only [Act.put, nz1, nz2, nz3]
      refine still_value (.int .i64 (k : Int)) rfl (run_mv rfl rfl) ?_
      simp only [Act.put, nz1, nz2, nz3]
      refine still_value (.pointer (some ⟨w.heap.size, k, none⟩)) rfl (run_ix32v k w.heap.size rfl rfl rfl hlt) ?_
      simp only [Act.put, nz1, nz2, nz3]
      refine still_value (.int .u8 (bt n k : Int)) rfl (run_ld8v (bt n) k w.heap.size r0 rfl rfl hlt) ?_
      simp only [Act.put, nz1, nz2, nz3]
      refine still_value (.int .u64 (bt n k : Int)) rfl (run_cv8 (bt n k) (bt_lt _ _) rfl rfl) ?_
      simp only [Act.put, nz1, nz2, nz3]
      refine still_value (.int .i64 (k : Int)) rfl (run_mv rfl rfl) ?_
      simp only [Act.put, nz1, nz2, nz3]
      refine still_value (.int .i64 ((k % 8 : Nat) : Int)) rfl (run_r8 k (by omega) rfl rfl) ?_
      simp only [Act.put, nz1, nz2, nz3]
      refine still_value (.int .u64 ((k % 8 : Nat) : Int)) rfl (run_cvu (k % 8) (by omega) rfl rfl) ?_
      simp only [Act.put, nz1, nz2, nz3]
      refine still_value (.int .u64 ((8 * (k % 8) : Nat) : Int)) rfl (run_m8 (k % 8) kr rfl rfl) ?_
      simp only [Act.put, nz1, nz2, nz3]
      refine still_value (.int .u64 ((bt n k * 256 ^ (k % 8) : Nat) : Int)) rfl (run_shl8 (bt n k) (k % 8) (bt_lt _ _) kr rfl rfl rfl) ?_
      simp only [Act.put, nz1, nz2, nz3]
      refine still_value (.int .u64 ((fw n k (k / 8) + bt n k * 256 ^ (k % 8) : Nat) : Int)) rfl (run_or8 (fw n k (k / 8)) (bt n k) (k % 8) (by rw [fw_here]; exact Nat.mod_lt _ (Nat.pow_pos (by decide))) (bt_lt _ _) kr rfl rfl rfl) ?_
      simp only [Act.put, nz1, nz2, nz3]
      refine still_value (.pointer (some ⟨w.heap.size + 2, k / 8, none⟩)) rfl (run_ix4v (k / 8) (w.heap.size + 2) rfl rfl rfl kq) ?_
      simp only [Act.put, nz1, nz2, nz3]
      refine wpStill_nil ?_
      have hu := fw_up n k
      rw [← fw_here] at hu
      generalize fw n k (k / 8) + bt n k * 256 ^ (k % 8) = z at *
      obtain ⟨c3, f3⟩ := r2.at (k / 8) kq
      change wpList _ _ _ _ _ (World.drew wr)
      generalize World.drew wr = wd at *
      have H1 := Lib.hid h1
      have HU := Lib.hid hu
      clear r0 r2 h0 h1 hu
      go_wp2
      go_roundw
      case rel => exact ⟨k + 1, by omega, by go_num, H1.out.put 2 rfl (k / 8) _ _ (by rw [rowOf_set, HU.out])⟩
      case measure => simp [intOf]; omega
    · obtain rfl : k = 32 := by omega
      rw [show ((32 : Nat) : Int) = (32 : Int) from rfl]
      rw [fw_all] at h0
      go_wp2_with (first
        | (with_reducible refine wpList_load_row rfl 51 _ rfl (w.heap.size + 2) rfl 51 _ (0, 0) _ (h0.at' 2 _ _ rfl) Tryd.underlying51 rfl (by rw [ws_sz]; exact info_x) ?_)
        | (with_reducible refine wpList_store_row rfl 51 _ _ rfl (w.heap.size + 1) (ws n) rfl rfl 51 _ (h0.at' 1 _ _ rfl) (by rw [ws_sz]; exact info_x) (by rw [ws_sz, ws_sz]) (ws_one _) ?_))
      refine bodyPost_ret (v := .agg (ws n)) (results_cell_row rfl _ _ (w.heap.size + 1) 51 _ (0, 0) _ rfl (setRow_heap _ _ _ _ _ _ (h0.at' 1 _ _ rfl)) Tryd.underlying51 rfl (by rw [ws_sz]; exact info_x)) rfl ⟨rfl, below_setRow h0.below (by omega)⟩
end Go.Proofs.YtfpphinnngblgaaDoor.Fld

namespace Go.Proofs.YtfpphinnngblgaaDoor.Fld
open Go.RowKit Go.Lib
open Go.Proofs.YtfpphinnngblgaaDoor.Num (val up val_congr val_add val_lt val_up val_digits val_word)
open Go.Proofs.YtfpphinnngblgaaDoor.Arr Go.Proofs.YtfpphinnngblgaaDoor.Sym

/-- The carry of a fold after i words. -/
def cf (l h i : Nat) : Nat := (l % 18446744073709551616 ^ i + h % 18446744073709551616 ^ i * 38) / 18446744073709551616 ^ i
theorem cf_zero (l h : Nat) : cf l h 0 = 0 := by simp [cf, Nat.mod_one]
theorem cf_le (l h i : Nat) : cf l h i ≤ 38 := by
  unfold cf
  have hp := wpow_pos i
  have h1 := Nat.mod_lt l hp
  have h2 := Nat.mod_lt h hp
  generalize 18446744073709551616 ^ i = q at *
  have : (l % q + h % q * 38) / q < 39 := by rw [Nat.div_lt_iff_lt_mul hp]; omega
  omega
theorem cf_succ (l h i : Nat) : cf l h (i + 1) = (wd h i * 38 + wd l i + cf l h i) / 18446744073709551616 := by
  unfold cf
  have hp := wpow_pos i
  rw [mod_succ, mod_succ, Nat.pow_succ, ← Nat.div_div_eq_div_mul]
  congr 1
  generalize 18446744073709551616 ^ i = q at *
  rw [show l % q + q * wd l i + (h % q + q * wd h i) * 38 = (l % q + h % q * 38) + q * (wd h i * 38 + wd l i) by
    simp only [Nat.add_mul, Nat.mul_add, Nat.mul_assoc]; omega]
  rw [Nat.add_mul_div_left _ _ hp]; omega
theorem cf_wd (l h i : Nat) : wd (l + h * 38) i = (wd h i * 38 + wd l i + cf l h i) % 18446744073709551616 := by
  unfold cf wd
  have hp := wpow_pos i
  generalize 18446744073709551616 ^ i = q at *
  have e : l + h * 38 = (l % q + h % q * 38) + q * (l / q + h / q * 38) := by
    have e1 := Nat.mod_add_div l q
    have e2 := congrArg (· * 38) (Nat.mod_add_div h q)
    simp only [Nat.add_mul, Nat.mul_add, Nat.mul_assoc] at *
    omega
  have e3 := congrArg (· / q) e
  simp only [Nat.add_mul_div_left _ _ hp] at e3
  rw [e3]
  omega
theorem cf_top (l h : Nat) (hl : l < MM) (hh : h < MM) : cf l h 4 = (l + h * 38) / MM := by
  unfold cf
  rw [← MM_eq, Nat.mod_eq_of_lt hl, Nat.mod_eq_of_lt hh]
/-- The carry of a small summand after i words. -/
def cs (y z i : Nat) : Nat := (y % 18446744073709551616 ^ i + z) / 18446744073709551616 ^ i
theorem cs_zero (y z : Nat) : cs y z 0 = z := by simp [cs, Nat.mod_one]
theorem cs_succ (y z i : Nat) : cs y z (i + 1) = (wd y i + cs y z i) / 18446744073709551616 := by
  unfold cs
  have hp := wpow_pos i
  rw [mod_succ, Nat.pow_succ, ← Nat.div_div_eq_div_mul]
  congr 1
  generalize 18446744073709551616 ^ i = q at *
  rw [show y % q + q * wd y i + z = (y % q + z) + q * wd y i by omega, Nat.add_mul_div_left _ _ hp]; omega
theorem cs_wd (y z i : Nat) : wd (y + z) i = (wd y i + cs y z i) % 18446744073709551616 := by
  unfold cs wd
  have hp := wpow_pos i
  generalize 18446744073709551616 ^ i = q at *
  have e : y + z = (y % q + z) + q * (y / q) := by have := Nat.mod_add_div y q; omega
  have e3 := congrArg (· / q) e
  simp only [Nat.add_mul_div_left _ _ hp] at e3
  rw [e3]
  omega
theorem cs_lt (y z i : Nat) (hz : z < 65536) : cs y z i < 65537 := by
  unfold cs
  have hp := wpow_pos i
  have h1 := Nat.mod_lt y hp
  generalize 18446744073709551616 ^ i = q at *
  rw [Nat.div_lt_iff_lt_mul hp]
  have : 65536 * 1 ≤ 65536 * q := Nat.mul_le_mul_left _ hp
  omega
theorem cs_top (y z : Nat) (hy : y < MM) : cs y z 4 = (y + z) / MM := by
  unfold cs
  rw [← MM_eq, Nat.mod_eq_of_lt hy]
/-- The words of a sum on their way. -/
def mix (y z k : Nat) : Nat → Nat := fun j => if j < k then wd (y + z) j else wd y j
theorem mix_up (y z k : Nat) : up (mix y z k) k (wd (y + z) k) = mix y z (k + 1) := by
  funext j
  unfold up mix
  by_cases e : j = k
  · rw [if_pos e, e, if_pos (by omega)]
  · rw [if_neg e]
    by_cases h : j < k
    · rw [if_pos h, if_pos (by omega)]
    · rw [if_neg h, if_neg (by omega)]
theorem mix_zero (y z : Nat) : rowOf .u64 (mix y z 0) 4 = ws y := rowOf_congr fun j hj => by unfold mix; rw [if_neg (by omega)]
theorem mix_all (y z : Nat) : rowOf .u64 (mix y z 4) 4 = ws (y + z) := rowOf_congr fun j hj => by unfold mix; rw [if_pos hj]
theorem mix_here (y z k : Nat) : mix y z k k = wd y k := by unfold mix; rw [if_neg (by omega)]
theorem fold_keep (y k : Nat) : ((y + 38 * k) % MM + (y + 38 * k) / MM * MM) % PP = (y + k * MM) % PP := by
  rw [Nat.mul_comm ((y + 38 * k) / MM), Nat.mod_add_div]
  have : y + k * MM = (y + 38 * k) + PP * (2 * k) := by unfold MM PP; omega
  rw [this, Nat.add_mul_mod_self_left]

theorem fold_first (n : Nat) : ((n % MM + n / MM * 38) % MM + (n % MM + n / MM * 38) / MM * MM) % PP = n % PP := by
  have := fold_keep (n % MM) (n / MM)
  rw [Nat.mul_comm 38] at this
  rw [this, Nat.mul_comm (n / MM) MM, Nat.mod_add_div]
theorem add64_0 (x y : Nat) (hx : x < 18446744073709551616) (hy : y < 18446744073709551616) : ∀ w, (callFunc 59 #[.int .u64 (x : Int), .int .u64 (y : Int), .int .u64 0]).run Tryd.prog w = .ok (.value (.tuple #[.int .u64 (((x + y) % 18446744073709551616 : Nat) : Int), .int .u64 (((x + y) / 18446744073709551616 : Nat) : Int)])) w := fun w => add64 x y 0 hx hy (by omega) w
theorem setCell_sz (w : World) (p : Addr) (v : Value) : (w.setCell p v).heap.size = w.heap.size := by simp

section
variable {o : Oper} {a : Act} {w : World} {x y : Operand}
theorem run_shr64 (v r : Nat) (hv : v < 18446744073709551616) (hr : r < 8) (ho : o.op = .binOp .shr 50 x y 40) (hx : a.eval x = .int .u64 (v : Int)) (hy : a.eval y = .int .u64 ((8 * r : Nat) : Int)) : (execOp a.eval o).run Tryd.prog w = .ok (.value (.int .u64 ((v / 256 ^ r : Nat) : Int))) w := by
  have h0 : (v : Int) < 18446744073709551616 := by omega
  have h1 : (0 : Int) ≤ (v : Int) := by omega
  unfold execOp
  simp only [ho, hx, hy]
  clear hx hy ho
  generalize a.eval = f at *
  rcases (by omega : r = 0 ∨ r = 1 ∨ r = 2 ∨ r = 3 ∨ r = 4 ∨ r = 5 ∨ r = 6 ∨ r = 7) with rfl | rfl | rfl | rfl | rfl | rfl | rfl | rfl <;> go_simp
theorem run_lti (i : Nat) (c : Int) (b : Bool) (hb : decide ((i : Int) < c) = b) (ho : o.op = .binOp .lss 3 x (.const (.int .i64 c)) 3) (hx : a.eval x = .int .i64 (i : Int)) : (execOp a.eval o).run Tryd.prog w = .ok (.value (.bool b)) w := by
  have hf : a.eval (.const (.int .i64 c)) = .int .i64 c := rfl
  unfold execOp
  simp only [ho, hx]
  generalize a.eval = f at *
  go_simp
theorem run_cvb (v b : Nat) (h : b = v % 256) (ho : o.op = .convert 50 5 x) (hx : a.eval x = .int .u64 (v : Int)) : (execOp a.eval o).run Tryd.prog w = .ok (.value (.int .u8 (b : Int))) w := by
  subst h
  unfold execOp
  simp only [ho, hx]
  generalize a.eval = f at *
  go_simp
  exact IntKind.wrap_u8 _
end
set_option maxHeartbeats 2000000 in
set_option maxRecDepth 100000 in
theorem rfolded_any (n : Nat) (hn : n < MM * MM) (w : World) : Calls Tryd.prog 60 #[.agg (rowOf .u64 (wd n) 8)] w fun e w' => e = .returned (.agg (bs (n % PP))) ∧ Below w.heap.size w w' := by
  have HNN := Lib.hid hn
  clear hn
  go_enter Tryd.func60, Tryd.ntmps60
  go_wp2_with fail
  generalize hW : World.alloc _ _ = W0
  have hs0 : W0.heap.size = w.heap.size + 3 := by rw [← hW]; simp
  have h0 : Fr w W0 [(rowOf .u64 (wd n) 8, 62), (bs 0, 23), (rowOf .u64 (part (n % MM + n / MM * 38) 0) 4, 51)] := hW ▸ Fr.three w (rowOf .u64 (wd n) 8) (bs 0) (rowOf .u64 (part (n % MM + n / MM * 38) 0) 4) _ _ _
  clear hW
  have HS0 := Lib.hid hs0
  clear hs0
  go_loopw [4, 5] (fun kv iv wr => ∃ i : Nat, i ≤ 4 ∧ iv = .int .i64 (i : Int) ∧ kv = .int .u64 (cf (n % MM) (n / MM) i : Int) ∧ Fr w wr [(rowOf .u64 (wd n) 8, 62), (bs 0, 23), (rowOf .u64 (part (n % MM + n / MM * 38) i) 4, 51)] ∧ wr.heap.size = w.heap.size + 3) (fun _ iv _ => 4 - (intOf iv).toNat)
  case atStart => exact ⟨0, by omega, rfl, by rw [cf_zero]; rfl, h0, HS0.out⟩
  case round =>
    clear h0
    obtain ⟨i, hi, rfl, rfl, h0, hsz⟩ := hrel
    by_cases hlt : i < 4
    · have r0 : Row wr w.heap.size 8 62 .u64 (wd n) := h0.at' 0 _ _ rfl
      have r2 : Row wr (w.heap.size + 2) 4 51 .u64 (part (n % MM + n / MM * 38) i) := h0.at' 2 _ _ rfl
      obtain ⟨c0, _⟩ := r0.at i (by omega)
      obtain ⟨c4, _⟩ := r0.at (i + 4) (by omega)
      obtain ⟨c2, f2⟩ := r2.at i hlt
      clear r0 r2
      have i0 : (0 : Int) ≤ (i : Int) := by omega
      have i4 : (i : Int) < 4 := by omega
      have x1 : ((i : Int) + 4).toNat = i + 4 := by omega
      have x2 : (0 : Int) ≤ (i : Int) + 4 := by omega
      have x3 : (i : Int) + 4 < 8 := by omega
      have ew := cf_wd (n % MM) (n / MM) i
      have es := cf_succ (n % MM) (n / MM) i
      rw [wd_div, wd_mod _ _ hlt, Nat.add_comm 4 i] at ew es
      have hf := wd_lt n i
      have hh := wd_lt n (i + 4)
      have ho := cf_le (n % MM) (n / MM) i
      have hm := mul_high (wd n (i + 4)) 38 hh (by omega)
      have HM := Lib.hid (mul64 (wd n (i + 4)) 38 hh (by omega))
      generalize wd n i = f at *
      generalize wd n (i + 4) = g at *
      generalize cf (n % MM) (n / MM) i = o at *
      generalize hov : cf (n % MM) (n / MM) (i + 1) = ov at *
      obtain ⟨s1, s2, s3⟩ := pro_sums (g * 38) f o hm.2 hf
      rw [← ew] at s1
      rw [← es] at s2
      obtain ⟨hi', hhi⟩ : ∃ x, x = g * 38 / 18446744073709551616 := ⟨_, rfl⟩
      obtain ⟨lo, hlo⟩ : ∃ x, x = g * 38 % 18446744073709551616 := ⟨_, rfl⟩
      rw [← hhi, ← hlo] at HM
      rw [← hlo] at s1 s2 s3
      rw [← hhi] at s2 s3
      have hll : lo < 18446744073709551616 := by omega
      have a1 := add64_0 lo f hll hf
      obtain ⟨t1, ht1⟩ : ∃ x, x = (lo + f) % 18446744073709551616 := ⟨_, rfl⟩
      obtain ⟨d1, hd1⟩ : ∃ x, x = (lo + f) / 18446744073709551616 := ⟨_, rfl⟩
      rw [← ht1, ← hd1] at a1
      rw [← ht1] at s1
      rw [← hd1, ← ht1] at s2
      rw [← hd1] at s3
      have a2 := add64_0 t1 o (by omega) (by omega)
      rw [s1] at a2
      obtain ⟨d2, hd2⟩ : ∃ x, x = (t1 + o) / 18446744073709551616 := ⟨_, rfl⟩
      rw [← hd2] at a2 s2
      have e1 : (hi' : Int) + (d1 : Int) < 18446744073709551616 := by omega
      have e2 : (hi' : Int) + (d1 : Int) + (d2 : Int) = (ov : Int) := by omega
      have e3 : (ov : Int) < 18446744073709551616 := by omega
      have H0 := Lib.hid h0
      have HZ := Lib.hid hsz
      have HOV := Lib.hid hov
      clear h0 hsz hov s1 s2 s3 hhi hlo ht1 hd1 hd2 hm hf hh ew es ho hll
      go_wp2_with fail
      refine (HM.out _).mono ?_
      rintro e w' ⟨rfl, rfl⟩
      go_wp2
      go_roundw
      case rel => exact ⟨i + 1, by omega, by go_num, by rw [HOV.out], by rw [← part_up, ← rowOf_set]; exact H0.out.put 2 rfl i _ _ rfl, (setCell_sz _ _ _).trans HZ.out⟩
      case measure => simp [intOf]; omega
    · obtain rfl : i = 4 := by omega
      rw [show ((4 : Nat) : Int) = (4 : Int) from rfl]
      have hk := cf_le (n % MM) (n / MM) 4
      have hq : n / MM < MM := Nat.div_lt_of_lt_mul HNN.out
      have ht := cf_top (n % MM) (n / MM) (Nat.mod_lt _ (by decide)) hq
      have hff := fold_first n
      rw [← ht] at hff
      rw [part_all, ← ws_mod] at h0
      have hyl : (n % MM + n / MM * 38) % MM < MM := Nat.mod_lt _ (by decide)
      generalize (n % MM + n / MM * 38) % MM = y at *
      generalize cf (n % MM) (n / MM) 4 = k at *
      have HK := Lib.hid hk
      have HF := Lib.hid hff
      have HY := Lib.hid hyl
      have H0 := Lib.hid h0
      have HZ := Lib.hid hsz
      clear h0 hsz hff ht hq hk hyl hlt hi
      go_wp2_with fail
      go_loopg [4] 3 (fun g kv wr => ∃ k y : Nat, kv = .int .u64 (k : Int) ∧ Hid (k ≤ 38 ∧ y < MM ∧ (y + k * MM) % PP = n % PP ∧ (g ≤ 2 → k = 0 ∨ y < 1444) ∧ (g ≤ 1 → k = 0)) ∧ Fr w wr [(rowOf .u64 (wd n) 8, 62), (bs 0, 23), (ws y, 51)] ∧ wr.heap.size = w.heap.size + 3)
      case atStart => exact ⟨k, y, rfl, Lib.hid ⟨HK.out, HY.out, HF.out, fun h => absurd h (by decide), fun h => absurd h (by decide)⟩, H0.out, HZ.out⟩
      case round =>
        clear H0 HZ HK HF HY
        obtain ⟨k, y, rfl, HK, h0, hsz⟩ := hrel
        by_cases hk0 : k = 0
        · subst hk0
          have HH := Lib.hid (h0.push hsz (bs 0) 23)
          have hy : y % PP = n % PP := by have := HK.out.2.2.1; rwa [Nat.zero_mul, Nat.add_zero] at this
          have HY := Lib.hid hy
          have HYL := Lib.hid HK.out.2.1
          clear h0 hy HK
          go_wp2_with fail
          generalize hW4 : World.alloc _ _ = W4
          have h4 : Fr w W4 [(rowOf .u64 (wd n) 8, 62), (bs 0, 23), (ws y, 51), (rowOf .u8 (partb y 0) 32, 23)] := hW4 ▸ HH.out
          clear hW4 HH
          go_loopw [17] (fun iv wr => ∃ j : Nat, j ≤ 32 ∧ iv = .int .i64 (j : Int) ∧ Fr w wr [(rowOf .u64 (wd n) 8, 62), (bs 0, 23), (ws y, 51), (rowOf .u8 (partb y j) 32, 23)]) (fun iv _ => 32 - (intOf iv).toNat)
          case atStart => exact ⟨0, by omega, rfl, h4⟩
          case round =>
            clear h4
            obtain ⟨j, hj, rfl, h4⟩ := hrel
            by_cases hlj : j < 32
            · have j0 : (0 : Int) ≤ (j : Int) := by omega
              have j1 : (j : Int) < 32 := by omega
              have jq : j / 8 < 4 := by omega
              have jr : j % 8 < 8 := by omega
              have hbj : bt y j = wd y (j / 8) / 256 ^ (j % 8) % 256 := by
                have := bt_wd y (j / 8) (j % 8) jr
                rwa [show 8 * (j / 8) + j % 8 = j by omega] at this
              have r2 : Row wr (w.heap.size + 2) 4 51 .u64 (wd y) := h4.at' 2 _ _ rfl
              have r3 : Row wr (w.heap.size + 3) 32 23 .u8 (partb y j) := h4.at' 3 _ _ rfl
              go_step
              go_step
              go_step
              go_step
              refine lst (wanted_none rfl) ?_
              refine (w_value 73 (.int .i64 (j : Int)) rfl (run_mv rfl rfl) ?_)
              simp only [nz1, nz2, nz3]
              refine lv 74 (.bool true) rfl rfl (run_lti j 32 true (by simpa using j1) rfl rfl) ?_
              simp only [nz1, nz2, nz3]
              go_step
              go_step
              go_step
              go_step
              go_step
              go_step
              go_step
              go_step
              go_step
              go_step
              refine lv 77 (.int .i64 (j : Int)) rfl rfl (run_mv rfl rfl) ?_
              simp only [nz1, nz2, nz3]
              refine lv 78 (.int .i64 (j : Int)) rfl rfl (run_mv rfl rfl) ?_
              simp only [nz1, nz2, nz3]
              refine lv 79 (.int .i64 ((j / 8 : Nat) : Int)) rfl rfl (run_q8 j (by omega) rfl rfl) ?_
              simp only [nz1, nz2, nz3]
              refine lv 80 (.pointer (some ⟨w.heap.size + 2, j / 8, none⟩)) rfl rfl (run_ix4v (j / 8) (w.heap.size + 2) rfl rfl rfl jq) ?_
              simp only [nz1, nz2, nz3]
              refine lv 81 (.int .u64 (wd y (j / 8) : Int)) rfl rfl (run_ld4v (wd y) (j / 8) (w.heap.size + 2) r2 rfl rfl jq) ?_
              simp only [nz1, nz2, nz3]
              refine lv 82 (.int .i64 (j : Int)) rfl rfl (run_mv rfl rfl) ?_
              simp only [nz1, nz2, nz3]
              refine lv 83 (.int .i64 ((j % 8 : Nat) : Int)) rfl rfl (run_r8 j (by omega) rfl rfl) ?_
              simp only [nz1, nz2, nz3]
              refine lv 84 (.int .u64 ((j % 8 : Nat) : Int)) rfl rfl (run_cvu (j % 8) (by omega) rfl rfl) ?_
              simp only [nz1, nz2, nz3]
              refine lv 85 (.int .u64 ((8 * (j % 8) : Nat) : Int)) rfl rfl (run_m8 (j % 8) jr rfl rfl) ?_
              simp only [nz1, nz2, nz3]
              refine lv 86 (.int .u64 ((wd y (j / 8) / 256 ^ (j % 8) : Nat) : Int)) rfl rfl (run_shr64 (wd y (j / 8)) (j % 8) (wd_lt _ _) jr rfl rfl rfl) ?_
              simp only [nz1, nz2, nz3]
              refine lv 87 (.int .u8 (bt y j : Int)) rfl rfl (run_cvb _ _ hbj rfl rfl) ?_
              simp only [nz1, nz2, nz3]
              refine lv 88 (.pointer (some ⟨w.heap.size + 3, j, none⟩)) rfl rfl (run_ix32v j (w.heap.size + 3) rfl rfl rfl hlj) ?_
              simp only [nz1, nz2, nz3]
              obtain ⟨c3, f3⟩ := r3.at j hlj
              have H4 := Lib.hid h4
              clear r2 r3 h4 hbj
              go_wp2
              go_roundw
              case rel => exact ⟨j + 1, by omega, by go_num, by rw [← partb_up, ← rowOf_set]; exact H4.out.put 3 rfl j _ _ rfl⟩
              case measure => simp [intOf]; omega
            · obtain rfl : j = 32 := by omega
              rw [show ((32 : Nat) : Int) = (32 : Int) from rfl]
              rw [partb_all] at h4
              go_wp2_with (with_reducible refine wpList_load_row rfl 23 _ rfl (w.heap.size + 3) rfl 23 _ (0, 0) _ (h4.at' 3 _ _ rfl) Tryd.underlying23 rfl (by rw [bs_sz]; exact info_b) ?_)
              refine (rreduce_any y HYL.out _).mono ?_
              rintro e w5 ⟨rfl, hb5⟩
              rw [HY.out]
              have h5 := h4.call hb5
              go_wp2_with (with_reducible refine wpList_store_row rfl 23 _ _ rfl (w.heap.size + 1) (bs (n % PP)) rfl rfl 23 _ (h5.at' 1 _ _ rfl) (by rw [bs_sz]; exact info_b) (by rw [bs_sz, bs_sz]) (bs_one _) ?_)
              refine bodyPost_ret (v := .agg (bs (n % PP))) (results_cell_row rfl _ _ (w.heap.size + 1) 23 _ (0, 0) _ rfl (setRow_heap _ _ _ _ _ _ (h5.at' 1 _ _ rfl)) Tryd.underlying23 rfl (by rw [bs_sz]; exact info_b)) rfl ⟨rfl, below_setRow h5.below (by omega)⟩
        · have k0 : (0 : Int) < (k : Int) := by omega
          have k38 : (k : Int) ≤ 38 := by have := HK.out.1; omega
          have kw : IntKind.u64.wrap (38 * (k : Int)) = ((38 * k : Nat) : Int) := by rw [Int.natCast_mul]; exact IntWalk.u64_in _ (by omega)
          clear k38
          have H0 := Lib.hid h0
          have HZ := Lib.hid hsz
          have HK0 := Lib.hid hk0
          clear h0 hsz hk0
          go_wp2_with fail
          go_loopw [12, 13] (fun cv iv wr => ∃ i : Nat, i ≤ 4 ∧ iv = .int .i64 (i : Int) ∧ cv = .int .u64 (cs y (38 * k) i : Int) ∧ Fr w wr [(rowOf .u64 (wd n) 8, 62), (bs 0, 23), (rowOf .u64 (mix y (38 * k) i) 4, 51)] ∧ wr.heap.size = w.heap.size + 3) (fun _ iv _ => 4 - (intOf iv).toNat)
          case atStart =>
            have hst := H0.out
            rw [← mix_zero y (38 * k)] at hst
            refine ⟨0, by omega, rfl, ?_, hst, HZ.out⟩
            rw [cs_zero, Int.natCast_mul]; rfl
          case round =>
            clear H0 HZ
            obtain ⟨i, hi, rfl, rfl, h0, hsz⟩ := hrel
            by_cases hlt : i < 4
            · have r2 : Row wr (w.heap.size + 2) 4 51 .u64 (mix y (38 * k) i) := h0.at' 2 _ _ rfl
              obtain ⟨c2, f2⟩ := r2.at i hlt
              rw [mix_here] at c2
              have i0 : (0 : Int) ≤ (i : Int) := by omega
              have i4 : (i : Int) < 4 := by omega
              have hz := cs_lt y (38 * k) i (by have := HK.out.1; omega)
              have a1 := add64_0 (wd y i) (cs y (38 * k) i) (wd_lt _ _) (by omega)
              rw [← cs_wd, ← cs_succ] at a1
              have H0 := Lib.hid h0
              have HZ := Lib.hid hsz
              clear h0 hsz r2 hz
              go_wp2
              go_roundw
              case rel => exact ⟨i + 1, by omega, by go_num, rfl, by rw [← mix_up, ← rowOf_set]; exact H0.out.put 2 rfl i _ _ rfl, (setCell_sz _ _ _).trans HZ.out⟩
              case measure => simp [intOf]; omega
            · obtain rfl : i = 4 := by omega
              rw [show ((4 : Nat) : Int) = (4 : Int) from rfl]
              rw [mix_all, ← ws_mod] at h0
              rw [cs_top y _ HK.out.2.1]
              have hn2 : Hid ((y + 38 * k) / MM ≤ 38 ∧ (y + 38 * k) % MM < MM ∧ ((y + 38 * k) % MM + (y + 38 * k) / MM * MM) % PP = n % PP ∧ (min (gk - 1) 2 ≤ 2 → (y + 38 * k) / MM = 0 ∨ (y + 38 * k) % MM < 1444) ∧ (min (gk - 1) 2 ≤ 1 → (y + 38 * k) / MM = 0)) := by
                obtain ⟨q1, q2, q3, q4, q5⟩ := HK.out
                refine ⟨?_, Nat.mod_lt _ (by decide), by rw [fold_keep]; exact q3, fun _ => ?_, fun hg => ?_⟩
                · unfold MM at *; omega
                · unfold MM at *; omega
                · have := q4 (by omega)
                  have := HK0.out
                  unfold MM at *; omega
              have hm2 : Hid (min (gk - 1) 2 < gk) := by
                show min (gk - 1) 2 < gk
                have := HK.out.2.2.2.2
                have := HK0.out
                omega
              generalize (y + 38 * k) / MM = k' at *
              generalize (y + 38 * k) % MM = y' at *
              have H0 := Lib.hid h0
              have HZ := Lib.hid hsz
              clear h0 hsz HK HK0 hi hlt
              go_wp2
              go_roundg (min (gk - 1) 2)
              case rel => exact ⟨k', y', rfl, hn2, H0.out, HZ.out⟩
              case measure => exact hm2.out
end Go.Proofs.YtfpphinnngblgaaDoor.Fld
