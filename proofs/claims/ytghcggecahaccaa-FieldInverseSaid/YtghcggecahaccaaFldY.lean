/- Layer 3, the document's answers: eight words folded. -/
import Derived.Test.YtghcggecahaccaaFldW
import Derived.Deep.LoopGhost
namespace Go.Proofs.Ytghcggecahaccaa.Fld
open Go.RowKit Go.Lib
open Go.Proofs.Ytghcggecahaccaa.Num (val up val_congr val_add val_lt val_up val_digits val_word)
open Go.Proofs.Ytghcggecahaccaa.Arr Go.Proofs.Ytghcggecahaccaa.Sym

/-- The carry of a fold after i words. -/
def cf (l h i : Nat) : Nat := (l % 18446744073709551616 ^ i + h % 18446744073709551616 ^ i * 38) / 18446744073709551616 ^ i
theorem cf_zero (l h : Nat) : cf l h 0 = 0 := by simp [cf, Nat.mod_one]
theorem cf_le (l h i : Nat) : cf l h i ≤ 38 := by
  unfold cf
  have hp := wpow_pos i
  have h1 := Nat.mod_lt l hp
  have h2 := Nat.mod_lt h hp
  generalize 18446744073709551616 ^ i = q at *
  have : (l % q + h % q * 38) / q < 39 := by rw [Nat.div_lt_iff_lt_mul hp]; omega
  omega
theorem cf_succ (l h i : Nat) : cf l h (i + 1) = (wd h i * 38 + wd l i + cf l h i) / 18446744073709551616 := by
  unfold cf
  have hp := wpow_pos i
  rw [mod_succ, mod_succ, Nat.pow_succ, ← Nat.div_div_eq_div_mul]
  congr 1
  generalize 18446744073709551616 ^ i = q at *
  rw [show l % q + q * wd l i + (h % q + q * wd h i) * 38 = (l % q + h % q * 38) + q * (wd h i * 38 + wd l i) by
    simp only [Nat.add_mul, Nat.mul_add, Nat.mul_assoc]; omega]
  rw [Nat.add_mul_div_left _ _ hp]; omega
theorem cf_wd (l h i : Nat) : wd (l + h * 38) i = (wd h i * 38 + wd l i + cf l h i) % 18446744073709551616 := by
  unfold cf wd
  have hp := wpow_pos i
  generalize 18446744073709551616 ^ i = q at *
  have e : l + h * 38 = (l % q + h % q * 38) + q * (l / q + h / q * 38) := by
    have e1 := Nat.mod_add_div l q
    have e2 := congrArg (· * 38) (Nat.mod_add_div h q)
    simp only [Nat.add_mul, Nat.mul_add, Nat.mul_assoc] at *
    omega
  have e3 := congrArg (· / q) e
  simp only [Nat.add_mul_div_left _ _ hp] at e3
  rw [e3]
  omega
theorem cf_top (l h : Nat) (hl : l < MM) (hh : h < MM) : cf l h 4 = (l + h * 38) / MM := by
  unfold cf
  rw [← MM_eq, Nat.mod_eq_of_lt hl, Nat.mod_eq_of_lt hh]
/-- The carry of a small summand after i words. -/
def cs (y z i : Nat) : Nat := (y % 18446744073709551616 ^ i + z) / 18446744073709551616 ^ i
theorem cs_zero (y z : Nat) : cs y z 0 = z := by simp [cs, Nat.mod_one]
theorem cs_succ (y z i : Nat) : cs y z (i + 1) = (wd y i + cs y z i) / 18446744073709551616 := by
  unfold cs
  have hp := wpow_pos i
  rw [mod_succ, Nat.pow_succ, ← Nat.div_div_eq_div_mul]
  congr 1
  generalize 18446744073709551616 ^ i = q at *
  rw [show y % q + q * wd y i + z = (y % q + z) + q * wd y i by omega, Nat.add_mul_div_left _ _ hp]; omega
theorem cs_wd (y z i : Nat) : wd (y + z) i = (wd y i + cs y z i) % 18446744073709551616 := by
  unfold cs wd
  have hp := wpow_pos i
  generalize 18446744073709551616 ^ i = q at *
  have e : y + z = (y % q + z) + q * (y / q) := by have := Nat.mod_add_div y q; omega
  have e3 := congrArg (· / q) e
  simp only [Nat.add_mul_div_left _ _ hp] at e3
  rw [e3]
  omega
theorem cs_lt (y z i : Nat) (hz : z < 65536) : cs y z i < 65537 := by
  unfold cs
  have hp := wpow_pos i
  have h1 := Nat.mod_lt y hp
  generalize 18446744073709551616 ^ i = q at *
  rw [Nat.div_lt_iff_lt_mul hp]
  have : 65536 * 1 ≤ 65536 * q := Nat.mul_le_mul_left _ hp
  omega
theorem cs_top (y z : Nat) (hy : y < MM) : cs y z 4 = (y + z) / MM := by
  unfold cs
  rw [← MM_eq, Nat.mod_eq_of_lt hy]
/-- The words of a sum on their way. -/
def mix (y z k : Nat) : Nat → Nat := fun j => if j < k then wd (y + z) j else wd y j
theorem mix_up (y z k : Nat) : up (mix y z k) k (wd (y + z) k) = mix y z (k + 1) := by
  funext j
  unfold up mix
  by_cases e : j = k
  · rw [if_pos e, e, if_pos (by omega)]
  · rw [if_neg e]
    by_cases h : j < k
    · rw [if_pos h, if_pos (by omega)]
    · rw [if_neg h, if_neg (by omega)]
theorem mix_zero (y z : Nat) : rowOf .u64 (mix y z 0) 4 = ws y := rowOf_congr fun j hj => by unfold mix; rw [if_neg (by omega)]
theorem mix_all (y z : Nat) : rowOf .u64 (mix y z 4) 4 = ws (y + z) := rowOf_congr fun j hj => by unfold mix; rw [if_pos hj]
theorem mix_here (y z k : Nat) : mix y z k k = wd y k := by unfold mix; rw [if_neg (by omega)]
theorem fold_keep (y k : Nat) : ((y + 38 * k) % MM + (y + 38 * k) / MM * MM) % PP = (y + k * MM) % PP := by
  rw [Nat.mul_comm ((y + 38 * k) / MM), Nat.mod_add_div]
  have : y + k * MM = (y + 38 * k) + PP * (2 * k) := by unfold MM PP; omega
  rw [this, Nat.add_mul_mod_self_left]

theorem fold_first (n : Nat) : ((n % MM + n / MM * 38) % MM + (n % MM + n / MM * 38) / MM * MM) % PP = n % PP := by
  have := fold_keep (n % MM) (n / MM)
  rw [Nat.mul_comm 38] at this
  rw [this, Nat.mul_comm (n / MM) MM, Nat.mod_add_div]
theorem add64_0 (x y : Nat) (hx : x < 18446744073709551616) (hy : y < 18446744073709551616) : ∀ w, (callFunc 41 #[.int .u64 (x : Int), .int .u64 (y : Int), .int .u64 0]).run Try.prog w = .ok (.value (.tuple #[.int .u64 (((x + y) % 18446744073709551616 : Nat) : Int), .int .u64 (((x + y) / 18446744073709551616 : Nat) : Int)])) w := fun w => add64 x y 0 hx hy (by omega) w
theorem setCell_sz (w : World) (p : Addr) (v : Value) : (w.setCell p v).heap.size = w.heap.size := by simp

section
variable {o : Oper} {a : Act} {w : World} {x y : Operand}
theorem run_shr64 (v r : Nat) (hv : v < 18446744073709551616) (hr : r < 8) (ho : o.op = .binOp .shr 34 x y 32) (hx : a.eval x = .int .u64 (v : Int)) (hy : a.eval y = .int .u64 ((8 * r : Nat) : Int)) : (execOp a.eval o).run Try.prog w = .ok (.value (.int .u64 ((v / 256 ^ r : Nat) : Int))) w := by
  have h0 : (v : Int) < 18446744073709551616 := by omega
  have h1 : (0 : Int) ≤ (v : Int) := by omega
  unfold execOp
  simp only [ho, hx, hy]
  clear hx hy ho
  generalize a.eval = f at *
  rcases (by omega : r = 0 ∨ r = 1 ∨ r = 2 ∨ r = 3 ∨ r = 4 ∨ r = 5 ∨ r = 6 ∨ r = 7) with rfl | rfl | rfl | rfl | rfl | rfl | rfl | rfl <;> go_simp
theorem run_lti (i : Nat) (c : Int) (b : Bool) (hb : decide ((i : Int) < c) = b) (ho : o.op = .binOp .lss 3 x (.const (.int .i64 c)) 3) (hx : a.eval x = .int .i64 (i : Int)) : (execOp a.eval o).run Try.prog w = .ok (.value (.bool b)) w := by
  have hf : a.eval (.const (.int .i64 c)) = .int .i64 c := rfl
  unfold execOp
  simp only [ho, hx]
  generalize a.eval = f at *
  go_simp
theorem run_cvb (v b : Nat) (h : b = v % 256) (ho : o.op = .convert 34 5 x) (hx : a.eval x = .int .u64 (v : Int)) : (execOp a.eval o).run Try.prog w = .ok (.value (.int .u8 (b : Int))) w := by
  subst h
  unfold execOp
  simp only [ho, hx]
  generalize a.eval = f at *
  go_simp
  exact IntKind.wrap_u8 _
end
set_option maxHeartbeats 2000000 in
set_option maxRecDepth 100000 in
theorem rfolded_any (n : Nat) (hn : n < MM * MM) (w : World) : Calls Try.prog 42 #[.agg (rowOf .u64 (wd n) 8)] w fun e w' => e = .returned (.agg (bs (n % PP))) ∧ Below w.heap.size w w' := by
  have HNN := Lib.hid hn
  clear hn
  go_enter Try.func42, Try.ntmps42
  go_wp2_with fail
  generalize hW : World.alloc _ _ = W0
  have hs0 : W0.heap.size = w.heap.size + 3 := by rw [← hW]; simp
  have h0 : Fr w W0 [(rowOf .u64 (wd n) 8, 45), (bs 0, 23), (rowOf .u64 (part (n % MM + n / MM * 38) 0) 4, 35)] := hW ▸ Fr.three w (rowOf .u64 (wd n) 8) (bs 0) (rowOf .u64 (part (n % MM + n / MM * 38) 0) 4) _ _ _
  clear hW
  have HS0 := Lib.hid hs0
  clear hs0
  go_loopw [4, 5] (fun kv iv wr => ∃ i : Nat, i ≤ 4 ∧ iv = .int .i64 (i : Int) ∧ kv = .int .u64 (cf (n % MM) (n / MM) i : Int) ∧ Fr w wr [(rowOf .u64 (wd n) 8, 45), (bs 0, 23), (rowOf .u64 (part (n % MM + n / MM * 38) i) 4, 35)] ∧ wr.heap.size = w.heap.size + 3) (fun _ iv _ => 4 - (intOf iv).toNat)
  case atStart => exact ⟨0, by omega, rfl, by rw [cf_zero]; rfl, h0, HS0.out⟩
  case round =>
    clear h0
    obtain ⟨i, hi, rfl, rfl, h0, hsz⟩ := hrel
    by_cases hlt : i < 4
    · have r0 : Row wr w.heap.size 8 45 .u64 (wd n) := h0.at' 0 _ _ rfl
      have r2 : Row wr (w.heap.size + 2) 4 35 .u64 (part (n % MM + n / MM * 38) i) := h0.at' 2 _ _ rfl
      obtain ⟨c0, _⟩ := r0.at i (by omega)
      obtain ⟨c4, _⟩ := r0.at (i + 4) (by omega)
      obtain ⟨c2, f2⟩ := r2.at i hlt
      clear r0 r2
      have i0 : (0 : Int) ≤ (i : Int) := by omega
      have i4 : (i : Int) < 4 := by omega
      have x1 : ((i : Int) + 4).toNat = i + 4 := by omega
      have x2 : (0 : Int) ≤ (i : Int) + 4 := by omega
      have x3 : (i : Int) + 4 < 8 := by omega
      have ew := cf_wd (n % MM) (n / MM) i
      have es := cf_succ (n % MM) (n / MM) i
      rw [wd_div, wd_mod _ _ hlt, Nat.add_comm 4 i] at ew es
      have hf := wd_lt n i
      have hh := wd_lt n (i + 4)
      have ho := cf_le (n % MM) (n / MM) i
      have hm := mul_high (wd n (i + 4)) 38 hh (by omega)
      have HM := Lib.hid (mul64 (wd n (i + 4)) 38 hh (by omega))
      generalize wd n i = f at *
      generalize wd n (i + 4) = g at *
      generalize cf (n % MM) (n / MM) i = o at *
      generalize hov : cf (n % MM) (n / MM) (i + 1) = ov at *
      obtain ⟨s1, s2, s3⟩ := pro_sums (g * 38) f o hm.2 hf
      rw [← ew] at s1
      rw [← es] at s2
      obtain ⟨hi', hhi⟩ : ∃ x, x = g * 38 / 18446744073709551616 := ⟨_, rfl⟩
      obtain ⟨lo, hlo⟩ : ∃ x, x = g * 38 % 18446744073709551616 := ⟨_, rfl⟩
      rw [← hhi, ← hlo] at HM
      rw [← hlo] at s1 s2 s3
      rw [← hhi] at s2 s3
      have hll : lo < 18446744073709551616 := by omega
      have a1 := add64_0 lo f hll hf
      obtain ⟨t1, ht1⟩ : ∃ x, x = (lo + f) % 18446744073709551616 := ⟨_, rfl⟩
      obtain ⟨d1, hd1⟩ : ∃ x, x = (lo + f) / 18446744073709551616 := ⟨_, rfl⟩
      rw [← ht1, ← hd1] at a1
      rw [← ht1] at s1
      rw [← hd1, ← ht1] at s2
      rw [← hd1] at s3
      have a2 := add64_0 t1 o (by omega) (by omega)
      rw [s1] at a2
      obtain ⟨d2, hd2⟩ : ∃ x, x = (t1 + o) / 18446744073709551616 := ⟨_, rfl⟩
      rw [← hd2] at a2 s2
      have e1 : (hi' : Int) + (d1 : Int) < 18446744073709551616 := by omega
      have e2 : (hi' : Int) + (d1 : Int) + (d2 : Int) = (ov : Int) := by omega
      have e3 : (ov : Int) < 18446744073709551616 := by omega
      have H0 := Lib.hid h0
      have HZ := Lib.hid hsz
      have HOV := Lib.hid hov
      clear h0 hsz hov s1 s2 s3 hhi hlo ht1 hd1 hd2 hm hf hh ew es ho hll
      go_wp2_with fail
      refine (HM.out _).mono ?_
      rintro e w' ⟨rfl, rfl⟩
      go_wp2
      go_roundw
      case rel => exact ⟨i + 1, by omega, by go_num, by rw [HOV.out], by rw [← part_up, ← rowOf_set]; exact H0.out.put 2 rfl i _ _ rfl, (setCell_sz _ _ _).trans HZ.out⟩
      case measure => simp [intOf]; omega
    · obtain rfl : i = 4 := by omega
      rw [show ((4 : Nat) : Int) = (4 : Int) from rfl]
      have hk := cf_le (n % MM) (n / MM) 4
      have hq : n / MM < MM := Nat.div_lt_of_lt_mul HNN.out
      have ht := cf_top (n % MM) (n / MM) (Nat.mod_lt _ (by decide)) hq
      have hff := fold_first n
      rw [← ht] at hff
      rw [part_all, ← ws_mod] at h0
      have hyl : (n % MM + n / MM * 38) % MM < MM := Nat.mod_lt _ (by decide)
      generalize (n % MM + n / MM * 38) % MM = y at *
      generalize cf (n % MM) (n / MM) 4 = k at *
      have HK := Lib.hid hk
      have HF := Lib.hid hff
      have HY := Lib.hid hyl
      have H0 := Lib.hid h0
      have HZ := Lib.hid hsz
      clear h0 hsz hff ht hq hk hyl hlt hi
      go_wp2_with fail
      go_loopg [4] 3 (fun g kv wr => ∃ k y : Nat, kv = .int .u64 (k : Int) ∧ Hid (k ≤ 38 ∧ y < MM ∧ (y + k * MM) % PP = n % PP ∧ (g ≤ 2 → k = 0 ∨ y < 1444) ∧ (g ≤ 1 → k = 0)) ∧ Fr w wr [(rowOf .u64 (wd n) 8, 45), (bs 0, 23), (ws y, 35)] ∧ wr.heap.size = w.heap.size + 3)
      case atStart => exact ⟨k, y, rfl, Lib.hid ⟨HK.out, HY.out, HF.out, fun h => absurd h (by decide), fun h => absurd h (by decide)⟩, H0.out, HZ.out⟩
      case round =>
        clear H0 HZ HK HF HY
        obtain ⟨k, y, rfl, HK, h0, hsz⟩ := hrel
        by_cases hk0 : k = 0
        · subst hk0
          have HH := Lib.hid (h0.push hsz (bs 0) 23)
          have hy : y % PP = n % PP := by have := HK.out.2.2.1; rwa [Nat.zero_mul, Nat.add_zero] at this
          have HY := Lib.hid hy
          have HYL := Lib.hid HK.out.2.1
          clear h0 hy HK
          go_wp2_with fail
          generalize hW4 : World.alloc _ _ = W4
          have h4 : Fr w W4 [(rowOf .u64 (wd n) 8, 45), (bs 0, 23), (ws y, 35), (rowOf .u8 (partb y 0) 32, 23)] := hW4 ▸ HH.out
          clear hW4 HH
          go_loopw [17] (fun iv wr => ∃ j : Nat, j ≤ 32 ∧ iv = .int .i64 (j : Int) ∧ Fr w wr [(rowOf .u64 (wd n) 8, 45), (bs 0, 23), (ws y, 35), (rowOf .u8 (partb y j) 32, 23)]) (fun iv _ => 32 - (intOf iv).toNat)
          case atStart => exact ⟨0, by omega, rfl, h4⟩
          case round =>
            clear h4
            obtain ⟨j, hj, rfl, h4⟩ := hrel
            by_cases hlj : j < 32
            · have j0 : (0 : Int) ≤ (j : Int) := by omega
              have j1 : (j : Int) < 32 := by omega
              have jq : j / 8 < 4 := by omega
              have jr : j % 8 < 8 := by omega
              have hbj : bt y j = wd y (j / 8) / 256 ^ (j % 8) % 256 := by
                have := bt_wd y (j / 8) (j % 8) jr
                rwa [show 8 * (j / 8) + j % 8 = j by omega] at this
              have r2 : Row wr (w.heap.size + 2) 4 35 .u64 (wd y) := h4.at' 2 _ _ rfl
              have r3 : Row wr (w.heap.size + 3) 32 23 .u8 (partb y j) := h4.at' 3 _ _ rfl
              go_step
              go_step
              go_step
              go_step
              refine lst (wanted_none rfl) ?_
              refine (w_value 73 (.int .i64 (j : Int)) rfl (run_mv rfl rfl) ?_)
              simp only [List.setIfInBounds_toArray, List.set_cons_zero, List.set_cons_succ]
              refine lst (wanted_none rfl) (w_value 74 (.bool true) rfl (run_lti j 32 true (by simpa using j1) rfl rfl) ?_)
              simp only [List.setIfInBounds_toArray, List.set_cons_zero, List.set_cons_succ]
              go_step
              go_step
              go_step
              go_step
              go_step
              go_step
              go_step
              go_step
              go_step
              go_step
              refine lst (wanted_none rfl) (w_value 77 (.int .i64 (j : Int)) rfl (run_mv rfl rfl) ?_)
              simp only [List.setIfInBounds_toArray, List.set_cons_zero, List.set_cons_succ]
              refine lst (wanted_none rfl) (w_value 78 (.int .i64 (j : Int)) rfl (run_mv rfl rfl) ?_)
              simp only [List.setIfInBounds_toArray, List.set_cons_zero, List.set_cons_succ]
              refine lst (wanted_none rfl) (w_value 79 (.int .i64 ((j / 8 : Nat) : Int)) rfl (run_q8 j (by omega) rfl rfl) ?_)
              simp only [List.setIfInBounds_toArray, List.set_cons_zero, List.set_cons_succ]
              refine lst (wanted_none rfl) (w_value 80 (.pointer (some ⟨w.heap.size + 2, j / 8, none⟩)) rfl (run_ix4v (j / 8) (w.heap.size + 2) rfl rfl rfl jq) ?_)
              simp only [List.setIfInBounds_toArray, List.set_cons_zero, List.set_cons_succ]
              refine lst (wanted_none rfl) (w_value 81 (.int .u64 (wd y (j / 8) : Int)) rfl (run_ld4v (wd y) (j / 8) (w.heap.size + 2) r2 rfl rfl jq) ?_)
              simp only [List.setIfInBounds_toArray, List.set_cons_zero, List.set_cons_succ]
              refine lst (wanted_none rfl) (w_value 82 (.int .i64 (j : Int)) rfl (run_mv rfl rfl) ?_)
              simp only [List.setIfInBounds_toArray, List.set_cons_zero, List.set_cons_succ]
              refine lst (wanted_none rfl) (w_value 83 (.int .i64 ((j % 8 : Nat) : Int)) rfl (run_r8 j (by omega) rfl rfl) ?_)
              simp only [List.setIfInBounds_toArray, List.set_cons_zero, List.set_cons_succ]
              refine lst (wanted_none rfl) (w_value 84 (.int .u64 ((j % 8 : Nat) : Int)) rfl (run_cvu (j % 8) (by omega) rfl rfl) ?_)
              simp only [List.setIfInBounds_toArray, List.set_cons_zero, List.set_cons_succ]
              refine lst (wanted_none rfl) (w_value 85 (.int .u64 ((8 * (j % 8) : Nat) : Int)) rfl (run_m8 (j % 8) jr rfl rfl) ?_)
              simp only [List.setIfInBounds_toArray, List.set_cons_zero, List.set_cons_succ]
              refine lst (wanted_none rfl) (w_value 86 (.int .u64 ((wd y (j / 8) / 256 ^ (j % 8) : Nat) : Int)) rfl (run_shr64 (wd y (j / 8)) (j % 8) (wd_lt _ _) jr rfl rfl rfl) ?_)
              simp only [List.setIfInBounds_toArray, List.set_cons_zero, List.set_cons_succ]
              refine lst (wanted_none rfl) (w_value 87 (.int .u8 (bt y j : Int)) rfl (run_cvb _ _ hbj rfl rfl) ?_)
              simp only [List.setIfInBounds_toArray, List.set_cons_zero, List.set_cons_succ]
              refine lst (wanted_none rfl) (w_value 88 (.pointer (some ⟨w.heap.size + 3, j, none⟩)) rfl (run_ix32v j (w.heap.size + 3) rfl rfl rfl hlj) ?_)
              simp only [List.setIfInBounds_toArray, List.set_cons_zero, List.set_cons_succ]
              obtain ⟨c3, f3⟩ := r3.at j hlj
              have H4 := Lib.hid h4
              clear r2 r3 h4 hbj
              go_wp2
              go_roundw
              case rel => exact ⟨j + 1, by omega, by go_num, by rw [← partb_up, ← rowOf_set]; exact H4.out.put 3 rfl j _ _ rfl⟩
              case measure => simp [intOf]; omega
            · obtain rfl : j = 32 := by omega
              rw [show ((32 : Nat) : Int) = (32 : Int) from rfl]
              rw [partb_all] at h4
              go_wp2_with (with_reducible refine wpList_load_row rfl 23 _ rfl (w.heap.size + 3) rfl 23 _ (0, 0) _ (h4.at' 3 _ _ rfl) Try.underlying23 rfl (by rw [bs_sz]; exact info_b) ?_)
              refine (rreduce_any y HYL.out _).mono ?_
              rintro e w5 ⟨rfl, hb5⟩
              rw [HY.out]
              have h5 := h4.call hb5
              go_wp2_with (with_reducible refine wpList_store_row rfl 23 _ _ rfl (w.heap.size + 1) (bs (n % PP)) rfl rfl 23 _ (h5.at' 1 _ _ rfl) (by rw [bs_sz]; exact info_b) (by rw [bs_sz, bs_sz]) (bs_one _) ?_)
              refine bodyPost_ret (v := .agg (bs (n % PP))) (results_cell_row rfl _ _ (w.heap.size + 1) 23 _ (0, 0) _ rfl (setRow_heap _ _ _ _ _ _ (h5.at' 1 _ _ rfl)) Try.underlying23 rfl (by rw [bs_sz]; exact info_b)) rfl ⟨rfl, below_setRow h5.below (by omega)⟩
        · have k0 : (0 : Int) < (k : Int) := by omega
          have k38 : (k : Int) ≤ 38 := by have := HK.out.1; omega
          have kw : IntKind.u64.wrap (38 * (k : Int)) = ((38 * k : Nat) : Int) := by rw [Int.natCast_mul]; exact IntWalk.u64_in _ (by omega)
          clear k38
          have H0 := Lib.hid h0
          have HZ := Lib.hid hsz
          have HK0 := Lib.hid hk0
          clear h0 hsz hk0
          go_wp2_with fail
          go_loopw [12, 13] (fun cv iv wr => ∃ i : Nat, i ≤ 4 ∧ iv = .int .i64 (i : Int) ∧ cv = .int .u64 (cs y (38 * k) i : Int) ∧ Fr w wr [(rowOf .u64 (wd n) 8, 45), (bs 0, 23), (rowOf .u64 (mix y (38 * k) i) 4, 35)] ∧ wr.heap.size = w.heap.size + 3) (fun _ iv _ => 4 - (intOf iv).toNat)
          case atStart =>
            have hst := H0.out
            rw [← mix_zero y (38 * k)] at hst
            refine ⟨0, by omega, rfl, ?_, hst, HZ.out⟩
            rw [cs_zero, Int.natCast_mul]; rfl
          case round =>
            clear H0 HZ
            obtain ⟨i, hi, rfl, rfl, h0, hsz⟩ := hrel
            by_cases hlt : i < 4
            · have r2 : Row wr (w.heap.size + 2) 4 35 .u64 (mix y (38 * k) i) := h0.at' 2 _ _ rfl
              obtain ⟨c2, f2⟩ := r2.at i hlt
              rw [mix_here] at c2
              have i0 : (0 : Int) ≤ (i : Int) := by omega
              have i4 : (i : Int) < 4 := by omega
              have hz := cs_lt y (38 * k) i (by have := HK.out.1; omega)
              have a1 := add64_0 (wd y i) (cs y (38 * k) i) (wd_lt _ _) (by omega)
              rw [← cs_wd, ← cs_succ] at a1
              have H0 := Lib.hid h0
              have HZ := Lib.hid hsz
              clear h0 hsz r2 hz
              go_wp2
              go_roundw
              case rel => exact ⟨i + 1, by omega, by go_num, rfl, by rw [← mix_up, ← rowOf_set]; exact H0.out.put 2 rfl i _ _ rfl, (setCell_sz _ _ _).trans HZ.out⟩
              case measure => simp [intOf]; omega
            · obtain rfl : i = 4 := by omega
              rw [show ((4 : Nat) : Int) = (4 : Int) from rfl]
              rw [mix_all, ← ws_mod] at h0
              rw [cs_top y _ HK.out.2.1]
              have hn2 : Hid ((y + 38 * k) / MM ≤ 38 ∧ (y + 38 * k) % MM < MM ∧ ((y + 38 * k) % MM + (y + 38 * k) / MM * MM) % PP = n % PP ∧ (min (gk - 1) 2 ≤ 2 → (y + 38 * k) / MM = 0 ∨ (y + 38 * k) % MM < 1444) ∧ (min (gk - 1) 2 ≤ 1 → (y + 38 * k) / MM = 0)) := by
                obtain ⟨q1, q2, q3, q4, q5⟩ := HK.out
                refine ⟨?_, Nat.mod_lt _ (by decide), by rw [fold_keep]; exact q3, fun _ => ?_, fun hg => ?_⟩
                · unfold MM at *; omega
                · unfold MM at *; omega
                · have := q4 (by omega)
                  have := HK0.out
                  unfold MM at *; omega
              have hm2 : Hid (min (gk - 1) 2 < gk) := by
                show min (gk - 1) 2 < gk
                have := HK.out.2.2.2.2
                have := HK0.out
                omega
              generalize (y + 38 * k) / MM = k' at *
              generalize (y + 38 * k) % MM = y' at *
              have H0 := Lib.hid h0
              have HZ := Lib.hid hsz
              clear h0 hsz HK HK0 hi hlt
              go_wp2
              go_roundg (min (gk - 1) 2)
              case rel => exact ⟨k', y', rfl, hn2, H0.out, HZ.out⟩
              case measure => exact hm2.out
end Go.Proofs.Ytghcggecahaccaa.Fld
