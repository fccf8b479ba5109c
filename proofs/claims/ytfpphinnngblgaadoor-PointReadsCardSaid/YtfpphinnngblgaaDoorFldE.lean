/- Layer 3: products, powers. -/
import Derived.Test.YtfpphinnngblgaaDoorFldD
import Derived.StillTailTactics
namespace Go.Proofs.YtfpphinnngblgaaDoor.Fld
open Go.RowKit Go.Shelf
open Go.Proofs.YtfpphinnngblgaaDoor.Num (val up val_congr val_add val_lt val_up val_digits val_word)
open Go.Proofs.YtfpphinnngblgaaDoor.Arr

/-- What holds of the eight words while a product is made: i words of a are done, j of b. -/
structure Pro (a b i j o : Nat) (f : Nat → Nat) : Prop where
  lt : ∀ m, f m < 18446744073709551616
  zero : ∀ m, i + 4 ≤ m → m < 8 → f m = 0
  olt : o < 18446744073709551616
  sum : val 18446744073709551616 f 8 + o * 18446744073709551616 ^ (i + j) = a % 18446744073709551616 ^ i * b + wd a i * (b % 18446744073709551616 ^ j) * 18446744073709551616 ^ i
theorem Pro.step {a b i j o : Nat} {f : Nat → Nat} (h : Pro a b i j o f) (hi : i < 4) (hj : j < 4) :
    Pro a b i (j + 1) ((wd a i * wd b j + f (i + j) + o) / 18446744073709551616) (up f (i + j) ((wd a i * wd b j + f (i + j) + o) % 18446744073709551616)) := by
  have hm := mul_high (wd a i) (wd b j) (wd_lt _ _) (wd_lt _ _)
  have hf := h.lt (i + j)
  have ho := h.olt
  have hs := h.sum
  refine ⟨fun m => ?_, fun m h1 h2 => ?_, by omega, ?_⟩
  · unfold up; split
    · exact Nat.mod_lt _ (by decide)
    · exact h.lt m
  · unfold up; rw [if_neg (by omega)]; exact h.zero m h1 h2
  · have hu := val_up (b := 18446744073709551616) (f := f) (k := i + j) (x := (wd a i * wd b j + f (i + j) + o) % 18446744073709551616) (n := 8) (by omega)
    rw [mod_succ, Nat.mul_add, Nat.add_mul]
    have e2 : wd a i * (18446744073709551616 ^ j * wd b j) * 18446744073709551616 ^ i = wd a i * wd b j * 18446744073709551616 ^ (i + j) := by
      rw [Nat.pow_add, Nat.mul_comm (_ ^ j) (wd b j), ← Nat.mul_assoc, Nat.mul_assoc _ (_ ^ j), Nat.mul_comm (_ ^ j)]
    rw [e2, show i + (j + 1) = (i + j) + 1 from rfl, Nat.pow_succ, Nat.mul_comm (_ ^ (i + j)) 18446744073709551616, ← Nat.mul_assoc]
    generalize 18446744073709551616 ^ (i + j) = P at *
    generalize wd a i * wd b j = p at *
    generalize hq : (p + f (i + j) + o) / 18446744073709551616 = q at *
    generalize hr : (p + f (i + j) + o) % 18446744073709551616 = r at *
    have e3 : r + q * 18446744073709551616 = p + f (i + j) + o := by omega
    have e4 := congrArg (· * P) e3
    simp only [Nat.add_mul] at e4
    omega
theorem Pro.next {a b i o : Nat} {f : Nat → Nat} (h : Pro a b i 4 o f) (hb : b < MM) (hi : i < 4) : Pro a b (i + 1) 0 0 (up f (i + 4) o) := by
  have hs := h.sum
  have hu := val_up (b := 18446744073709551616) (f := f) (k := i + 4) (x := o) (n := 8) (by omega)
  have hz := h.zero (i + 4) (by omega) (by omega)
  rw [hz] at hu
  rw [MM_eq] at hb
  rw [Nat.mod_eq_of_lt hb] at hs
  refine ⟨fun m => ?_, fun m h1 h2 => ?_, by omega, ?_⟩
  · unfold up; split
    · exact h.olt
    · exact h.lt m
  · unfold up; rw [if_neg (by omega)]; exact h.zero m (by omega) h2
  · rw [mod_succ, Nat.pow_zero, Nat.mod_one, Nat.add_mul]
    have e2 : 18446744073709551616 ^ i * wd a i * b = wd a i * b * 18446744073709551616 ^ i := by
      rw [Nat.mul_comm (_ ^ i), Nat.mul_assoc, Nat.mul_comm (_ ^ i), ← Nat.mul_assoc]
    rw [e2]; omega
theorem pro_start (a b : Nat) : Pro a b 0 0 0 (fun _ => 0) := by
  refine ⟨fun _ => by simp, fun _ _ _ => rfl, by omega, ?_⟩
  simp [Nat.mod_one, val]
/-- The two sums with carries of one step. -/
theorem pro_sums (p f o : Nat) (hp : p ≤ 340282366920938463426481119284349108225) (hf : f < 18446744073709551616) :
    ((p % 18446744073709551616 + f) % 18446744073709551616 + o) % 18446744073709551616 = (p + f + o) % 18446744073709551616 ∧
    p / 18446744073709551616 + (p % 18446744073709551616 + f) / 18446744073709551616 + ((p % 18446744073709551616 + f) % 18446744073709551616 + o) / 18446744073709551616 = (p + f + o) / 18446744073709551616 ∧
    p / 18446744073709551616 + (p % 18446744073709551616 + f) / 18446744073709551616 < 18446744073709551616 := by
  refine ⟨?_, ?_, ?_⟩ <;> omega
theorem Pro.low {a b : Nat} {f : Nat → Nat} (h : Pro a b 4 0 0 f) (ha : a < MM) (j : Nat) (hj : j < 8) : f j = wd (a * b) j := by
  have hs := h.sum
  have := val_word (b := 18446744073709551616) (f := f) (n := 8) (q := j) (fun j _ => h.lt j) hj
  generalize val 18446744073709551616 f 8 = v at this hs
  rw [MM_eq] at ha
  rw [Nat.mod_eq_of_lt ha, Nat.pow_zero, Nat.mod_one] at hs
  rw [Nat.zero_mul, Nat.mul_zero, Nat.zero_mul, Nat.add_zero, Nat.add_zero] at hs
  rw [hs] at this
  exact this.symm
theorem wd_div (n j : Nat) : wd (n / MM) j = wd n (4 + j) := by
  unfold wd
  rw [MM_eq, Nat.div_div_eq_div_mul, ← Nat.pow_add]
theorem results_cell_cell {P : Program} {fn : Func} {p q : Tmp} {ty : TypeId} (h : fn.results = #[.cell p ty, .cell q ty]) (tmps : Array Value) (w : World) (g g' : Nat) (t t' : TypeId) (cs cs' : Array Value) (fr fr' : Nat × Nat) (d : TypeDesc)
    (hp : tmps.getD p undef = .pointer (some ⟨g, 0, none⟩)) (hq : tmps.getD q undef = .pointer (some ⟨g', 0, none⟩)) (hg : w.heap[g]? = some (.cells cs t fr)) (hg' : w.heap[g']? = some (.cells cs' t' fr'))
    (hu : P.underlying ty = some d) (hd : (match d with | .struct _ | .array _ _ => true | _ => false) = true) (hi : (P.info? ty).map (·.size) = some cs.size) (hi' : (P.info? ty).map (·.size) = some cs'.size) :
    (results fn tmps).run P w = .ok (.tuple #[.agg cs, .agg cs']) w := by
  have hp' : tmps[p]?.getD undef = .pointer (some ⟨g, 0, none⟩) := by simpa using hp
  have hq' : tmps[q]?.getD undef = .pointer (some ⟨g', 0, none⟩) := by simpa using hq
  simp [results, h, hp', hq', asAddr, run_loadVar_row w g t ty cs fr d hg hu hd hi, run_loadVar_row w g' t' ty cs' fr' d hg' hu hd hi']

theorem take_at {P : Program} {ops : Array Oper} {Q : Exit → Act → World → Prop} {md : Region.Mode} {S : World → Prop} {oi : Oper} {fuel : Nat} {listed : Array Bool} {a : Act} {w : World} (i : Nat) (d : Tmp) (v : Value) (hi : ops[i]? = some oi) (hd : oi.dst = some d)
    (hs : Region.noSelect ops = true) (hf : Region.free md ops listed i = true) (hr : (Region.ready md ops listed).contains i = true)
    (hQ : ∀ c a w, Q (.panic c) (a.put oi.dst v) w → Q (.panic c) a w) (hg : oi.guard = none) (hy : ∀ w, S w → (execOp a.eval oi).run P w = .ok (.value v) w) (hS : S w)
    (h : wpAnyH P md ops Q S fuel (listed.setIfInBounds i true) { a with tmps := a.tmps.setIfInBounds d v } w) : wpAnyH P md ops Q S (fuel + 1) listed a w :=
  wpAnyH_take hi hs hf hr hQ (.inl ⟨by unfold Region.wanted; rw [hg], hy⟩) hS (by unfold Act.put; rw [hd]; exact h)
theorem run_ix8 {o : Oper} {a : Act} {w : World} (t : Tmp) (i B : Nat) (ho : o.op = .indexAddr 62 (.tmp t) (.const (.int .i64 (i : Int)))) (ht : a.eval (.tmp t) = .pointer (some ⟨B, 0, none⟩)) (hi : i < 8) :
    (execOp a.eval o).run Tryd.prog w = .ok (.value (.pointer (some ⟨B, i, none⟩))) w := by
  have h1 : (i : Int) < 8 := by omega
  have h2 : (0 : Int) ≤ (i : Int) := by omega
  unfold execOp
  simp only [ho, ht]
  go_simp
theorem run_ld8 {o : Oper} {a : Act} {w : World} (t : Tmp) (i B n : Nat) (hr : Row w B 8 62 .u64 (wd n)) (ho : o.op = .load 50 (.tmp t)) (ht : a.eval (.tmp t) = .pointer (some ⟨B, i, none⟩)) (hi : i < 8) :
    (execOp a.eval o).run Tryd.prog w = .ok (.value (.int .u64 (wd n i : Int))) w := by
  have h1 := (hr.at i hi).1
  unfold execOp
  simp only [ho, ht]
  go_simp
theorem run_b4 {o : Oper} {a : Act} {w : World} {x0 x1 x2 x3 : Operand} (m n k : Nat) (hk : ∀ j, wd n j = wd m (k + j)) (ho : o.op = .build 52 #[(0, x0), (1, x1), (2, x2), (3, x3)])
    (h0 : a.eval x0 = .int .u64 (wd m (k + 0) : Int)) (h1 : a.eval x1 = .int .u64 (wd m (k + 1) : Int)) (h2 : a.eval x2 = .int .u64 (wd m (k + 2) : Int)) (h3 : a.eval x3 = .int .u64 (wd m (k + 3) : Int)) :
    (execOp a.eval o).run Tryd.prog w = .ok (.value (.agg (ws n))) w := by
  rw [← hk] at h0 h1 h2 h3
  unfold execOp
  simp only [ho]
  generalize a.eval = f at *
  simp [h0, h1, h2, h3, go_sem]
  rfl
set_option maxHeartbeats 2000000 in
theorem product_any (a b : Nat) (ha : a < MM) (hb : b < MM) (w : World) : Calls Tryd.prog 65 #[.agg (ws a), .agg (ws b)] w fun e w' => e = .returned (.tuple #[.agg (ws (a * b)), .agg (ws (a * b / MM))]) ∧ Below w.heap.size w w' := by
  have HA := Lib.hid ha
  have HB := Lib.hid hb
  clear ha hb
  go_enter Tryd.func65, Tryd.ntmps65
  go_wp2_with fail
  generalize hW : World.alloc _ _ = W0
  have h0 : Fr w W0 [(ws a, 52), (ws b, 52), (ws 0, 52), (ws 0, 52), (rowOf .u64 (fun _ => 0) 8, 62)] := hW ▸ Fr.five w (ws a) (ws b) (ws 0) (ws 0) (rowOf .u64 (fun _ => 0) 8) _ _ _ _ _
  clear hW
  go_loopw [7] (fun iv wr => ∃ (i : Nat) (f : Nat → Nat), i ≤ 4 ∧ iv = .int .i64 (i : Int) ∧ Fr w wr [(ws a, 52), (ws b, 52), (ws 0, 52), (ws 0, 52), (rowOf .u64 f 8, 62)] ∧ Pro a b i 0 0 f) (fun iv _ => 4 - (intOf iv).toNat)
  case atStart => exact ⟨0, _, by omega, rfl, h0, pro_start a b⟩
  case round =>
    clear h0
    obtain ⟨i, f, hi, rfl, h0, hp⟩ := hrel
    by_cases hlt : i < 4
    · have hk0 : (0 : Int) ≤ (i : Int) := by omega
      have hk4 : (i : Int) < 4 := by omega
      go_wp2_with fail
      go_loopw [8, 9] (fun ov jv wr => ∃ (j o : Nat) (f : Nat → Nat), j ≤ 4 ∧ jv = .int .i64 (j : Int) ∧ ov = .int .u64 (o : Int) ∧ Fr w wr [(ws a, 52), (ws b, 52), (ws 0, 52), (ws 0, 52), (rowOf .u64 f 8, 62)] ∧ Pro a b i j o f) (fun _ jv _ => 4 - (intOf jv).toNat)
      case atStart => exact ⟨0, 0, f, by omega, rfl, rfl, h0, hp⟩
      case round =>
        clear h0 hp f
        obtain ⟨j, o, f, hj, rfl, rfl, h0, hp⟩ := hrel
        by_cases hlj : j < 4
        · have r0 : Row wr w.heap.size 4 52 .u64 (wd a) := h0.at' 0 _ _ rfl
          have r1 : Row wr (w.heap.size + 1) 4 52 .u64 (wd b) := h0.at' 1 _ _ rfl
          have r4 : Row wr (w.heap.size + 4) 8 62 .u64 f := h0.at' 4 _ _ rfl
          obtain ⟨c0, _⟩ := r0.at i hlt
          obtain ⟨c1, _⟩ := r1.at j hlj
          obtain ⟨c4, f4⟩ := r4.at (i + j) (by omega)
          have hm := mul_high (wd a i) (wd b j) (wd_lt _ _) (wd_lt _ _)
          have hff := hp.lt (i + j)
          have hoo := hp.olt
          obtain ⟨s1, s2, s3⟩ := pro_sums (wd a i * wd b j) (f (i + j)) o hm.2 hff
          obtain ⟨p, hpp⟩ : ∃ p, p = wd a i * wd b j := ⟨_, rfl⟩
          rw [← hpp] at s1 s2 s3 hm
          obtain ⟨hh, hhh⟩ : ∃ x, x = p / 18446744073709551616 := ⟨_, rfl⟩
          obtain ⟨ll, hll⟩ : ∃ x, x = p % 18446744073709551616 := ⟨_, rfl⟩
          obtain ⟨q, hq⟩ : ∃ q, q = f (i + j) := ⟨_, rfl⟩
          rw [← hq] at c4 hff s1 s2 s3
          rw [← hhh] at s2 s3
          rw [← hll] at s1 s2 s3
          have hlll : ll < 18446744073709551616 := by omega
          obtain ⟨t1, ht1⟩ : ∃ x, x = (ll + q) % 18446744073709551616 := ⟨_, rfl⟩
          obtain ⟨d1, hd1⟩ : ∃ x, x = (ll + q) / 18446744073709551616 := ⟨_, rfl⟩
          obtain ⟨d2, hd2⟩ : ∃ x, x = (t1 + o) / 18446744073709551616 := ⟨_, rfl⟩
          obtain ⟨t2, ht2⟩ : ∃ x, x = (p + q + o) % 18446744073709551616 := ⟨_, rfl⟩
          obtain ⟨ov, hov⟩ : ∃ x, x = (p + q + o) / 18446744073709551616 := ⟨_, rfl⟩
          have ht1l : t1 < 18446744073709551616 := by omega
          rw [← ht1, ← ht2] at s1
          rw [← ht1, ← hd1, ← hd2, ← hov] at s2
          rw [← hd1] at s3
          have a1 : ∀ w, (callFunc 59 #[.int .u64 (ll : Int), .int .u64 (q : Int), .int .u64 0]).run Tryd.prog w = .ok (.value (.tuple #[.int .u64 (t1 : Int), .int .u64 (d1 : Int)])) w := by
            intro w
            rw [ht1, hd1]
            exact add64 ll q 0 hlll hff (by omega) w
          have a2 : ∀ w, (callFunc 59 #[.int .u64 (t1 : Int), .int .u64 (o : Int), .int .u64 0]).run Tryd.prog w = .ok (.value (.tuple #[.int .u64 (t2 : Int), .int .u64 (d2 : Int)])) w := by
            intro w
            rw [← s1, hd2]
            exact add64 t1 o 0 ht1l hoo (by omega) w
          have hs := hp.step hlt hlj
          rw [← hpp, ← hq, ← ht2, ← hov] at hs
          have HS := Lib.hid hs
          have HM := Lib.hid (mul64 (wd a i) (wd b j) (wd_lt _ _) (wd_lt _ _))
          rw [← hpp, ← hhh, ← hll] at HM
          have H0 := Lib.hid h0
          have e1 : (hh : Int) + (d1 : Int) < 18446744073709551616 := by omega
          have e2 : (hh : Int) + (d1 : Int) + (d2 : Int) = (ov : Int) := by omega
          have e3 : (ov : Int) < 18446744073709551616 := by have := hs.olt; omega
          have j0 : (0 : Int) ≤ (j : Int) := by omega
          have j4 : (j : Int) < 4 := by omega
          have x1 : ((i : Int) + (j : Int)).toNat = i + j := by omega
          have x2 : (0 : Int) ≤ (i : Int) + (j : Int) := by omega
          have x3 : (i : Int) + (j : Int) < 8 := by omega
          clear hs h0 hp s1 s2 s3 hpp hhh hll hq ht1 hd1 hd2 ht2 hov hm r0 r1 r4
          go_wp2_with fail
          go_region_held3 (fun w' => w'.cell? ⟨w.heap.size, i, none⟩ = some (.int .u64 (wd a i : Int)) ∧ w'.cell? ⟨w.heap.size + 1, j, none⟩ = some (.int .u64 (wd b j : Int))) (first | exact ⟨c0, c1⟩ | go_keep)
            (first | (go_at_call 58; ((with_reducible refine (HM.out _).mono ?_); rintro e w' ⟨rfl, rfl⟩)))
          clear c0 c1
          go_wp2
          go_roundw
          case rel =>
            refine ⟨j + 1, ov, _, by omega, by go_num, by first | rfl | (congr 1; omega) | (rw [e2]), ?_, HS.out⟩
            exact (H0.out.drew).put 4 rfl (i + j) _ _ (by rw [rowOf_set])
          case measure => simp [intOf]; omega
        · obtain rfl : j = 4 := by omega
          rw [show ((4 : Nat) : Int) = (4 : Int) from rfl]
          have r4 : Row wr (w.heap.size + 4) 8 62 .u64 f := h0.at' 4 _ _ rfl
          obtain ⟨c4, f4⟩ := r4.at (i + 4) (by omega)
          have x1 : ((i : Int) + 4).toNat = i + 4 := by omega
          have x2 : (0 : Int) ≤ (i : Int) + 4 := by omega
          have x3 : (i : Int) + 4 < 8 := by omega
          have H0 := Lib.hid h0
          have HP := Lib.hid (hp.next HB.out hlt)
          clear h0 hp r4
          go_wp2
          go_roundw
          case rel => exact ⟨i + 1, _, by omega, by go_num, H0.out.put 4 rfl (i + 4) _ _ (by rw [rowOf_set]), HP.out⟩
          case measure => simp [intOf]; omega
    · obtain rfl : i = 4 := by omega
      rw [show ((4 : Nat) : Int) = (4 : Int) from rfl]
      have r4 : Row wr (w.heap.size + 4) 8 62 .u64 f := h0.at' 4 _ _ rfl
      have r5 : rowOf .u64 f 8 = rowOf .u64 (wd (a * b)) 8 := rowOf_congr fun j hj => hp.low HA.out j hj
      unfold Row at r4
      rw [r5] at r4
      have r6 : Row wr (w.heap.size + 4) 8 62 .u64 (wd (a * b)) := r4
      rw [r5] at h0
      obtain ⟨m, hm⟩ : ∃ m, m = a * b := ⟨_, rfl⟩
      rw [← hm] at r6
      rw [← hm] at h0
      have H0 := Lib.hid h0
      have HM := Lib.hid hm
      clear h0 hp r4 r5 hm
      have R6 := Lib.hid r6
      clear r6
      go_wp2_with fail
      refine wp_region_held_drew (S := fun w' => Row w' (w.heap.size + 4) 8 62 .u64 (wd m)) (by kernel_rfl) R6.out (fun hS => ?_)
      refine take_at 0 63 (.pointer (some ⟨w.heap.size + 4, 0, none⟩)) rfl rfl (by kernel_rfl) (by kernel_rfl) (by kernel_rfl) (fun _ _ _ h => h) rfl (fun w' _ => run_ix8 6 0 _ rfl rfl (by decide)) hS ?_
      simp only [List.setIfInBounds_toArray, List.set_cons_zero, List.set_cons_succ]
      refine take_at 1 64 (.int .u64 (wd m 0 : Int)) rfl rfl (by kernel_rfl) (by kernel_rfl) (by kernel_rfl) (fun _ _ _ h => h) rfl (fun w' hw => run_ld8 63 0 _ m hw rfl rfl (by decide)) hS ?_
      simp only [List.setIfInBounds_toArray, List.set_cons_zero, List.set_cons_succ]
      refine take_at 2 65 (.pointer (some ⟨w.heap.size + 4, 1, none⟩)) rfl rfl (by kernel_rfl) (by kernel_rfl) (by kernel_rfl) (fun _ _ _ h => h) rfl (fun w' _ => run_ix8 6 1 _ rfl rfl (by decide)) hS ?_
      simp only [List.setIfInBounds_toArray, List.set_cons_zero, List.set_cons_succ]
      refine take_at 3 66 (.int .u64 (wd m 1 : Int)) rfl rfl (by kernel_rfl) (by kernel_rfl) (by kernel_rfl) (fun _ _ _ h => h) rfl (fun w' hw => run_ld8 65 1 _ m hw rfl rfl (by decide)) hS ?_
      simp only [List.setIfInBounds_toArray, List.set_cons_zero, List.set_cons_succ]
      refine take_at 4 67 (.pointer (some ⟨w.heap.size + 4, 2, none⟩)) rfl rfl (by kernel_rfl) (by kernel_rfl) (by kernel_rfl) (fun _ _ _ h => h) rfl (fun w' _ => run_ix8 6 2 _ rfl rfl (by decide)) hS ?_
      simp only [List.setIfInBounds_toArray, List.set_cons_zero, List.set_cons_succ]
      refine take_at 5 68 (.int .u64 (wd m 2 : Int)) rfl rfl (by kernel_rfl) (by kernel_rfl) (by kernel_rfl) (fun _ _ _ h => h) rfl (fun w' hw => run_ld8 67 2 _ m hw rfl rfl (by decide)) hS ?_
      simp only [List.setIfInBounds_toArray, List.set_cons_zero, List.set_cons_succ]
      refine take_at 6 69 (.pointer (some ⟨w.heap.size + 4, 3, none⟩)) rfl rfl (by kernel_rfl) (by kernel_rfl) (by kernel_rfl) (fun _ _ _ h => h) rfl (fun w' _ => run_ix8 6 3 _ rfl rfl (by decide)) hS ?_
      simp only [List.setIfInBounds_toArray, List.set_cons_zero, List.set_cons_succ]
      refine take_at 7 70 (.int .u64 (wd m 3 : Int)) rfl rfl (by kernel_rfl) (by kernel_rfl) (by kernel_rfl) (fun _ _ _ h => h) rfl (fun w' hw => run_ld8 69 3 _ m hw rfl rfl (by decide)) hS ?_
      simp only [List.setIfInBounds_toArray, List.set_cons_zero, List.set_cons_succ]
      refine take_at 8 71 (.agg (ws m)) rfl rfl (by kernel_rfl) (by kernel_rfl) (by kernel_rfl) (fun _ _ _ h => h) rfl (fun w' _ => run_b4 m m 0 (fun j => by rw [Nat.zero_add]) rfl rfl rfl rfl rfl) hS ?_
      simp only [List.setIfInBounds_toArray, List.set_cons_zero, List.set_cons_succ]
      refine take_at 9 72 (.pointer (some ⟨w.heap.size + 4, 4, none⟩)) rfl rfl (by kernel_rfl) (by kernel_rfl) (by kernel_rfl) (fun _ _ _ h => h) rfl (fun w' _ => run_ix8 6 4 _ rfl rfl (by decide)) hS ?_
      simp only [List.setIfInBounds_toArray, List.set_cons_zero, List.set_cons_succ]
      refine take_at 10 73 (.int .u64 (wd m 4 : Int)) rfl rfl (by kernel_rfl) (by kernel_rfl) (by kernel_rfl) (fun _ _ _ h => h) rfl (fun w' hw => run_ld8 72 4 _ m hw rfl rfl (by decide)) hS ?_
      simp only [List.setIfInBounds_toArray, List.set_cons_zero, List.set_cons_succ]
      refine take_at 11 74 (.pointer (some ⟨w.heap.size + 4, 5, none⟩)) rfl rfl (by kernel_rfl) (by kernel_rfl) (by kernel_rfl) (fun _ _ _ h => h) rfl (fun w' _ => run_ix8 6 5 _ rfl rfl (by decide)) hS ?_
      simp only [List.setIfInBounds_toArray, List.set_cons_zero, List.set_cons_succ]
      refine take_at 12 75 (.int .u64 (wd m 5 : Int)) rfl rfl (by kernel_rfl) (by kernel_rfl) (by kernel_rfl) (fun _ _ _ h => h) rfl (fun w' hw => run_ld8 74 5 _ m hw rfl rfl (by decide)) hS ?_
      simp only [List.setIfInBounds_toArray, List.set_cons_zero, List.set_cons_succ]
      refine take_at 13 76 (.pointer (some ⟨w.heap.size + 4, 6, none⟩)) rfl rfl (by kernel_rfl) (by kernel_rfl) (by kernel_rfl) (fun _ _ _ h => h) rfl (fun w' _ => run_ix8 6 6 _ rfl rfl (by decide)) hS ?_
      simp only [List.setIfInBounds_toArray, List.set_cons_zero, List.set_cons_succ]
      refine take_at 14 77 (.int .u64 (wd m 6 : Int)) rfl rfl (by kernel_rfl) (by kernel_rfl) (by kernel_rfl) (fun _ _ _ h => h) rfl (fun w' hw => run_ld8 76 6 _ m hw rfl rfl (by decide)) hS ?_
      simp only [List.setIfInBounds_toArray, List.set_cons_zero, List.set_cons_succ]
      refine take_at 15 78 (.pointer (some ⟨w.heap.size + 4, 7, none⟩)) rfl rfl (by kernel_rfl) (by kernel_rfl) (by kernel_rfl) (fun _ _ _ h => h) rfl (fun w' _ => run_ix8 6 7 _ rfl rfl (by decide)) hS ?_
      simp only [List.setIfInBounds_toArray, List.set_cons_zero, List.set_cons_succ]
      refine take_at 16 79 (.int .u64 (wd m 7 : Int)) rfl rfl (by kernel_rfl) (by kernel_rfl) (by kernel_rfl) (fun _ _ _ h => h) rfl (fun w' hw => run_ld8 78 7 _ m hw rfl rfl (by decide)) hS ?_
      simp only [List.setIfInBounds_toArray, List.set_cons_zero, List.set_cons_succ]
      refine take_at 17 80 (.agg (ws (m / MM))) rfl rfl (by kernel_rfl) (by kernel_rfl) (by kernel_rfl) (fun _ _ _ h => h) rfl (fun w' _ => run_b4 m (m / MM) 4 (fun j => wd_div m j) rfl rfl rfl rfl rfl) hS ?_
      simp only [List.setIfInBounds_toArray, List.set_cons_zero, List.set_cons_succ]
      refine wpAnyH_ready (rs := [18]) (by kernel_rfl) (by simp) ?_
      refine AllReadyH.cons rfl (fun K hK => ?_) AllReadyH.nil
      rw [if_pos (by rfl)]
      refine wp_store_row 52 _ _ rfl (w.heap.size + 2) (ws m) rfl rfl 52 _ (H0.out.drew.at' 2 _ _ rfl) (by rw [ws_sz]; exact info_w) (by rw [ws_sz, ws_sz]) (ws_one _) ?_
      have H1 := H0.out.drew.set 2 rfl (ws m)
      refine hK.out _ _ (H1.at' 4 _ _ rfl) (fun hS2 => ?_)
      clear hK K
      refine wpAnyH_ready (rs := [19]) (by kernel_rfl) (by simp) ?_
      refine AllReadyH.cons rfl (fun K hK => ?_) AllReadyH.nil
      rw [if_pos (by rfl)]
      refine wp_store_row 52 _ _ rfl (w.heap.size + 3) (ws (m / MM)) rfl rfl 52 _ (H1.at' 3 _ _ rfl) (by rw [ws_sz]; exact info_w) (by rw [ws_sz, ws_sz]) (ws_one _) ?_
      have H2 := H1.set 3 rfl (ws (m / MM))
      refine hK.out _ _ (H2.at' 4 _ _ rfl) (fun hS3 => ?_)
      clear hK K
      refine wpAnyH_done (by kernel_rfl) ?_ _
      go_wp2
      refine bodyPost_ret (results_cell_cell rfl _ _ (w.heap.size + 2) (w.heap.size + 3) 52 52 (ws m) (ws (m / MM)) (0, 0) (0, 0) _ rfl rfl (H2.at' 2 _ _ rfl) (H2.at' 3 _ _ rfl) Tryd.underlying52 rfl (by rw [ws_sz]; exact info_w) (by rw [ws_sz]; exact info_w)) rfl ⟨by rw [HM.out], H2.below⟩
end Go.Proofs.YtfpphinnngblgaaDoor.Fld
