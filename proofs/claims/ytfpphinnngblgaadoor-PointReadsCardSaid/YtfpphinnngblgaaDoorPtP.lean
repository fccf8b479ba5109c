/- Layer 5: a point's bytes. -/
import Derived.Test.YtfpphinnngblgaaDoorPtB
import Derived.Test.YtfpphinnngblgaaDoorPtM
import Derived.Test.YtfpphinnngblgaaDoorSz
namespace Go.Proofs.YtfpphinnngblgaaDoor.Fld
open Go.RowKit Go.Lib
open Go.Proofs.YtfpphinnngblgaaDoor.Num (val up val_congr val_add val_lt val_up val_digits val_word)
open Go.Proofs.YtfpphinnngblgaaDoor.Arr Go.Proofs.YtfpphinnngblgaaDoor.Sym Go.Proofs.YtfpphinnngblgaaDoor.Sx

theorem r_one1 {o : Oper} {a : Act} {w : World} {x : Operand} (z : Nat) (ho : o.op = .buildSlice 42 1 #[(0, x)]) (hx : a.eval x = .int .u8 (z : Int)) :
    (execOp a.eval o).run Tryd.prog w = .ok (.value (.slice (some ⟨w.heap.size, 0, none⟩) 1 1)) (w.alloc (.cells (rowOf .u8 (fun _ => z) 1) 5)) := by
  unfold execOp
  simp only [ho]
  generalize a.eval = f at *
  go_simp
  rfl
theorem r_shlw8 {P : Program} {o : Oper} {a : Act} {w : World} {x y : Operand} {T T' : TypeId} {yk : IntKind} (n s : Nat) (hs : s ≤ 8) (ho : o.op = .binOp .shl T x y T') (hx : a.eval x = .int .u8 (n : Int)) (hy : a.eval y = .int yk (s : Int)) : (execOp a.eval o).run P w = .ok (.value (.int .u8 ((n * 2 ^ s % 256 : Nat) : Int))) w := by
  have e := wrap_u8n (n * 2 ^ s)
  have e2 := shl_run (k := .u8) (yk := yk) n s (by simpa [IntKind.bits] using hs)
  rw [e] at e2
  unfold execOp
  simp only [ho, hx, hy]
  generalize a.eval = f at *
  simp only [eqGuard_shl, binOp_shl, e2]
  rfl
/-- A point's number: y's, and x's lowest bit on top. -/
def pkN (x y : Nat) : Nat := y + HH * (x % 2)
theorem pk_low (x : Nat) : bt x 0 * 2 ^ 7 % 256 = 128 * (x % 2) := by
  unfold bt; rw [Nat.pow_zero, Nat.div_one]; omega
theorem pk_top (y : Nat) (hy : y < PP) : bt y 31 < 128 := by
  have h := top_bit y (f_lt hy)
  have : ¬ HH ≤ y := by unfold HH; unfold PP at hy; omega
  have h2 : ¬ 127 < bt y 31 := fun h3 => this (h.1 h3)
  omega
theorem pk_or (x y : Nat) (hy : y < PP) : bt y 31 ||| (bt x 0 * 2 ^ 7 % 256) = bt y 31 + 128 * (x % 2) := by
  rw [pk_low]
  exact or_low _ _ 7 (pk_top y hy) (by omega)
theorem pk_row (x y : Nat) (hy : y < PP) : rowOf .u8 (bt (pkN x y)) 32 = rowOf .u8 (up (bt y) 31 (bt y 31 + 128 * (x % 2))) 32 := rowOf_congr fun j hj => by
  have e : HH = 256 ^ j * (256 ^ (31 - j) * 128) := by
    rw [HH_eq, ← Nat.mul_assoc, ← Nat.pow_add, Nat.add_sub_cancel' (by omega)]
  have ht := pk_top y hy
  unfold up pkN
  by_cases h : j = 31
  · subst h
    rw [if_pos rfl]
    have hy2 : y < 256 ^ 31 * 128 := by rw [← HH_eq]; unfold HH; unfold PP at hy; omega
    unfold bt at ht ⊢
    rw [HH_eq, Nat.mul_assoc, Nat.add_mul_div_left _ _ (Nat.pow_pos (by decide))]
    have h3 : y / 256 ^ 31 < 128 := Nat.div_lt_of_lt_mul hy2
    omega
  · rw [if_neg h]
    obtain ⟨m, hm⟩ : ∃ m, 31 - j = m + 1 := ⟨30 - j, by omega⟩
    unfold bt
    rw [e, Nat.mul_assoc, Nat.add_mul_div_left _ _ (Nat.pow_pos (by decide)), hm, Nat.pow_succ]
    rw [show 256 ^ m * 256 * 128 * (x % 2) = 256 * (256 ^ m * 128 * (x % 2)) by simp only [Nat.mul_left_comm, Nat.mul_comm], Nat.add_mul_mod_self_left]
theorem pb_allb (y : Nat) : bs y = rowOf .u8 (pb (bt y) 32) 32 := rowOf_congr fun j hj => by unfold pb; rw [if_pos hj]
theorem pb_no (f : Nat → Nat) : rowOf .u8 (pb f 0) 32 = rowOf .u8 (fun _ => 0) 32 := rowOf_congr fun j hj => by unfold pb; rw [if_neg (by omega)]
theorem inv_g (a i : Nat) (ha : a < MM) (h : fI a = i) (w : World) : Calls Tryd.prog 33 #[.agg (bs a)] w (fun e w' => e = .returned (.agg (bs i)) ∧ Below w.heap.size w w') := by
  rw [← h]; exact inv_f a ha w
theorem mul_g (a b c : Nat) (ha : a < MM) (hb : b < MM) (h : fM a b = c) (w : World) : Calls Tryd.prog 28 #[.agg (bs a), .agg (bs b)] w (fun e w' => e = .returned (.agg (bs c)) ∧ Below w.heap.size w w') := by
  rw [← h]; exact mul_f a b ha hb w
set_option maxHeartbeats 4000000 in
set_option maxRecDepth 100000 in
theorem packG (p : Pn) (iz X Y : Nat) (hp : p.ok) (hI : fI p.z = iz) (hiz : iz < MM) (hX : fM p.x iz = X) (hY : fM p.y iz = Y) (hYl : Y < PP) (w : World) : Calls Tryd.prog 14 #[.agg (pq p)] w (fun e w' => e = .returned (.string (txt (bt (pkN (X) (Y))) 32)) ∧ Below w.heap.size w w') := by
  go_enter Tryd.func14, Tryd.ntmps14
  have hm0 := Mm.nil w
  refine wp_seq_k (fun K1 hK1 => ?_)
  refine wp_region_lit ?_
  refine lst (wanted_none rfl) (m_alloc (c := pq p) (T := 25) hm0 1 rfl (run_box rfl rfl) (fun g2 w3 (hm4 : Mm w w3 [(g2, pq p, 25)]) => ?_))
  simp only [nz1, nz2, nz3]
  refine lv 2 (.string (⟨#[]⟩ : ByteArray)) rfl rfl (run_as rfl rfl) ?_
  simp only [nz1, nz2, nz3]
  refine wpList_nil ?_
  refine then_n (hK1 _ _ ?_)
  refine wp_seq_k (fun K5 hK5 => ?_)
  refine wp_region_lit ?_
  refine lv 8 (.pointer (some ⟨g2, 64, none⟩)) rfl rfl (r_f2 g2 rfl rfl) ?_
  simp only [nz1, nz2, nz3]
  refine lv 9 (.agg (bs p.z)) rfl rfl (r_c2 (x := p.x) (y := p.y) (z := p.z) (t := p.t) g2 (hm4.at 0 rfl) rfl rfl) ?_
  simp only [nz1, nz2, nz3]
  refine lst (wanted_none rfl) (m_call hm4 10 (.agg (bs iz)) rfl (run_fInv rfl rfl) (inv_g p.z iz hp.z hI _) (fun w6 hm7 => ?_))
  simp only [nz1, nz2, nz3]
  refine lst (wanted_none rfl) (m_alloc (c := bs 0) (T := 23) hm7 3 rfl (run_alN rfl) (fun g8 w9 (hm10 : Mm w w9 [(g2, pq p, 25), (g8, bs 0, 23)]) => ?_))
  simp only [nz1, nz2, nz3]
  refine lst (wanted_none rfl) (m_store 1 23 _ _ (bs iz) (old := bs 0) hm10 rfl rfl rfl rfl rfl (by rw [bs_sz]; exact info_b) ((bs_sz _).trans (bs_sz _).symm) (bs_one _) (fun w11 (hm12 : Mm w w11 [(g2, pq p, 25), (g8, bs iz, 23)]) => ?_))
  refine wpList_nil ?_
  refine then_n (hK5 _ _ ?_)
  refine wp_seq_k (fun K13 hK13 => ?_)
  refine wp_region_lit ?_
  refine lv 11 (.pointer (some ⟨g2, 0, none⟩)) rfl rfl (r_f0 g2 rfl rfl) ?_
  simp only [nz1, nz2, nz3]
  refine lv 12 (.agg (bs p.x)) rfl rfl (r_c0 (x := p.x) (y := p.y) (z := p.z) (t := p.t) g2 (hm12.at 0 rfl) rfl rfl) ?_
  simp only [nz1, nz2, nz3]
  refine lv 13 (.agg (bs iz)) rfl rfl (run_row rfl rfl (hm12.at 1 rfl) Tryd.underlying23 rfl (by rw [bs_sz]; exact info_b)) ?_
  simp only [nz1, nz2, nz3]
  refine lst (wanted_none rfl) (m_call hm12 14 (.agg (bs X)) rfl (run_fMul rfl rfl rfl) (mul_g p.x iz X hp.x hiz hX _) (fun w14 hm15 => ?_))
  simp only [nz1, nz2, nz3]
  refine lst (wanted_none rfl) (m_alloc (c := bs 0) (T := 23) hm15 4 rfl (run_alN rfl) (fun g16 w17 (hm18 : Mm w w17 [(g2, pq p, 25), (g8, bs iz, 23), (g16, bs 0, 23)]) => ?_))
  simp only [nz1, nz2, nz3]
  refine lst (wanted_none rfl) (m_store 2 23 _ _ (bs X) (old := bs 0) hm18 rfl rfl rfl rfl rfl (by rw [bs_sz]; exact info_b) ((bs_sz _).trans (bs_sz _).symm) (bs_one _) (fun w19 (hm20 : Mm w w19 [(g2, pq p, 25), (g8, bs iz, 23), (g16, bs X, 23)]) => ?_))
  refine wpList_nil ?_
  refine then_n (hK13 _ _ ?_)
  refine wp_seq_k (fun K21 hK21 => ?_)
  refine wp_region_lit ?_
  refine lv 15 (.pointer (some ⟨g2, 32, none⟩)) rfl rfl (r_f1 g2 rfl rfl) ?_
  simp only [nz1, nz2, nz3]
  refine lv 16 (.agg (bs p.y)) rfl rfl (r_c1 (x := p.x) (y := p.y) (z := p.z) (t := p.t) g2 (hm20.at 0 rfl) rfl rfl) ?_
  simp only [nz1, nz2, nz3]
  refine lv 17 (.agg (bs iz)) rfl rfl (run_row rfl rfl (hm20.at 1 rfl) Tryd.underlying23 rfl (by rw [bs_sz]; exact info_b)) ?_
  simp only [nz1, nz2, nz3]
  refine lst (wanted_none rfl) (m_call hm20 18 (.agg (bs Y)) rfl (run_fMul rfl rfl rfl) (mul_g p.y iz Y hp.y hiz hY _) (fun w22 hm23 => ?_))
  simp only [nz1, nz2, nz3]
  refine lst (wanted_none rfl) (m_alloc (c := bs 0) (T := 23) hm23 5 rfl (run_alN rfl) (fun g24 w25 (hm26 : Mm w w25 [(g2, pq p, 25), (g8, bs iz, 23), (g16, bs X, 23), (g24, bs 0, 23)]) => ?_))
  simp only [nz1, nz2, nz3]
  refine lst (wanted_none rfl) (m_store 3 23 _ _ (bs Y) (old := bs 0) hm26 rfl rfl rfl rfl rfl (by rw [bs_sz]; exact info_b) ((bs_sz _).trans (bs_sz _).symm) (bs_one _) (fun w27 (hm28 : Mm w w27 [(g2, pq p, 25), (g8, bs iz, 23), (g16, bs X, 23), (g24, bs Y, 23)]) => ?_))
  refine wpList_nil ?_
  refine then_n (hK21 _ _ ?_)
  refine wp_seq_k (fun K29 hK29 => ?_)
  refine wp_region_lit ?_
  obtain ⟨iq, hiq, hz1, hz2, hz3⟩ : ∃ i, Tryd.prog.info? 5 = some i ∧ i.zero = some (.int .u8 0) ∧ i.size = 1 ∧ i.bytes = 1 := ⟨_, rfl, rfl, rfl, rfl⟩
  refine lst (wanted_none rfl) (m_make (c := rowOf .u8 (fun _ => 0) 32) (T := 5) (fun g => .slice (some ⟨g, 0, none⟩) 0 32) hm28 19 rfl (r_makeC 0 32 iq (by decide) (by decide) Tryd.underlying42 hiq hz1 hz2 hz3 rfl rfl rfl) (fun g30 w31 (hm32 : Mm w w31 [(g2, pq p, 25), (g8, bs iz, 23), (g16, bs X, 23), (g24, bs Y, 23), (g30, rowOf .u8 (fun _ => 0) 32, 5)]) => ?_))
  simp only [nz1, nz2, nz3]
  refine lv 6 (.slice (some ⟨g30, 0, none⟩) 0 32) rfl rfl (run_as rfl rfl) ?_
  simp only [nz1, nz2, nz3]
  refine wpList_nil ?_
  refine then_n (hK29 _ _ ?_)
  refine wp_seq_k (fun K33 hK33 => ?_)
  refine wp_seq_k (fun K34 hK34 => ?_)
  refine wp_region_lit ?_
  refine lv 20 (.int .i64 0) rfl rfl (run_mv rfl rfl) ?_
  simp only [nz1, nz2, nz3]
  refine wpList_nil ?_
  have hm35 : Mm w w31 [(g2, pq p, 25), (g8, bs iz, 23), (g16, bs X, 23), (g24, bs Y, 23), (g30, rowOf .u8 (pb (bt (Y)) 0) 32, 5)] := by rw [show (rowOf .u8 (pb (bt (Y)) 0) 32 : Array Value) = rowOf .u8 (fun _ => 0) 32 from pb_no _]; exact hm32
  refine then_n (hK34 _ _ ?_)
  refine wp_block ?_
  refine wp_loop_n (fun n' a' w' => ∃ (k : Nat) (u0 : Nat → Value), n' = 32 - k ∧ (k ≤ 32) ∧ a' = ⟨#[.agg (pq p), .pointer (some ⟨g2, 0, none⟩), .string (⟨#[]⟩ : ByteArray), .pointer (some ⟨g8, 0, none⟩), .pointer (some ⟨g16, 0, none⟩), .pointer (some ⟨g24, 0, none⟩), .slice (some ⟨g30, 0, none⟩) k 32, u0 0, .pointer (some ⟨g2, 64, none⟩), .agg (bs p.z), .agg (bs iz), .pointer (some ⟨g2, 0, none⟩), .agg (bs p.x), .agg (bs iz), .agg (bs X), .pointer (some ⟨g2, 32, none⟩), .agg (bs p.y), .agg (bs iz), .agg (bs Y), .slice (some ⟨g30, 0, none⟩) 0 32, .int .i64 ((k : Nat) : Int), u0 1, u0 2, u0 3, u0 4, u0 5, u0 6, u0 7, u0 8, u0 9, undef, undef, undef, undef, undef, undef, undef, undef, undef, undef, undef, undef, undef], []⟩ ∧ Mm w w' [(g2, pq p, 25), (g8, bs iz, 23), (g16, bs X, 23), (g24, bs Y, 23), (g30, rowOf .u8 (pb (bt (Y)) k) 32, 5)]) ⟨0, (fun qq => List.getD [undef, undef, undef, undef, undef, undef, undef, undef, undef, undef] qq undef), rfl, (by omega), rfl, hm35⟩ ?_
  clear hm35
  rintro _ _ w36 ⟨k, u0, hn0, hk, rfl, hm37⟩ R38 hR38
  refine wp_seq_k (fun K39 hK39 => ?_)
  refine wp_region_lit ?_
  refine lv 21 (.bool (decide (k < 32))) rfl rfl (r_lss k 32 rfl rfl rfl) ?_
  simp only [nz1, nz2, nz3]
  refine wpList_nil ?_
  refine then_n (hK39 _ _ ?_)
  refine wp_seq_k (fun K40 hK40 => ?_)
  refine cond_d (k < 32) rfl (fun hc41 => ?_) (fun hc41 => ?_)
  · refine wp_skip ?_
    refine then_n (hK40 _ _ ?_)
    refine wp_seq_k (fun K42 hK42 => ?_)
    refine wp_block ?_
    refine wp_seq_k (fun K43 hK43 => ?_)
    refine wp_region_lit ?_
    refine lv 22 (.int .i64 ((k : Nat) : Int)) rfl rfl (run_mv rfl rfl) ?_
    simp only [nz1, nz2, nz3]
    refine lv 7 (.int .i64 ((k : Nat) : Int)) rfl rfl (run_as rfl rfl) ?_
    simp only [nz1, nz2, nz3]
    refine wpList_nil ?_
    refine then_n (hK43 _ _ ?_)
    refine wp_region_lit ?_
    refine lv 23 (.slice (some ⟨g30, 0, none⟩) k 32) rfl rfl (run_mv rfl rfl) ?_
    simp only [nz1, nz2, nz3]
    refine lv 24 (.int .i64 ((k : Nat) : Int)) rfl rfl (run_mv rfl rfl) ?_
    simp only [nz1, nz2, nz3]
    refine lv 25 (.pointer (some ⟨g24, k, none⟩)) rfl rfl (r_ix g24 k (by omega) Tryd.underlying23 one_u8 rfl rfl rfl) ?_
    simp only [nz1, nz2, nz3]
    refine lv 26 (.int .u8 (((bt Y) k : Nat) : Int)) rfl rfl (r_cell (f := (bt Y)) (n := 32) g24 k (by omega) (hm37.at 3 rfl) Tryd.underlying5 rfl rfl) ?_
    simp only [nz1, nz2, nz3]
    refine lst (wanted_none rfl) (m_make (c := rowOf .u8 (fun _ => (bt Y) k) 1) (T := 5) (fun g => .slice (some ⟨g, 0, none⟩) 1 1) hm37 27 rfl (r_one1 ((bt Y) k) rfl rfl) (fun g44 w45 (hm46 : Mm w w45 [(g2, pq p, 25), (g8, bs iz, 23), (g16, bs X, 23), (g24, bs Y, 23), (g30, rowOf .u8 (pb (bt (Y)) k) 32, 5), (g44, rowOf .u8 (fun _ => (bt Y) k) 1, 5)]) => ?_))
    simp only [nz1, nz2, nz3]
    obtain ⟨iq, hiq, hz1, hz2, hz3⟩ : ∃ i, Tryd.prog.info? 5 = some i ∧ i.zero = some (.int .u8 0) ∧ i.size = 1 ∧ i.bytes = 1 := ⟨_, rfl, rfl, rfl, rfl⟩
    refine lst (wanted_none rfl) (m_append 4 5 (g := g30) (g2 := g44) (n := k) (c := 32) (f := (pb (bt (Y)) k)) (f2 := (fun _ => (bt Y) k)) (z := (bt Y) k) iq hm46 rfl rfl rfl (by omega) Tryd.underlying42 hiq hz2 28 rfl rfl rfl rfl (fun w47 (hm48 : Mm w w47 [(g2, pq p, 25), (g8, bs iz, 23), (g16, bs X, 23), (g24, bs Y, 23), (g30, rowOf .u8 (up (pb (bt (Y)) k) k ((bt Y) k)) 32, 5), (g44, rowOf .u8 (fun _ => (bt Y) k) 1, 5)]) => ?_))
    simp only [nz1, nz2, nz3]
    refine lv 6 (.slice (some ⟨g30, 0, none⟩) (k + 1) 32) rfl rfl (run_as rfl rfl) ?_
    simp only [nz1, nz2, nz3]
    refine wpList_nil ?_
    have hm49 : Mm w w47 [(g2, pq p, 25), (g8, bs iz, 23), (g16, bs X, 23), (g24, bs Y, 23), (g30, rowOf .u8 (pb (bt (Y)) (k + 1)) 32, 5), (g44, rowOf .u8 (fun _ => (bt Y) k) 1, 5)] := by rw [show (rowOf .u8 (pb (bt (Y)) (k + 1)) 32 : Array Value) = rowOf .u8 (up (pb (bt (Y)) k) k ((bt Y) k)) 32 from by rw [pb_up]]; exact hm48
    refine blk_n ?_
    refine then_n (hK42 _ _ ?_)
    refine wp_region_lit ?_
    refine lv 29 (.int .i64 (((k + 1) : Nat) : Int)) rfl rfl (r_add k 1 (show (k + 1) < 9223372036854775808 from by omega) rfl rfl rfl) ?_
    simp only [nz1, nz2, nz3]
    refine lv 20 (.int .i64 (((k + 1) : Nat) : Int)) rfl rfl (run_mv rfl rfl) ?_
    simp only [nz1, nz2, nz3]
    refine wpList_nil ?_
    have hm50 : Mm w w47 [(g2, pq p, 25), (g8, bs iz, 23), (g16, bs X, 23), (g24, bs Y, 23), (g30, rowOf .u8 (pb (bt (Y)) (k + 1)) 32, 5)] := Mm.pre (m := [(g44, rowOf .u8 (fun _ => (bt Y) k) 1, 5)]) hm49
    refine then_n (hR38 _ _ _ ⟨(k + 1), (fun qq => List.getD [.int .i64 ((k : Nat) : Int), .bool (decide (k < 32)), .int .i64 ((k : Nat) : Int), .slice (some ⟨g30, 0, none⟩) k 32, .int .i64 ((k : Nat) : Int), .pointer (some ⟨g24, k, none⟩), .int .u8 (((bt Y) k : Nat) : Int), .slice (some ⟨g44, 0, none⟩) 1 1, .slice (some ⟨g30, 0, none⟩) (k + 1) 32, .int .i64 (((k + 1) : Nat) : Int)] qq undef), rfl, (by omega), rfl, hm50⟩ ?_)
    omega
  · obtain rfl : k = 32 := by omega
    have hm51 : Mm w w36 [(g2, pq p, 25), (g8, bs iz, 23), (g16, bs X, 23), (g24, bs Y, 23), (g30, bs (Y), 5)] := by rw [show (bs (Y) : Array Value) = rowOf .u8 (pb (bt (Y)) 32) 32 from pb_allb _]; exact hm37
    refine wp_exit ?_
    refine then_x ?_
    refine then_x ?_
    refine blk_x ?_
    refine then_n (hK33 _ _ ?_)
    refine wp_seq_k (fun K52 hK52 => ?_)
    have hm53 := hm51.drew
    refine wp_region_held_drew (S := fun w' => Sym.Blk w' g16 (bs X) 23) (by kernel_rfl) (hm53.at 2 rfl) (fun _ => ?_)
    generalize w36.drew = w54 at *
    refine tk 0 30 (.slice (some ⟨g30, 0, none⟩) 32 32) rfl rfl (fun _ hw => run_mv rfl rfl) (hm53.at 2 rfl) ?_
    simp only [nz1, nz2, nz3]
    refine tk 1 31 (.slice (some ⟨g30, 0, none⟩) 32 32) rfl rfl (fun _ hw => run_mv rfl rfl) (hm53.at 2 rfl) ?_
    simp only [nz1, nz2, nz3]
    refine tk 6 36 (.pointer (some ⟨g16, 0, none⟩)) rfl rfl (fun _ hw => r_ix g16 0 (by decide) Tryd.underlying23 one_u8 rfl rfl rfl) (hm53.at 2 rfl) ?_
    simp only [nz1, nz2, nz3]
    refine tk 7 37 (.int .u8 (((bt X) 0 : Nat) : Int)) rfl rfl (fun _ hw => r_cell (f := (bt X)) (n := 32) g16 0 (by decide) hw Tryd.underlying5 rfl rfl) (hm53.at 2 rfl) ?_
    simp only [nz1, nz2, nz3]
    refine tk 8 38 (.int .u8 (((((bt X) 0) * 2 ^ 7 % 256) : Nat) : Int)) rfl rfl (fun _ hw => r_shlw8 ((bt X) 0) 7 (by decide) rfl rfl rfl) (hm53.at 2 rfl) ?_
    simp only [nz1, nz2, nz3]
    refine one_ready 2 (by kernel_rfl) ?_
    refine opd rfl (wanted_none rfl) (w_value 32 (.int .i64 32) rfl (r_lenS rfl Tryd.underlying42 rfl) ⟨hm53.at 2 rfl, ?_⟩)
    simp only [nz1, nz2, nz3]
    refine tk 3 33 (.int .i64 (((32 - 1) : Nat) : Int)) rfl rfl (fun _ hw => r_sub 32 1 (by decide) (by omega) rfl rfl rfl) (hm53.at 2 rfl) ?_
    simp only [nz1, nz2, nz3]
    refine tk 4 34 (.pointer (some ⟨g30, (32 - 1), none⟩)) rfl rfl (fun _ hw => r_ixS g30 (32 - 1) 32 32 (by omega) Tryd.underlying42 one_u8 rfl rfl rfl) (hm53.at 2 rfl) ?_
    simp only [nz1, nz2, nz3]
    refine one_ready 5 (by kernel_rfl) ?_
    refine opd rfl (wanted_none rfl) (w_value 35 (.int .u8 (((bt (Y)) (32 - 1) : Nat) : Int)) rfl (r_cell (f := (bt (Y))) (n := 32) g30 (32 - 1) (by omega) (hm53.at 4 rfl) Tryd.underlying5 rfl rfl) ⟨hm53.at 2 rfl, ?_⟩)
    simp only [nz1, nz2, nz3]
    refine tk 9 39 (.int .u8 (((bt (Y) 31 + 128 * ((X) % 2)) : Nat) : Int)) rfl rfl (fun _ hw => r_orx ((bt (Y)) (32 - 1)) (((bt X) 0) * 2 ^ 7 % 256) 8 (bt (Y) 31 + 128 * ((X) % 2)) (by decide) (bt_lt _ _) (Nat.mod_lt _ (by decide)) (pk_or _ _ hYl) rfl rfl rfl) (hm53.at 2 rfl) ?_
    simp only [nz1, nz2, nz3]
    refine tk 10 40 (.pointer (some ⟨g30, (32 - 1), none⟩)) rfl rfl (fun _ hw => r_ixS g30 (32 - 1) 32 32 (by omega) Tryd.underlying42 one_u8 rfl rfl rfl) (hm53.at 2 rfl) ?_
    simp only [nz1, nz2, nz3]
    refine one_ready 11 (by kernel_rfl) ?_
    refine opd rfl (wanted_none rfl) (m_put 4 (new := rowOf .u8 (up (bt (Y)) (32 - 1) (bt (Y) 31 + 128 * ((X) % 2))) 32) (32 - 1) (.int .u8 (((bt (Y) 31 + 128 * ((X) % 2)) : Nat) : Int)) (old := bs (Y)) hm53 rfl rfl (p_cell (n := 32) (f := (bt (Y))) g30 (32 - 1) (bt (Y) 31 + 128 * ((X) % 2)) (by omega) (hm53.at 4 rfl) rfl one_u8 rfl rfl) (rowOf_set _ _ _ _ _) (fun w55 (hm56 : Mm w w55 [(g2, pq p, 25), (g8, bs iz, 23), (g16, bs X, 23), (g24, bs Y, 23), (g30, rowOf .u8 (up (bt (Y)) (32 - 1) (bt (Y) 31 + 128 * ((X) % 2))) 32, 5)]) => ?_))
    refine ⟨hm56.at 2 rfl, ?_⟩
    refine wpAnyH_done (by kernel_rfl) ?_ _
    have hm57 : Mm w w55 [(g2, pq p, 25), (g8, bs iz, 23), (g16, bs X, 23), (g24, bs Y, 23), (g30, rowOf .u8 (bt (pkN (X) (Y))) 32, 5)] := by rw [show (rowOf .u8 (bt (pkN (X) (Y))) 32 : Array Value) = rowOf .u8 (up (bt (Y)) (32 - 1) (bt (Y) 31 + 128 * ((X) % 2))) 32 from pk_row _ _ hYl]; exact hm56
    refine then_n (hK52 _ _ ?_)
    refine wp_seq_k (fun K58 hK58 => ?_)
    refine wp_region_lit ?_
    refine lv 41 (.slice (some ⟨g30, 0, none⟩) 32 32) rfl rfl (run_mv rfl rfl) ?_
    simp only [nz1, nz2, nz3]
    refine lv 42 (.string (txt (bt (pkN (X) (Y))) 32)) rfl rfl (r_string g30 32 32 (bt (pkN (X) (Y))) 5 (fun _ _ => bt_lt _ _) (hm57.at 4 rfl) Tryd.underlying42 Tryd.underlying5 Tryd.underlying9 rfl rfl) ?_
    simp only [nz1, nz2, nz3]
    refine lv 2 (.string (txt (bt (pkN (X) (Y))) 32)) rfl rfl (run_as rfl rfl) ?_
    simp only [nz1, nz2, nz3]
    refine wpList_nil ?_
    refine then_n (hK58 _ _ ?_)
    refine wp_ret ?_
    exact ⟨rfl, .string (txt (bt (pkN (X) (Y))) 32), res_t rfl rfl, ⟨rfl, hm57.below⟩⟩
/-- A point's bytes. -/
def packS (p : Pn) : ByteArray := txt (bt (pkN (fM p.x (fI p.z)) (fM p.y (fI p.z)))) 32
theorem pack_p (p : Pn) (hp : p.ok) (w : World) : Calls Tryd.prog 14 #[.agg (pq p)] w (fun e w' => e = .returned (.string (packS p)) ∧ Below w.heap.size w w') :=
  packG p _ _ _ hp rfl (f_lt (fI_lt _)) rfl rfl (fM_lt _ _) w
end Go.Proofs.YtfpphinnngblgaaDoor.Fld
