/- Layer 3: what a number leaves; folding; products. -/
import Derived.Test.YtfpphinnngblgaaDoorFldA
import Derived.Deep.DeepCutAuto
import Derived.Shelf.Bits.Mul64
namespace Go.Proofs.YtfpphinnngblgaaDoor.Fld
open Go.RowKit
open Go.Proofs.YtfpphinnngblgaaDoor.Num (val up val_congr val_add val_lt val_up val_digits val_word)
open Go.Proofs.YtfpphinnngblgaaDoor.Arr

/-- 2 to the power of 255, less 19. -/
def PP : Nat := 57896044618658097711785492504343953926634992332820282019728792003956564819949
theorem order_pp (w : World) : Calls Tryd.prog 48 #[] w fun e w' => e = .returned (.agg (ws PP)) ∧ Below w.heap.size w w' := order_any w
theorem ws_sz (n : Nat) : (ws n).size = 4 := rowOf_size _ _ _
/-- A block that holds a number's words. -/
def At (w : World) (g n : Nat) : Prop := w.heap[g]? = some (.cells (ws n) 52 (0, 0))
theorem At.heap {w : World} {g n : Nat} (h : At w g n) : w.heap[g]? = some (.cells (ws n) 52 (0, 0)) := h
/-- The words, written out. -/
abbrev w4 (n : Nat) : Array Value := #[.int .u64 (wd n 0 : Int), .int .u64 (wd n 1 : Int), .int .u64 (wd n 2 : Int), .int .u64 (wd n 3 : Int)]
theorem w4_size (n : Nat) : (w4 n).size = 4 := rfl
theorem w4_one (n : Nat) : (w4 n).all (·.oneCell') = true := ws_one n
theorem w4_info {n : Nat} : (Tryd.prog.info? 52).map (·.size) = some (w4 n).size := info_w
theorem ws_w4 (n : Nat) : ws n = w4 n := rfl
theorem order_x (w : World) : Calls Tryd.prog 48 #[] w fun e w' => e = .returned (.agg (w4 PP)) ∧ Below w.heap.size w w' := order_any w
theorem minus_x (a b : Nat) (w : World) (hbm : b ≤ MM) : Calls Tryd.prog 46 #[.agg (w4 a), .agg (w4 b)] w fun e w' => e = .returned (.tuple #[.agg (w4 (a + MM - b)), .int .u64 (bo a b 4 : Int)]) ∧ Below w.heap.size w w' := minus_any a b w hbm
theorem plus_x (a b : Nat) (w : World) : Calls Tryd.prog 51 #[.agg (w4 a), .agg (w4 b)] w fun e w' => e = .returned (.tuple #[.agg (w4 (a + b)), .int .u64 (car a b 4 : Int)]) ∧ Below w.heap.size w w' := plus_any a b w
theorem bcell {w w' : World} (hb : Below w.heap.size w w') : (∀ b o, b < w.heap.size → w'.cell? ⟨b, o, none⟩ = w.cell? ⟨b, o, none⟩) ∧ (∀ b o, b < w.heap.size → w'.frozen? ⟨b, o, none⟩ = w.frozen? ⟨b, o, none⟩) :=
  ⟨fun b o h => hb.cell (p := ⟨b, o, none⟩) h, fun b o h => hb.frozen (p := ⟨b, o, none⟩) h⟩

/-- The cells of block g hold a number's words. -/
structure C4 (w : World) (g n : Nat) : Prop where
  c0 : w.cell? ⟨g, 0, none⟩ = some (.int .u64 (wd n 0 : Int))
  c1 : w.cell? ⟨g, 1, none⟩ = some (.int .u64 (wd n 1 : Int))
  c2 : w.cell? ⟨g, 2, none⟩ = some (.int .u64 (wd n 2 : Int))
  c3 : w.cell? ⟨g, 3, none⟩ = some (.int .u64 (wd n 3 : Int))
theorem c4_new (w : World) (n T : Nat) : C4 (w.alloc (.cells (w4 n) T)) w.heap.size n := by
  have h := Row.lit w T 4 (w4 n) .u64 (wd n) rfl
  exact ⟨(h.at 0 (by omega)).1, (h.at 1 (by omega)).1, (h.at 2 (by omega)).1, (h.at 3 (by omega)).1⟩
theorem c4_set {w : World} {g n : Nat} {u0 u1 u2 u3 : Value} (h0 : w.cell? ⟨g, 0, none⟩ = some u0) (h1 : w.cell? ⟨g, 1, none⟩ = some u1) (h2 : w.cell? ⟨g, 2, none⟩ = some u2) (h3 : w.cell? ⟨g, 3, none⟩ = some u3) :
    C4 ((((w.setCell ⟨g, 0, none⟩ (.int .u64 (wd n 0 : Int))).setCell ⟨g, 1, none⟩ (.int .u64 (wd n 1 : Int))).setCell ⟨g, 2, none⟩ (.int .u64 (wd n 2 : Int))).setCell ⟨g, 3, none⟩ (.int .u64 (wd n 3 : Int))) g n := by
  have far : ∀ (w : World) (i j : Nat) (v : Value), i ≠ j → (w.setCell ⟨g, i, none⟩ v).cell? ⟨g, j, none⟩ = w.cell? ⟨g, j, none⟩ := fun w i j v h => World.cell?_setCell_other _ _ _ _ (fun e => h (by injection e))
  refine ⟨?_, ?_, ?_, ?_⟩
  · rw [far _ _ _ _ (by decide), far _ _ _ _ (by decide), far _ _ _ _ (by decide)]
    exact World.cell?_setCell_same _ _ _ h0
  · rw [far _ _ _ _ (by decide), far _ _ _ _ (by decide)]
    exact World.cell?_setCell_same _ _ _ (by rw [far _ _ _ _ (by decide)]; exact h1)
  · rw [far _ _ _ _ (by decide)]
    exact World.cell?_setCell_same _ _ _ (by rw [far _ _ _ _ (by decide), far _ _ _ _ (by decide)]; exact h2)
  · exact World.cell?_setCell_same _ _ _ (by rw [far _ _ _ _ (by decide), far _ _ _ _ (by decide), far _ _ _ _ (by decide)]; exact h3)
theorem pp_lt : PP < MM := by decide
theorem rest_less (a k : Nat) (h : k * PP ≤ a) (hl : a - k * PP < PP) : a % PP = a - k * PP := by
  have e : a = (a - k * PP) + PP * k := by rw [Nat.mul_comm PP k]; omega
  rw [e, Nat.add_mul_mod_self_left, Nat.mod_eq_of_lt hl, Nat.mul_comm PP k]; omega
theorem ws_low (n m : Nat) (h : n = m + MM) : ws n = ws m := by
  subst h
  exact rowOf_congr fun j hj => by rw [← wd_mod (m + MM) j hj, ← wd_mod m j hj, Nat.add_mod_right]
theorem rest_more (a k : Nat) (h : k * PP ≤ a) (hl : ¬ a - k * PP < PP) : (k + 1) * PP ≤ a ∧ ws (a - k * PP + MM - PP) = ws (a - (k + 1) * PP) := by
  rw [Nat.add_mul, Nat.one_mul]
  have h2 : k * PP + PP ≤ a := by omega
  refine ⟨h2, ws_low _ _ ?_⟩
  have := pp_lt
  omega
theorem rest_end (a : Nat) (ha : a < MM) (h : 2 * PP ≤ a) : a % PP = a - 2 * PP := by
  unfold PP MM at *
  omega
set_option maxHeartbeats 1000000 in
theorem rest_any (a : Nat) (ha : a < MM) (w : World) : Calls Tryd.prog 53 #[.agg (ws a)] w fun e w' => e = .returned (.agg (ws (a % PP))) ∧ Below w.heap.size w w' := by
  go_enter Tryd.func53, Tryd.ntmps53
  go_wp2_with fail
  go_loopw [3] (fun iv wr => ∃ k : Nat, k ≤ 2 ∧ iv = .int .i64 (k : Int) ∧ k * PP ≤ a ∧ At wr w.heap.size (a - k * PP) ∧ At wr (w.heap.size + 1) 0 ∧ Below w.heap.size w wr) (fun iv _ => 2 - (intOf iv).toNat)
  case atStart =>
    have h1 := Row.lit w 52 4 (ws a) .u64 (wd a) rfl
    have h2 := Row.lit (w.alloc (.cells (ws a) 52)) 52 4 (w4 0) .u64 (wd 0) rfl
    have b1 := (Below.refl (w.alloc (.cells (ws a) 52)).heap.size (w.alloc (.cells (ws a) 52))).alloc (Nat.le_refl _) (.cells (w4 0) 52)
    have e1 : (w.alloc (.cells (ws a) 52)).heap.size = w.heap.size + 1 := by simp
    rw [e1] at h2 b1
    exact ⟨0, by omega, rfl, by omega, by rw [Nat.zero_mul]; exact h1.below b1 (by omega), h2, ((Below.refl _ _).alloc (Nat.le_refl _) _).alloc (by simp) _⟩
  case round =>
    obtain ⟨k, hk, rfl, hka, h1, h2, hb⟩ := hrel
    by_cases hlt : k < 2
    · have hk4 : (k : Int) < 2 := by omega
      obtain ⟨m, hm⟩ : ∃ m, m = a - k * PP := ⟨_, rfl⟩
      rw [← hm] at h1
      have HM := Lib.hid hm
      clear hm
      have c0 := fun w' (h : Below wr.heap.size wr w') => scell h _ _ (Row.at h1 0 (by omega)).1
      have c1 := fun w' (h : Below wr.heap.size wr w') => scell h _ _ (Row.at h1 1 (by omega)).1
      have c2 := fun w' (h : Below wr.heap.size wr w') => scell h _ _ (Row.at h1 2 (by omega)).1
      have c3 := fun w' (h : Below wr.heap.size wr w') => scell h _ _ (Row.at h1 3 (by omega)).1
      go_upto_region 4 with fail
      go_cut [4, 5] (fun s4 s5 wx => ∃ g : Nat, s4 = .pointer (some ⟨g, 0, none⟩) ∧ wr.heap.size ≤ g ∧ s5 = .int .u64 (bo m PP 4 : Int) ∧ C4 wx g (m + MM - PP) ∧ Below wr.heap.size wr wx)
      case first =>
        go_region_held3 (fun w' => Below wr.heap.size wr w') (first | exact sdrew _ | assumption | exact salloc (by assumption) _ | ((iterate 4 (refine sset ?_ _ _ (by dsimp only; omega))); first | assumption | exact salloc (by assumption) _))
          (first
            | (go_at_call 48; ((with_reducible refine (order_x _).mono ?_); rintro e w' ⟨rfl, hb'⟩; have hS := sstep (a := wr) hb' (by assumption); have hz := hS.size; have hz' := slt hb'; obtain ⟨hc', hf'⟩ := bcell hb'))
            | (go_at_call 46; ((with_reducible refine (minus_x _ _ _ (by decide)).mono ?_); rintro e w' ⟨rfl, hb'⟩; have hS := sstep (a := wr) hb' (by assumption); have hz := hS.size; have hz' := slt hb'; obtain ⟨hc', hf'⟩ := bcell hb')))
        all_goals (go_wp2_with fail; go_meet; (first
          | exact ⟨_, rfl, by assumption, rfl, c4_new _ _ _, salloc (by assumption) _⟩
          | exact ⟨_, rfl, by (first | exact Nat.le_refl _ | assumption), rfl, c4_set (by simp [*]; rfl) (by simp [*]; rfl) (by simp [*]; rfl) (by simp [*]; rfl), sset (sset (sset (sset (by assumption) _ _ (by dsimp only; omega)) _ _ (by dsimp only; omega)) _ _ (by dsimp only; omega)) _ _ (by dsimp only; omega)⟩))
      case rest =>
        obtain ⟨g, rfl, hg, rfl, hC, hS⟩ := hcut
        have hm := HM.out
        have h1' : At wc w.heap.size m := Row.below h1 hS (Row.lt h1)
        have h2' : At wc (w.heap.size + 1) 0 := Row.below h2 hS (Row.lt h2)
        have hb' : Below w.heap.size w wc := hb.trans (hS.mono hb.size)
        have hmm : m < MM := by omega
        by_cases hlp : m < PP
        · have hbo : ((bo m PP 4 : Int) == 1) = true := by rw [bo_top m PP hmm pp_lt, if_pos hlp]; decide
          have HL := Lib.hid (rest_less a k hka (by rw [← hm]; exact hlp))
          clear c0 c1 c2 c3 h1 h2 hC hm hS hb hlp hmm hka
          go_wp2_with (first
            | (with_reducible refine wpList_load_row rfl 52 _ rfl w.heap.size rfl 52 _ (0, 0) _ h1'.heap Tryd.underlying52 rfl (by rw [ws_sz]; exact info_w) ?_)
            | (with_reducible refine wpList_store_row rfl 52 _ _ rfl (w.heap.size + 1) (ws m) rfl rfl 52 _ h2'.heap (by rw [ws_sz]; exact info_w) (by rw [ws_sz, ws_sz]) (ws_one _) ?_))
          refine bodyPost_ret (v := .agg (ws m)) (results_cell_row rfl _ _ (w.heap.size + 1) 52 _ (0, 0) _ rfl (setRow_heap _ _ _ _ _ _ h2') Tryd.underlying52 rfl (by rw [ws_sz]; exact info_w)) rfl ⟨?_, below_setRow hb' (by omega)⟩
          rw [HL.out, HM.out]
        · have hbo : ((bo m PP 4 : Int) == 1) = false := by rw [bo_top m PP hmm pp_lt, if_neg hlp]; decide
          have HN := Lib.hid (rest_more a k hka (by rw [← hm]; exact hlp))
          have k0 := hC.c0
          have k1 := hC.c1
          have k2 := hC.c2
          have k3 := hC.c3
          clear c0 c1 c2 c3 h1 h2 hC hm hS hb hlp hmm hka
          go_wp2_with (with_reducible refine wpList_store_row rfl 52 _ _ rfl w.heap.size (w4 (m + MM - PP)) rfl rfl 52 _ h1'.heap w4_info (by rw [ws_sz, w4_size]) (w4_one _) ?_)
          go_roundw
          case rel =>
            refine ⟨k + 1, by omega, by go_num, HN.out.1, ?_, Row.setRow_other h2' (by omega), below_setRow hb' (by omega)⟩
            have e : w4 (m + MM - PP) = ws (a - (k + 1) * PP) := by rw [← HN.out.2, ← HM.out]; rfl
            show At (wc.setRow w.heap.size (w4 (m + MM - PP))) _ _
            rw [e]
            exact setRow_heap _ _ _ _ _ _ h1'
          case measure => simp [intOf]; omega
    · obtain rfl : k = 2 := by omega
      rw [show ((2 : Nat) : Int) = (2 : Int) from rfl]
      have HE := Lib.hid (rest_end a ha hka)
      clear hka
      go_wp2_with (first
        | (with_reducible refine wpList_load_row rfl 52 _ rfl w.heap.size rfl 52 _ (0, 0) _ h1.heap Tryd.underlying52 rfl (by rw [ws_sz]; exact info_w) ?_)
        | (with_reducible refine wpList_store_row rfl 52 _ _ rfl (w.heap.size + 1) (ws (a - 2 * PP)) rfl rfl 52 _ h2.heap (by rw [ws_sz]; exact info_w) (by rw [ws_sz, ws_sz]) (ws_one _) ?_))
      refine bodyPost_ret (v := .agg (ws (a - 2 * PP))) (results_cell_row rfl _ _ (w.heap.size + 1) 52 _ (0, 0) _ rfl (setRow_heap _ _ _ _ _ _ h2) Tryd.underlying52 rfl (by rw [ws_sz]; exact info_w)) rfl ⟨?_, below_setRow hb (by omega)⟩
      rw [HE.out]
end Go.Proofs.YtfpphinnngblgaaDoor.Fld
