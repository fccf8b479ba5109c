/- Layer 5: the base. -/
import Derived.Test.YtfpphinnngblgaaDoorPtK
import Derived.Test.YtfpphinnngblgaaDoorSz
import Derived.Test.YtfpphinnngblgaaDoorFldP
namespace Go.Proofs.YtfpphinnngblgaaDoor.Fld
open Go.RowKit Go.Lib
open Go.Proofs.YtfpphinnngblgaaDoor.Num (val up val_congr val_add val_lt val_up val_digits val_word)
open Go.Proofs.YtfpphinnngblgaaDoor.Arr Go.Proofs.YtfpphinnngblgaaDoor.Sym Go.Proofs.YtfpphinnngblgaaDoor.Sx

def Bx : Nat := 15112221349535400772501151409588531511454012693041857206046113283949847762202
def By : Nat := 46316835694926478169428394003475163141307993866256225615783033603165251855960
def baseP : Pn := ⟨Bx, By, 1, 46827403850823179245072216630277197565144205554125654976674165829533817101731⟩
theorem baseP_ok : baseP.ok := ⟨by decide, by decide, by decide, by decide⟩
def baseF (j : Nat) : Nat := if j = 0 then 88 else 102
def baseS : ByteArray := txt baseF 32
theorem baseF_lt (j : Nat) : baseF j < 256 := by unfold baseF; split <;> decide
theorem n32_txt (f : Nat → Nat) (hf : ∀ j, f j < 256) : n32 (txt f 32) = val 256 f 32 := by
  unfold n32
  exact val_congr fun j hj => by
    have h : j < (txt f 32).size := by rw [txt_size]; exact hj
    unfold sb
    rw [dif_pos h]
    exact txt_at f 32 j h (hf j)
theorem n32_base : n32 baseS = By := by
  unfold baseS
  rw [n32_txt baseF baseF_lt]
  decide +kernel
theorem upY_base : upY baseS = By := by unfold upY; rw [n32_base]; decide
theorem inv_of (x i : Nat) (h : pm256 x (PP - 2) = i) : fI x = i := by
  unfold fI
  rw [pm_at x (PP - 2) (by decide)]
  exact h
theorem upS_of (y q d i r : Nat) (h1 : fM y y = q) (h2 : fA (fM dN q) 1 = d) (h3 : fI d = i) (h4 : fM (fS q 1) i % PP = r) : upS y % PP = r := by
  unfold upS
  rw [h1, h2, h3]
  exact h4
theorem unP_of (s : ByteArray) (y x : Nat) (p : Pn) (hs : s.size = 32) (hy : upY s = y) (hc : y < PP) (hok : upOk y = true) (ho : ¬ HH ≤ n32 s) (hx : upX y = x) (hp : (⟨x, y, 1, fM x y⟩ : Pn) = p) : unP s = some p := by
  unfold unP
  rw [if_pos hs, hy, if_pos hc, if_pos hok, if_neg ho, hx, hp]
theorem un_at (s : ByteArray) (p : Pn) (h : unP s = some p) (w : World) (hd : DD w) : Calls Tryd.prog 10 #[.string s] w (fun e w' => e = .returned (.tuple #[.agg (pq p), .bool true]) ∧ Below w.heap.size w w') := by
  have h2 := unpack_p s w hd
  unfold unV at h2
  rw [h] at h2
  exact h2
theorem inv_base : fI 35320460721920060721965471946471712506633951349663716574434581141966314745466 = 36615873626505047815401509688526422966742341385236691817538452001808239043262 := inv_of _ _ (by decide +kernel)
theorem upS_base : upS By % PP = 26187595835145689230469591415084376402084551887632582719101735842039498021991 := upS_of By 37053468555941182535542715202780130513046395093004980492626426882532201484768 35320460721920060721965471946471712506633951349663716574434581141966314745466 36615873626505047815401509688526422966742341385236691817538452001808239043262 26187595835145689230469591415084376402084551887632582719101735842039498021991 (by decide +kernel) (by decide +kernel) inv_base (by decide +kernel)
theorem upX_base : upX By = Bx := by
  unfold upX
  rw [upS_base, rootV_at]
  decide +kernel
theorem upOk_base : upOk By = true := by
  unfold upOk
  rw [upS_base, rootOk_at]
  decide +kernel
theorem unP_base : unP baseS = some baseP :=
  unP_of baseS By Bx baseP (txt_size _ _) upY_base (by decide) upOk_base (by rw [n32_base]; decide) upX_base (by rw [show fM Bx By = 46827403850823179245072216630277197565144205554125654976674165829533817101731 by decide +kernel]; rfl)
theorem un_base (w : World) (hd : DD w) : Calls Tryd.prog 10 #[.string baseS] w (fun e w' => e = .returned (.tuple #[.agg (pq baseP), .bool true]) ∧ Below w.heap.size w w') :=
  un_at baseS baseP unP_base w hd
def b66 (k j : Nat) : Nat := if j < k then 102 else 0
theorem b66_up (k : Nat) : up (b66 k) k 102 = b66 (k + 1) := by
  funext j
  unfold up b66
  by_cases e : j = k
  · rw [if_pos e, if_pos (by omega)]
  · rw [if_neg e]
    by_cases h : j < k
    · rw [if_pos h, if_pos (by omega)]
    · rw [if_neg h, if_neg (by omega)]
set_option maxHeartbeats 2000000 in
set_option maxRecDepth 100000 in
theorem base_any  (w : World) (hd : DD w) : Calls Tryd.prog 26 #[] w (fun e w' => e = .returned (.agg (pq baseP)) ∧ Below w.heap.size w w') := by
  go_enter Tryd.func26, Tryd.ntmps26
  have hm0 := Mm.nil w
  refine wp_seq_k (fun K1 hK1 => ?_)
  refine wp_region_lit ?_
  refine lst (wanted_none rfl) (m_alloc (c := pt 0 0 0 0) (T := 25) hm0 0 rfl (al_P rfl) (fun g2 w3 (hm4 : Mm w w3 [(g2, pt 0 0 0 0, 25)]) => ?_))
  simp only [nz1, nz2]
  refine wpList_nil ?_
  refine then_n (hK1 _ _ ?_)
  refine wp_seq_k (fun K5 hK5 => ?_)
  refine wp_region_lit ?_
  obtain ⟨iq, hiq, hz1, hz2, hz3⟩ : ∃ i, Tryd.prog.info? 5 = some i ∧ i.zero = some (.int .u8 0) ∧ i.size = 1 ∧ i.bytes = 1 := ⟨_, rfl, rfl, rfl, rfl⟩
  refine lst (wanted_none rfl) (m_make (c := rowOf .u8 (fun _ => 0) 32) (T := 5) (fun g => .slice (some ⟨g, 0, none⟩) 32 32) hm4 5 rfl (r_makeC 32 32 iq (by decide) (by decide) Tryd.underlying42 hiq hz1 hz2 hz3 rfl rfl rfl) (fun g6 w7 (hm8 : Mm w w7 [(g2, pt 0 0 0 0, 25), (g6, rowOf .u8 (fun _ => 0) 32, 5)]) => ?_))
  simp only [nz1, nz2, nz3]
  refine lv 1 (.slice (some ⟨g6, 0, none⟩) 32 32) rfl rfl (run_as rfl rfl) ?_
  simp only [nz1, nz2, nz3]
  refine wpList_nil ?_
  refine then_n (hK5 _ _ ?_)
  refine wp_seq_k (fun K9 hK9 => ?_)
  refine wp_seq_k (fun K10 hK10 => ?_)
  refine wp_region_lit ?_
  refine lv 6 (.slice (some ⟨g6, 0, none⟩) 32 32) rfl rfl (run_mv rfl rfl) ?_
  simp only [nz1, nz2, nz3]
  refine lv 7 (.int .i64 32) rfl rfl (r_lenS rfl Tryd.underlying42 rfl) ?_
  simp only [nz1, nz2, nz3]
  refine lv 8 (.int .i64 0) rfl rfl (run_mv rfl rfl) ?_
  simp only [nz1, nz2, nz3]
  refine wpList_nil ?_
  have hm11 : Mm w w7 [(g2, pt 0 0 0 0, 25), (g6, rowOf .u8 (b66 0) 32, 5)] := by rw [show (rowOf .u8 (b66 0) 32 : Array Value) = rowOf .u8 (fun _ => 0) 32 from rowOf_congr fun j _ => by unfold b66; rw [if_neg (by omega)]]; exact hm8
  refine then_n (hK10 _ _ ?_)
  refine wp_block ?_
  refine wp_loop_n (fun n' a' w' => ∃ (k : Nat) (u0 : Nat → Value), n' = 32 - k ∧ (k ≤ 32) ∧ a' = ⟨#[.pointer (some ⟨g2, 0, none⟩), .slice (some ⟨g6, 0, none⟩) 32 32, u0 0, undef, undef, .slice (some ⟨g6, 0, none⟩) 32 32, .slice (some ⟨g6, 0, none⟩) 32 32, .int .i64 32, .int .i64 ((k : Nat) : Int), u0 1, u0 2, u0 3, u0 4, u0 5, u0 6, undef, undef, undef, undef, undef, undef, undef, undef, undef], []⟩ ∧ Mm w w' [(g2, pt 0 0 0 0, 25), (g6, rowOf .u8 (b66 k) 32, 5)]) ⟨0, (fun qq => List.getD [undef, undef, undef, undef, undef, undef, undef] qq undef), rfl, (by omega), rfl, hm11⟩ ?_
  clear hm11
  rintro _ _ w12 ⟨k, u0, hn0, hk, rfl, hm13⟩ R14 hR14
  refine wp_seq_k (fun K15 hK15 => ?_)
  refine wp_region_lit ?_
  refine lv 9 (.bool (decide (k < 32))) rfl rfl (r_lss k 32 rfl rfl rfl) ?_
  simp only [nz1, nz2, nz3]
  refine wpList_nil ?_
  refine then_n (hK15 _ _ ?_)
  refine wp_seq_k (fun K16 hK16 => ?_)
  refine cond_d (k < 32) rfl (fun hc17 => ?_) (fun hc17 => ?_)
  · refine wp_skip ?_
    refine then_n (hK16 _ _ ?_)
    refine wp_seq_k (fun K18 hK18 => ?_)
    refine wp_block ?_
    refine wp_seq_k (fun K19 hK19 => ?_)
    refine wp_region_lit ?_
    refine lv 10 (.int .i64 ((k : Nat) : Int)) rfl rfl (run_mv rfl rfl) ?_
    simp only [nz1, nz2, nz3]
    refine lv 2 (.int .i64 ((k : Nat) : Int)) rfl rfl (run_as rfl rfl) ?_
    simp only [nz1, nz2, nz3]
    refine wpList_nil ?_
    refine then_n (hK19 _ _ ?_)
    refine wp_region_lit ?_
    refine lv 11 (.slice (some ⟨g6, 0, none⟩) 32 32) rfl rfl (run_mv rfl rfl) ?_
    simp only [nz1, nz2, nz3]
    refine lv 12 (.int .i64 ((k : Nat) : Int)) rfl rfl (run_mv rfl rfl) ?_
    simp only [nz1, nz2, nz3]
    refine lv 13 (.pointer (some ⟨g6, k, none⟩)) rfl rfl (r_ixS g6 k 32 32 (by omega) Tryd.underlying42 one_u8 rfl rfl rfl) ?_
    simp only [nz1, nz2, nz3]
    refine lst (wanted_none rfl) (m_put 1 (new := rowOf .u8 (up (b66 k) k 102) 32) k (.int .u8 102) (old := rowOf .u8 (b66 k) 32) hm13 rfl rfl (p_cell (n := 32) (f := (b66 k)) g6 k 102 (by omega) (hm13.at 1 rfl) rfl one_u8 rfl rfl) (rowOf_set _ _ _ _ _) (fun w20 (hm21 : Mm w w20 [(g2, pt 0 0 0 0, 25), (g6, rowOf .u8 (up (b66 k) k 102) 32, 5)]) => ?_))
    refine wpList_nil ?_
    have hm22 : Mm w w20 [(g2, pt 0 0 0 0, 25), (g6, rowOf .u8 (b66 (k + 1)) 32, 5)] := by rw [show (rowOf .u8 (b66 (k + 1)) 32 : Array Value) = rowOf .u8 (up (b66 k) k 102) 32 from by rw [b66_up]]; exact hm21
    refine blk_n ?_
    refine then_n (hK18 _ _ ?_)
    refine wp_region_lit ?_
    refine lv 14 (.int .i64 (((k + 1) : Nat) : Int)) rfl rfl (r_add k 1 (show (k + 1) < 9223372036854775808 from by omega) rfl rfl rfl) ?_
    simp only [nz1, nz2, nz3]
    refine lv 8 (.int .i64 (((k + 1) : Nat) : Int)) rfl rfl (run_mv rfl rfl) ?_
    simp only [nz1, nz2, nz3]
    refine wpList_nil ?_
    refine then_n (hR14 _ _ _ ⟨(k + 1), (fun qq => List.getD [.int .i64 ((k : Nat) : Int), .bool (decide (k < 32)), .int .i64 ((k : Nat) : Int), .slice (some ⟨g6, 0, none⟩) 32 32, .int .i64 ((k : Nat) : Int), .pointer (some ⟨g6, k, none⟩), .int .i64 (((k + 1) : Nat) : Int)] qq undef), rfl, (by omega), rfl, hm22⟩ ?_)
    omega
  · obtain rfl : k = 32 := by omega
    refine wp_exit ?_
    refine then_x ?_
    refine then_x ?_
    refine blk_x ?_
    refine then_n (hK9 _ _ ?_)
    refine wp_seq_k (fun K23 hK23 => ?_)
    refine wp_region_lit ?_
    refine lv 15 (.slice (some ⟨g6, 0, none⟩) 32 32) rfl rfl (run_mv rfl rfl) ?_
    simp only [nz1, nz2, nz3]
    refine lv 16 (.pointer (some ⟨g6, 0, none⟩)) rfl rfl (r_ixS g6 0 32 32 (by omega) Tryd.underlying42 one_u8 rfl rfl rfl) ?_
    simp only [nz1, nz2, nz3]
    refine lst (wanted_none rfl) (m_put 1 (new := rowOf .u8 (up (b66 32) 0 88) 32) 0 (.int .u8 88) (old := rowOf .u8 (b66 32) 32) hm13 rfl rfl (p_cell (n := 32) (f := (b66 32)) g6 0 88 (by decide) (hm13.at 1 rfl) rfl one_u8 rfl rfl) (rowOf_set _ _ _ _ _) (fun w24 (hm25 : Mm w w24 [(g2, pt 0 0 0 0, 25), (g6, rowOf .u8 (up (b66 32) 0 88) 32, 5)]) => ?_))
    refine wpList_nil ?_
    have hm26 : Mm w w24 [(g2, pt 0 0 0 0, 25), (g6, rowOf .u8 baseF 32, 5)] := by rw [show (rowOf .u8 baseF 32 : Array Value) = rowOf .u8 (up (b66 32) 0 88) 32 from rowOf_congr fun j hj => by unfold up b66 baseF; split <;> simp_all]; exact hm25
    refine then_n (hK23 _ _ ?_)
    refine wp_seq_k (fun K27 hK27 => ?_)
    refine wp_region_lit ?_
    refine lv 18 (.slice (some ⟨g6, 0, none⟩) 32 32) rfl rfl (run_mv rfl rfl) ?_
    simp only [nz1, nz2, nz3]
    refine lv 19 (.string baseS) rfl rfl (r_string g6 32 32 baseF 5 (fun j _ => baseF_lt j) (hm26.at 1 rfl) Tryd.underlying42 Tryd.underlying5 Tryd.underlying9 rfl rfl) ?_
    simp only [nz1, nz2, nz3]
    refine lst (wanted_none rfl) (m_call hm26 20 (.tuple #[.agg (pq baseP), .bool true]) rfl (run_pUnpack rfl rfl) (un_base _ (kept hd hm26.below)) (fun w28 hm29 => ?_))
    simp only [nz1, nz2, nz3]
    refine lv 17 (.tuple #[.agg (pq baseP), .bool true]) rfl rfl (run_mv rfl rfl) ?_
    simp only [nz1, nz2, nz3]
    refine lv 21 (.agg (pq baseP)) rfl rfl (run_ex rfl rfl rfl) ?_
    simp only [nz1, nz2, nz3]
    refine lv 22 (.bool true) rfl rfl (run_ex rfl rfl rfl) ?_
    simp only [nz1, nz2, nz3]
    refine lst (wanted_none rfl) (m_alloc (c := pt 0 0 0 0) (T := 25) hm29 3 rfl (al_P rfl) (fun g30 w31 (hm32 : Mm w w31 [(g2, pt 0 0 0 0, 25), (g6, rowOf .u8 baseF 32, 5), (g30, pt 0 0 0 0, 25)]) => ?_))
    simp only [nz1, nz2, nz3]
    refine lst (wanted_none rfl) (m_store 2 25 _ _ (pq baseP) (old := pt 0 0 0 0) hm32 rfl rfl rfl rfl rfl (by rw [pq_sz]; exact info_p) ((pt_sz _ _ _ _).trans (pq_sz _).symm) (pq_one _) (fun w33 (hm34 : Mm w w33 [(g2, pt 0 0 0 0, 25), (g6, rowOf .u8 baseF 32, 5), (g30, pq baseP, 25)]) => ?_))
    refine lv 4 (.bool true) rfl rfl (run_as rfl rfl) ?_
    simp only [nz1, nz2, nz3]
    refine wpList_nil ?_
    refine then_n (hK27 _ _ ?_)
    refine wp_seq_k (fun K35 hK35 => ?_)
    refine wp_region_lit ?_
    refine lv 23 (.agg (pq baseP)) rfl rfl (run_row rfl rfl (hm34.at 2 rfl) Tryd.underlying25 rfl (by rw [pq_sz]; exact info_p)) ?_
    simp only [nz1, nz2, nz3]
    refine lst (wanted_none rfl) (m_store 0 25 _ _ (pq baseP) (old := pt 0 0 0 0) hm34 rfl rfl rfl rfl rfl (by rw [pq_sz]; exact info_p) ((pt_sz _ _ _ _).trans (pq_sz _).symm) (pq_one _) (fun w36 (hm37 : Mm w w36 [(g2, pq baseP, 25), (g6, rowOf .u8 baseF 32, 5), (g30, pq baseP, 25)]) => ?_))
    refine wpList_nil ?_
    refine then_n (hK35 _ _ ?_)
    refine wp_ret ?_
    exact ⟨rfl, .agg (pq baseP), res_c rfl rfl (hm37.at 0 rfl) Tryd.underlying25 rfl (by rw [pq_sz]; exact info_p), ⟨rfl, hm37.below⟩⟩
end Go.Proofs.YtfpphinnngblgaaDoor.Fld
