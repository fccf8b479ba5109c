/- Points of the curve have the same bytes just if they are the same; a sum has the bytes of its first part just if it is the same; the opposite has the same bytes but for its sign: PointApart returns true, for every two texts. No condition, but that the package's variable d is as the text lays it. -/
import Derived.Test.YtfpphinnngblgaaDoorRows
import Derived.Test.YtfpphinnngblgaaDoorPtT
import Derived.Test.YtfpphinnngblgaaDoorPtO
import Derived.Test.YtfpphinnngblgaaDoorCrvN
import Derived.Test.YtfpphinnngblgaaDoorPtI
import Derived.Test.YtfpphinnngblgaaDoorPtS
import Derived.Test.YtfpphinnngblgaaDoorMem
import Derived.WalkKit
import Derived.ProofKit
import Derived.OpenShut
import Derived.ShutString
import Derived.ChangeMaps5
import Derived.LaidMore
import Derived.SevenTiedAt
import Derived.Test.YtfpphinnngblgaaDoorTie
import Derived.Test.YtfpphinnngblgaaDoorCards
namespace Go.Proofs.YtfpphinnngblgaaDoor.pointApart
open Go.ChangeShapes Go.WideShapes Go.ChangeAt Go.RowKit Go.ChangeMaps
open Go.Proofs.YtfpphinnngblgaaDoor Go.Proofs.YtfpphinnngblgaaDoor.Fld Go.Proofs.YtfpphinnngblgaaDoor.Arr Go.Proofs.YtfpphinnngblgaaDoor.Sym Go.Proofs.YtfpphinnngblgaaDoor.Crv Go.Proofs.YtfpphinnngblgaaDoor.Mem
open Go.Proofs.YtfpphinnngblgaaDoor.Sx hiding Mm m_alloc m_store m_put m_call m_callx m_make m_append r_string r_ixS
open Go.Proofs.YtfpphinnngblgaaDoor.Num (up)
set_option linter.unusedVariables false

theorem own : ownKnob Tryd.prog.godebug = none := by kernel_rfl
theorem txt_congr {f g : Nat → Nat} {n : Nat} (h : ∀ j, j < n → f j = g j) : txt f n = txt g n := by
  unfold txt
  congr 2
  exact List.map_congr_left fun j hj => by rw [h j (List.mem_range.1 hj)]
theorem sb_tx (f : Nat → Nat) (n j : Nat) (hf : f j < 256) (hj : j < n) : sb (txt f n) j = f j := by
  have h : j < (txt f n).size := by rw [txt_size]; exact hj
  rw [← sb_at _ j h]
  exact txt_at f n j h hf
theorem bc_at (s : ByteArray) (n j : Nat) (h : j < s.size) : (bcells s n)[j]? = some (.int .u8 ((sb s j : Nat) : Int)) := by
  have h' : j < s.data.size := h
  unfold bcells bytesRow
  rw [Array.getElem?_append_left (by rw [Array.size_map]; exact h'), Array.getElem?_map, Array.getElem?_eq_getElem h', ← sb_at s j h]
  rfl
theorem bc_sz (s : ByteArray) (n : Nat) : (bcells s n).size = s.size + n := by
  have : s.data.size = s.size := rfl
  unfold bcells bytesRow
  rw [Array.size_append, Array.size_map, Array.size_replicate]; omega
theorem and_127 (n : Nat) : n &&& 127 = n % 128 := Nat.and_two_pow_sub_one_eq_mod n 7
/-- A text with the highest bit of its last byte away. -/
def cutS (s : ByteArray) : ByteArray := txt (up (sb s) 31 (sb s 31 % 128)) 32
theorem cut_sz (s : ByteArray) : (cutS s).size = 32 := txt_size _ _
theorem cut_at (s : ByteArray) (n : Nat) (hs : s.size = 32) : ∀ (j : Nat) (hj : j < (cutS s).size), (into (bcells s n) 31 #[.int .u8 ((sb s 31 % 128 : Nat) : Int)])[0 + j]? = some (bv (cutS s)[j]) := by
  intro j hj
  have hj' : j < 32 := by rw [cut_sz] at hj; exact hj
  have hz := bc_sz s n
  have e1 : ((cutS s)[j]'hj).toNat = up (sb s) 31 (sb s 31 % 128) j := txt_at _ _ _ hj (by
    unfold up
    split
    · omega
    · exact sb_lt s j)
  unfold bv
  rw [e1, Nat.zero_add]
  unfold into up
  rw [List.getElem?_toArray, List.getElem?_append]
  have hl : ((bcells s n).toList.take 31 ++ #[Value.int .u8 ((sb s 31 % 128 : Nat) : Int)].toList).length = 32 := by simp [hz]; omega
  rw [hl, if_pos hj', List.getElem?_append]
  have hl2 : ((bcells s n).toList.take 31).length = 31 := by simp [hz]; omega
  rw [hl2]
  by_cases h : j = 31
  · subst h; simp
  · rw [if_pos (by omega), if_neg h, List.getElem?_take_of_lt (by omega), Array.getElem?_toList, bc_at s n j (by omega)]
theorem cut_pk (x y : Nat) (hy : y < PP) : cutS (txt (bt (pkN x y)) 32) = txt (bt y) 32 := by
  have key : ∀ j, j < 32 → bt (pkN x y) j = up (bt y) 31 (bt y 31 + 128 * (x % 2)) j := fun j hj => by
    have e := congrArg (·[j]?) (pk_row x y hy)
    simp only [rowOf_get _ _ _ _ hj, Option.some.injEq, Value.int.injEq, true_and] at e
    exact_mod_cast e
  have hsb : ∀ j, j < 32 → sb (txt (bt (pkN x y)) 32) j = bt (pkN x y) j := fun j hj => sb_tx _ _ _ (bt_lt _ _) hj
  unfold cutS
  refine txt_congr fun j hj => ?_
  unfold up
  by_cases h : j = 31
  · subst h
    rw [if_pos rfl, hsb 31 (by decide), key 31 (by decide)]
    unfold up
    rw [if_pos rfl]
    have := pk_top y hy
    omega
  · rw [if_neg h, hsb j hj, key j hj]
    unfold up
    rw [if_neg h]
theorem l_same {p q : Pn} {P Q : Fin PP × Fin PP} {a b : ByteArray} (h : Rp p P) (k : Rp q Q) (ha : pkF P = a) (hb : pkF Q = b) : sameP p q ↔ a = b := by
  rw [same_R h k, ← ha, ← hb]
  exact ⟨fun e => by rw [e], pkF_inj h.on k.on⟩
theorem l_pack {p q : Pn} {P Q : Fin PP × Fin PP} {a : ByteArray} (h : Rp p P) (k : Rp q Q) (ha : pkF P = a) : packS (addP p q) = a ↔ sameP (addP p q) p := by
  rw [l_same (add_R h k) h (pack_R (add_R h k)).symm ha]
theorem pk_sz (P : Fin PP × Fin PP) : (pkF P).size = 32 := txt_size _ _
theorem l_cut {p : Pn} {P : Fin PP × Fin PP} {a : ByteArray} (h : Rp p P) (ha : pkF P = a) : cutS (packS (negP p)) = cutS a := by
  rw [pack_R (neg_R h), ← ha]
  unfold pkF
  rw [cut_pk _ _ P.2.isLt, cut_pk _ _ P.2.isLt]
theorem neg_sz {p : Pn} {P : Fin PP × Fin PP} (h : Rp p P) : (packS (negP p)).size = 32 := by rw [pack_R (neg_R h)]; exact pk_sz _
set_option maxHeartbeats 4000000 in
set_option maxRecDepth 100000 in
theorem walk_ss (a : ByteArray) (p : Pn) (ha : unP a = some p) (hp : p.ok) (b : ByteArray) (q : Pn) (hb : unP b = some q) (hq : q.ok) (G1 : sameP p q ↔ a = b) (G2 : packS (addP p q) = a ↔ sameP (addP p q) p) (G3 : cutS (packS (negP p)) = cutS a) (z1 : (packS (negP p)).size = 32) (z2 : a.size = 32)  (w : World) (hd : DD w) : Calls Tryd.prog 8 #[.string a, .string b] w (fun e w' => e = .returned (.bool true) ∧ Below w.heap.size w w') := by
  go_enter Tryd.func8, Tryd.ntmps8
  have hm0 := Mm.nil none w
  refine wp_seq_k (fun K1 hK1 => ?_)
  refine wp_region_lit ?_
  refine lst (wanted_none rfl) (w_value 4 (.bool false) rfl (run_as rfl rfl) ?_)
  simp only [List.setIfInBounds_toArray, List.set_cons_zero, List.set_cons_succ]
  refine wpList_nil ?_
  refine then_n (hK1 _ _ ?_)
  refine wp_seq_k (fun K2 hK2 => ?_)
  refine wp_region_lit ?_
  refine lst (wanted_none rfl) (w_value 13 (.string a) rfl (run_mv rfl rfl) ?_)
  simp only [List.setIfInBounds_toArray, List.set_cons_zero, List.set_cons_succ]
  refine lst (wanted_none rfl) (m_call hm0 14 (.tuple #[.agg (pq p), .bool true]) rfl (run_pUnpack rfl rfl) (un_at a p ha _ (kept hd hm0.below)) (fun w3 hm4 => ?_))
  simp only [List.setIfInBounds_toArray, List.set_cons_zero, List.set_cons_succ]
  refine lst (wanted_none rfl) (w_value 12 (.tuple #[.agg (pq p), .bool true]) rfl (run_mv rfl rfl) ?_)
  simp only [List.setIfInBounds_toArray, List.set_cons_zero, List.set_cons_succ]
  refine lst (wanted_none rfl) (w_value 15 (.agg (pq p)) rfl (run_ex rfl rfl rfl) ?_)
  simp only [List.setIfInBounds_toArray, List.set_cons_zero, List.set_cons_succ]
  refine lst (wanted_none rfl) (w_value 16 (.bool true) rfl (run_ex rfl rfl rfl) ?_)
  simp only [List.setIfInBounds_toArray, List.set_cons_zero, List.set_cons_succ]
  refine lst (wanted_none rfl) (m_alloc (c := pt 0 0 0 0) (T := 25) hm4 5 rfl (al_P rfl) (fun g5 w6 (hm7 : Mm none w w6 [.blk g5 (pt 0 0 0 0) 25]) => ?_))
  simp only [List.setIfInBounds_toArray, List.set_cons_zero, List.set_cons_succ]
  refine lst (wanted_none rfl) (m_store 0 25 _ _ 0 (.agg (pq p)) (old := pt 0 0 0 0) (new := pq p) hm7 rfl rfl rfl rfl rfl (by show _ = some (pq p).size; rw [pq_sz]; exact info_p) (by rw [Nat.zero_add]; exact Nat.le_of_eq ((pq_sz _).trans (pt_sz _ _ _ _).symm)) (pq_one _) (into_all _ _ ((pt_sz _ _ _ _).trans (pq_sz _).symm)) (fun w8 (hm9 : Mm none w w8 [.blk g5 (pq p) 25]) => ?_))
  refine lst (wanted_none rfl) (w_value 6 (.bool true) rfl (run_as rfl rfl) ?_)
  simp only [List.setIfInBounds_toArray, List.set_cons_zero, List.set_cons_succ]
  refine wpList_nil ?_
  refine then_n (hK2 _ _ ?_)
  refine wp_seq_k (fun K10 hK10 => ?_)
  refine wp_region_lit ?_
  refine lst (wanted_none rfl) (w_value 18 (.string b) rfl (run_mv rfl rfl) ?_)
  simp only [List.setIfInBounds_toArray, List.set_cons_zero, List.set_cons_succ]
  refine lst (wanted_none rfl) (m_call hm9 19 (.tuple #[.agg (pq q), .bool true]) rfl (run_pUnpack rfl rfl) (un_at b q hb _ (kept hd hm9.below)) (fun w11 hm12 => ?_))
  simp only [List.setIfInBounds_toArray, List.set_cons_zero, List.set_cons_succ]
  refine lst (wanted_none rfl) (w_value 17 (.tuple #[.agg (pq q), .bool true]) rfl (run_mv rfl rfl) ?_)
  simp only [List.setIfInBounds_toArray, List.set_cons_zero, List.set_cons_succ]
  refine lst (wanted_none rfl) (w_value 20 (.agg (pq q)) rfl (run_ex rfl rfl rfl) ?_)
  simp only [List.setIfInBounds_toArray, List.set_cons_zero, List.set_cons_succ]
  refine lst (wanted_none rfl) (w_value 21 (.bool true) rfl (run_ex rfl rfl rfl) ?_)
  simp only [List.setIfInBounds_toArray, List.set_cons_zero, List.set_cons_succ]
  refine lst (wanted_none rfl) (m_alloc (c := pt 0 0 0 0) (T := 25) hm12 7 rfl (al_P rfl) (fun g13 w14 (hm15 : Mm none w w14 [.blk g5 (pq p) 25, .blk g13 (pt 0 0 0 0) 25]) => ?_))
  simp only [List.setIfInBounds_toArray, List.set_cons_zero, List.set_cons_succ]
  refine lst (wanted_none rfl) (m_store 1 25 _ _ 0 (.agg (pq q)) (old := pt 0 0 0 0) (new := pq q) hm15 rfl rfl rfl rfl rfl (by show _ = some (pq q).size; rw [pq_sz]; exact info_p) (by rw [Nat.zero_add]; exact Nat.le_of_eq ((pq_sz _).trans (pt_sz _ _ _ _).symm)) (pq_one _) (into_all _ _ ((pt_sz _ _ _ _).trans (pq_sz _).symm)) (fun w16 (hm17 : Mm none w w16 [.blk g5 (pq p) 25, .blk g13 (pq q) 25]) => ?_))
  refine lst (wanted_none rfl) (w_value 8 (.bool true) rfl (run_as rfl rfl) ?_)
  simp only [List.setIfInBounds_toArray, List.set_cons_zero, List.set_cons_succ]
  refine wpList_nil ?_
  refine then_n (hK10 _ _ ?_)
  refine wp_seq_k (fun K18 hK18 => ?_)
  refine wp_seq_k (fun K19 hK19 => ?_)
  refine wp_region_lit ?_
  refine lst (wanted_none rfl) (w_value 22 (.bool true) rfl (run_mv rfl rfl) ?_)
  simp only [List.setIfInBounds_toArray, List.set_cons_zero, List.set_cons_succ]
  refine lst (wanted_none rfl) (w_value 23 (.bool false) rfl (r_not true rfl rfl) ?_)
  simp only [List.setIfInBounds_toArray, List.set_cons_zero, List.set_cons_succ]
  refine lst (wanted_none rfl) (w_value 24 (.bool false) rfl (run_mv rfl rfl) ?_)
  simp only [List.setIfInBounds_toArray, List.set_cons_zero, List.set_cons_succ]
  refine lst rfl (w_value 25 (.bool true) rfl (run_mv rfl rfl) ?_)
  simp only [List.setIfInBounds_toArray, List.set_cons_zero, List.set_cons_succ]
  refine lst rfl (w_value 26 (.bool false) rfl (r_not true rfl rfl) ?_)
  simp only [List.setIfInBounds_toArray, List.set_cons_zero, List.set_cons_succ]
  refine lst (wanted_none rfl) (w_value 27 (.bool false) rfl (run_pickf rfl rfl rfl) ?_)
  simp only [List.setIfInBounds_toArray, List.set_cons_zero, List.set_cons_succ]
  refine wpList_nil ?_
  refine then_n (hK19 _ _ ?_)
  refine cond_f rfl ?_
  refine wp_skip ?_
  refine then_n (hK18 _ _ ?_)
  refine wp_seq_k (fun K20 hK20 => ?_)
  refine wp_region_lit ?_
  refine lst (wanted_none rfl) (w_value 29 (.agg (pq p)) rfl (r_whole (hm17.at 0 rfl) Tryd.underlying25 rfl (by show _ = some (pq p).size; rw [pq_sz]; exact info_p) rfl rfl) ?_)
  simp only [List.setIfInBounds_toArray, List.set_cons_zero, List.set_cons_succ]
  refine lst (wanted_none rfl) (w_value 30 (.agg (pq q)) rfl (r_whole (hm17.at 1 rfl) Tryd.underlying25 rfl (by show _ = some (pq q).size; rw [pq_sz]; exact info_p) rfl rfl) ?_)
  simp only [List.setIfInBounds_toArray, List.set_cons_zero, List.set_cons_succ]
  refine lst (wanted_none rfl) (m_call hm17 31 (.agg (pq (addP p q))) rfl (run_pAdd rfl rfl rfl) (add_p p q hp hq _ (kept hd hm17.below)) (fun w21 hm22 => ?_))
  simp only [List.setIfInBounds_toArray, List.set_cons_zero, List.set_cons_succ]
  refine lst (wanted_none rfl) (m_alloc (c := pt 0 0 0 0) (T := 25) hm22 9 rfl (al_P rfl) (fun g23 w24 (hm25 : Mm none w w24 [.blk g5 (pq p) 25, .blk g13 (pq q) 25, .blk g23 (pt 0 0 0 0) 25]) => ?_))
  simp only [List.setIfInBounds_toArray, List.set_cons_zero, List.set_cons_succ]
  refine lst (wanted_none rfl) (m_store 2 25 _ _ 0 (.agg (pq (addP p q))) (old := pt 0 0 0 0) (new := pq (addP p q)) hm25 rfl rfl rfl rfl rfl (by show _ = some (pq (addP p q)).size; rw [pq_sz]; exact info_p) (by rw [Nat.zero_add]; exact Nat.le_of_eq ((pq_sz _).trans (pt_sz _ _ _ _).symm)) (pq_one _) (into_all _ _ ((pt_sz _ _ _ _).trans (pq_sz _).symm)) (fun w26 (hm27 : Mm none w w26 [.blk g5 (pq p) 25, .blk g13 (pq q) 25, .blk g23 (pq (addP p q)) 25]) => ?_))
  refine wpList_nil ?_
  refine then_n (hK20 _ _ ?_)
  refine wp_seq_k (fun K28 hK28 => ?_)
  refine wp_region_lit ?_
  refine lst (wanted_none rfl) (w_value 32 (.agg (pq p)) rfl (r_whole (hm27.at 0 rfl) Tryd.underlying25 rfl (by show _ = some (pq p).size; rw [pq_sz]; exact info_p) rfl rfl) ?_)
  simp only [List.setIfInBounds_toArray, List.set_cons_zero, List.set_cons_succ]
  refine lst (wanted_none rfl) (m_call hm27 33 (.agg (pq (negP p))) rfl (run_pNeg rfl rfl) (neg_p p hp _) (fun w29 hm30 => ?_))
  simp only [List.setIfInBounds_toArray, List.set_cons_zero, List.set_cons_succ]
  refine lst (wanted_none rfl) (m_call hm30 34 (.string (packS (negP p))) rfl (run_pPack rfl rfl) (pack_p (negP p) (negP_ok _) _) (fun w31 hm32 => ?_))
  simp only [List.setIfInBounds_toArray, List.set_cons_zero, List.set_cons_succ]
  refine lst (wanted_none rfl) (m_bytes (packS (negP p)) hm32 35 rfl Tryd.underlying9 Tryd.underlying42 Tryd.underlying5 rfl rfl (fun g33 n34 w35 (hm36 : Mm none w w35 [.blk g5 (pq p) 25, .blk g13 (pq q) 25, .blk g23 (pq (addP p q)) 25, .blk g33 (bcells (packS (negP p)) n34) 5]) => ?_))
  simp only [List.setIfInBounds_toArray, List.set_cons_zero, List.set_cons_succ]
  refine lst (wanted_none rfl) (w_value 10 (.slice (some ⟨g33, 0, none⟩) ((packS (negP p)).size) ((packS (negP p)).size + n34)) rfl (run_as rfl rfl) ?_)
  simp only [List.setIfInBounds_toArray, List.set_cons_zero, List.set_cons_succ]
  refine wpList_nil ?_
  refine then_n (hK28 _ _ ?_)
  refine wp_seq_k (fun K37 hK37 => ?_)
  refine wp_region_lit ?_
  refine lst (wanted_none rfl) (w_value 36 (.string a) rfl (run_mv rfl rfl) ?_)
  simp only [List.setIfInBounds_toArray, List.set_cons_zero, List.set_cons_succ]
  refine lst (wanted_none rfl) (m_bytes a hm36 37 rfl Tryd.underlying9 Tryd.underlying42 Tryd.underlying5 rfl rfl (fun g38 n39 w40 (hm41 : Mm none w w40 [.blk g5 (pq p) 25, .blk g13 (pq q) 25, .blk g23 (pq (addP p q)) 25, .blk g33 (bcells (packS (negP p)) n34) 5, .blk g38 (bcells a n39) 5]) => ?_))
  simp only [List.setIfInBounds_toArray, List.set_cons_zero, List.set_cons_succ]
  refine lst (wanted_none rfl) (w_value 11 (.slice (some ⟨g38, 0, none⟩) a.size (a.size + n39)) rfl (run_as rfl rfl) ?_)
  simp only [List.setIfInBounds_toArray, List.set_cons_zero, List.set_cons_succ]
  refine wpList_nil ?_
  refine then_n (hK37 _ _ ?_)
  refine wp_seq_k (fun K42 hK42 => ?_)
  refine wp_mono (Q := fun e a' w' => e = Exit.normal ∧ a' = ⟨#[.string a, .string b, undef, undef, .bool false, .pointer (some ⟨g5, 0, none⟩), .bool true, .pointer (some ⟨g13, 0, none⟩), .bool true, .pointer (some ⟨g23, 0, none⟩), .slice (some ⟨g33, 0, none⟩) ((packS (negP p)).size) ((packS (negP p)).size + n34), .slice (some ⟨g38, 0, none⟩) a.size (a.size + n39), .tuple #[.agg (pq p), .bool true], .string a, .tuple #[.agg (pq p), .bool true], .agg (pq p), .bool true, .tuple #[.agg (pq q), .bool true], .string b, .tuple #[.agg (pq q), .bool true], .agg (pq q), .bool true, .bool true, .bool false, .bool false, .bool true, .bool false, .bool false, undef, .agg (pq p), .agg (pq q), .agg (pq (addP p q)), .agg (pq p), .agg (pq (negP p)), .string (packS (negP p)), .slice (some ⟨g33, 0, none⟩) ((packS (negP p)).size) ((packS (negP p)).size + n34), .string a, .slice (some ⟨g38, 0, none⟩) a.size (a.size + n39), .slice (some ⟨g33, 0, none⟩) ((packS (negP p)).size) ((packS (negP p)).size + n34), .slice (some ⟨g38, 0, none⟩) a.size (a.size + n39), .slice (some ⟨g33, 0, none⟩) ((packS (negP p)).size) ((packS (negP p)).size + n34), .pointer (some ⟨g33, 31, none⟩), .int .u8 ((sb (packS (negP p)) 31 : Nat) : Int), .int .u8 (((sb (packS (negP p)) 31 % 128) : Nat) : Int), .slice (some ⟨g38, 0, none⟩) a.size (a.size + n39), .pointer (some ⟨g38, 31, none⟩), .int .u8 ((sb a 31 : Nat) : Int), .int .u8 (((sb a 31 % 128) : Nat) : Int), .pointer (some ⟨g33, 31, none⟩), .pointer (some ⟨g38, 31, none⟩), undef, undef, undef, undef, undef, undef, undef, undef, undef, undef, undef, undef, undef, undef, undef, undef, undef, undef, undef, undef, undef, undef, undef, undef, undef, undef, undef], []⟩ ∧ Mm none w w' [.blk g5 (pq p) 25, .blk g13 (pq q) 25, .blk g23 (pq (addP p q)) 25, .blk g33 (into (bcells (packS (negP p)) n34) 31 #[.int .u8 (((sb (packS (negP p)) 31 % 128) : Nat) : Int)]) 5, .blk g38 (into (bcells a n39) 31 #[.int .u8 (((sb a 31 % 128) : Nat) : Int)]) 5]) ?_ ?_
  · have hm43 := hm41.drew
    refine wp_region_held_drew (S := fun w' => True) (by kernel_rfl) (trivial) (fun _ => ?_)
    generalize w40.drew = w44 at *
    refine Sym.take_at 0 38 (.slice (some ⟨g33, 0, none⟩) ((packS (negP p)).size) ((packS (negP p)).size + n34)) rfl rfl (by kernel_rfl) (by kernel_rfl) (by kernel_rfl) (fun _ _ _ h => nomatch h.1) rfl (fun _ hw => run_mv rfl rfl) (trivial) ?_
    simp only [List.setIfInBounds_toArray, List.set_cons_zero, List.set_cons_succ]
    refine Sym.take_at 1 39 (.slice (some ⟨g38, 0, none⟩) a.size (a.size + n39)) rfl rfl (by kernel_rfl) (by kernel_rfl) (by kernel_rfl) (fun _ _ _ h => nomatch h.1) rfl (fun _ hw => run_mv rfl rfl) (trivial) ?_
    simp only [List.setIfInBounds_toArray, List.set_cons_zero, List.set_cons_succ]
    refine Sym.take_at 2 40 (.slice (some ⟨g33, 0, none⟩) ((packS (negP p)).size) ((packS (negP p)).size + n34)) rfl rfl (by kernel_rfl) (by kernel_rfl) (by kernel_rfl) (fun _ _ _ h => nomatch h.1) rfl (fun _ hw => run_mv rfl rfl) (trivial) ?_
    simp only [List.setIfInBounds_toArray, List.set_cons_zero, List.set_cons_succ]
    refine Sym.take_at 3 41 (.pointer (some ⟨g33, 31, none⟩)) rfl rfl (by kernel_rfl) (by kernel_rfl) (by kernel_rfl) (fun _ _ _ h => nomatch h.1) rfl (fun _ hw => r_ixS g33 0 31 ((packS (negP p)).size) ((packS (negP p)).size + n34) 1 (by rw [z1]; decide) Tryd.underlying42 one_u8 rfl rfl rfl) (trivial) ?_
    simp only [List.setIfInBounds_toArray, List.set_cons_zero, List.set_cons_succ]
    refine Sym.take_at 6 44 (.slice (some ⟨g38, 0, none⟩) a.size (a.size + n39)) rfl rfl (by kernel_rfl) (by kernel_rfl) (by kernel_rfl) (fun _ _ _ h => nomatch h.1) rfl (fun _ hw => run_mv rfl rfl) (trivial) ?_
    simp only [List.setIfInBounds_toArray, List.set_cons_zero, List.set_cons_succ]
    refine Sym.take_at 7 45 (.pointer (some ⟨g38, 31, none⟩)) rfl rfl (by kernel_rfl) (by kernel_rfl) (by kernel_rfl) (fun _ _ _ h => nomatch h.1) rfl (fun _ hw => r_ixS g38 0 31 a.size (a.size + n39) 1 (by rw [z2]; decide) Tryd.underlying42 one_u8 rfl rfl rfl) (trivial) ?_
    simp only [List.setIfInBounds_toArray, List.set_cons_zero, List.set_cons_succ]
    refine two_ready 4 8 (by kernel_rfl) ?_ ?_
    · refine opd rfl rfl (w_value 42 (.int .u8 ((sb (packS (negP p)) 31 : Nat) : Int)) rfl (r_load (hm43.at 3 rfl) (bc_at (packS (negP p)) n34 31 (by rw [z1]; decide)) Tryd.underlying5 rfl rfl rfl) ⟨trivial, ?_⟩)
      simp only [List.setIfInBounds_toArray, List.set_cons_zero, List.set_cons_succ]
      refine Sym.take_at 5 43 (.int .u8 (((sb (packS (negP p)) 31 % 128) : Nat) : Int)) rfl rfl (by kernel_rfl) (by kernel_rfl) (by kernel_rfl) (fun _ _ _ h => nomatch h.1) rfl (fun _ hw => r_andx (sb (packS (negP p)) 31) 127 8 (sb (packS (negP p)) 31 % 128) (by decide) (sb_lt _ _) (by decide) (and_127 _) rfl rfl rfl) (trivial) ?_
      simp only [List.setIfInBounds_toArray, List.set_cons_zero, List.set_cons_succ]
      refine one_ready 8 (by kernel_rfl) ?_
      refine opd rfl rfl (w_value 46 (.int .u8 ((sb a 31 : Nat) : Int)) rfl (r_load (hm43.at 4 rfl) (bc_at a n39 31 (by rw [z2]; decide)) Tryd.underlying5 rfl rfl rfl) ⟨trivial, ?_⟩)
      simp only [List.setIfInBounds_toArray, List.set_cons_zero, List.set_cons_succ]
      refine Sym.take_at 9 47 (.int .u8 (((sb a 31 % 128) : Nat) : Int)) rfl rfl (by kernel_rfl) (by kernel_rfl) (by kernel_rfl) (fun _ _ _ h => nomatch h.1) rfl (fun _ hw => r_andx (sb a 31) 127 8 (sb a 31 % 128) (by decide) (sb_lt _ _) (by decide) (and_127 _) rfl rfl rfl) (trivial) ?_
      simp only [List.setIfInBounds_toArray, List.set_cons_zero, List.set_cons_succ]
      refine Sym.take_at 10 48 (.pointer (some ⟨g33, 31, none⟩)) rfl rfl (by kernel_rfl) (by kernel_rfl) (by kernel_rfl) (fun _ _ _ h => nomatch h.1) rfl (fun _ hw => r_ixS g33 0 31 ((packS (negP p)).size) ((packS (negP p)).size + n34) 1 (by rw [z1]; decide) Tryd.underlying42 one_u8 rfl rfl rfl) (trivial) ?_
      simp only [List.setIfInBounds_toArray, List.set_cons_zero, List.set_cons_succ]
      refine one_ready 11 (by kernel_rfl) ?_
      refine opd rfl rfl (m_store 3 5 _ _ 31 (.int .u8 (((sb (packS (negP p)) 31 % 128) : Nat) : Int)) (old := bcells (packS (negP p)) n34) (new := into (bcells (packS (negP p)) n34) 31 #[.int .u8 (((sb (packS (negP p)) 31 % 128) : Nat) : Int)]) hm43 rfl rfl rfl rfl rfl one_u8 (by show 31 + 1 ≤ _; rw [bc_sz]; omega) (one_all rfl) rfl (fun w45 hm46 => ?_))
      refine ⟨trivial, ?_⟩
      refine Sym.take_at 12 49 (.pointer (some ⟨g38, 31, none⟩)) rfl rfl (by kernel_rfl) (by kernel_rfl) (by kernel_rfl) (fun _ _ _ h => nomatch h.1) rfl (fun _ hw => r_ixS g38 0 31 a.size (a.size + n39) 1 (by rw [z2]; decide) Tryd.underlying42 one_u8 rfl rfl rfl) (trivial) ?_
      simp only [List.setIfInBounds_toArray, List.set_cons_zero, List.set_cons_succ]
      refine one_ready 13 (by kernel_rfl) ?_
      refine opd rfl rfl (m_store 4 5 _ _ 31 (.int .u8 (((sb a 31 % 128) : Nat) : Int)) (old := bcells a n39) (new := into (bcells a n39) 31 #[.int .u8 (((sb a 31 % 128) : Nat) : Int)]) hm46 rfl rfl rfl rfl rfl one_u8 (by show 31 + 1 ≤ _; rw [bc_sz]; omega) (one_all rfl) rfl (fun w47 hm48 => ?_))
      refine ⟨trivial, ?_⟩
      refine wpAnyH_done (by kernel_rfl) ?_ _
      exact ⟨rfl, rfl, hm48⟩
    · refine opd rfl rfl (w_value 46 (.int .u8 ((sb a 31 : Nat) : Int)) rfl (r_load (hm43.at 4 rfl) (bc_at a n39 31 (by rw [z2]; decide)) Tryd.underlying5 rfl rfl rfl) ⟨trivial, ?_⟩)
      simp only [List.setIfInBounds_toArray, List.set_cons_zero, List.set_cons_succ]
      refine Sym.take_at 9 47 (.int .u8 (((sb a 31 % 128) : Nat) : Int)) rfl rfl (by kernel_rfl) (by kernel_rfl) (by kernel_rfl) (fun _ _ _ h => nomatch h.1) rfl (fun _ hw => r_andx (sb a 31) 127 8 (sb a 31 % 128) (by decide) (sb_lt _ _) (by decide) (and_127 _) rfl rfl rfl) (trivial) ?_
      simp only [List.setIfInBounds_toArray, List.set_cons_zero, List.set_cons_succ]
      refine one_ready 4 (by kernel_rfl) ?_
      refine opd rfl rfl (w_value 42 (.int .u8 ((sb (packS (negP p)) 31 : Nat) : Int)) rfl (r_load (hm43.at 3 rfl) (bc_at (packS (negP p)) n34 31 (by rw [z1]; decide)) Tryd.underlying5 rfl rfl rfl) ⟨trivial, ?_⟩)
      simp only [List.setIfInBounds_toArray, List.set_cons_zero, List.set_cons_succ]
      refine Sym.take_at 5 43 (.int .u8 (((sb (packS (negP p)) 31 % 128) : Nat) : Int)) rfl rfl (by kernel_rfl) (by kernel_rfl) (by kernel_rfl) (fun _ _ _ h => nomatch h.1) rfl (fun _ hw => r_andx (sb (packS (negP p)) 31) 127 8 (sb (packS (negP p)) 31 % 128) (by decide) (sb_lt _ _) (by decide) (and_127 _) rfl rfl rfl) (trivial) ?_
      simp only [List.setIfInBounds_toArray, List.set_cons_zero, List.set_cons_succ]
      refine Sym.take_at 10 48 (.pointer (some ⟨g33, 31, none⟩)) rfl rfl (by kernel_rfl) (by kernel_rfl) (by kernel_rfl) (fun _ _ _ h => nomatch h.1) rfl (fun _ hw => r_ixS g33 0 31 ((packS (negP p)).size) ((packS (negP p)).size + n34) 1 (by rw [z1]; decide) Tryd.underlying42 one_u8 rfl rfl rfl) (trivial) ?_
      simp only [List.setIfInBounds_toArray, List.set_cons_zero, List.set_cons_succ]
      refine one_ready 11 (by kernel_rfl) ?_
      refine opd rfl rfl (m_store 3 5 _ _ 31 (.int .u8 (((sb (packS (negP p)) 31 % 128) : Nat) : Int)) (old := bcells (packS (negP p)) n34) (new := into (bcells (packS (negP p)) n34) 31 #[.int .u8 (((sb (packS (negP p)) 31 % 128) : Nat) : Int)]) hm43 rfl rfl rfl rfl rfl one_u8 (by show 31 + 1 ≤ _; rw [bc_sz]; omega) (one_all rfl) rfl (fun w49 hm50 => ?_))
      refine ⟨trivial, ?_⟩
      refine Sym.take_at 12 49 (.pointer (some ⟨g38, 31, none⟩)) rfl rfl (by kernel_rfl) (by kernel_rfl) (by kernel_rfl) (fun _ _ _ h => nomatch h.1) rfl (fun _ hw => r_ixS g38 0 31 a.size (a.size + n39) 1 (by rw [z2]; decide) Tryd.underlying42 one_u8 rfl rfl rfl) (trivial) ?_
      simp only [List.setIfInBounds_toArray, List.set_cons_zero, List.set_cons_succ]
      refine one_ready 13 (by kernel_rfl) ?_
      refine opd rfl rfl (m_store 4 5 _ _ 31 (.int .u8 (((sb a 31 % 128) : Nat) : Int)) (old := bcells a n39) (new := into (bcells a n39) 31 #[.int .u8 (((sb a 31 % 128) : Nat) : Int)]) hm50 rfl rfl rfl rfl rfl one_u8 (by show 31 + 1 ≤ _; rw [bc_sz]; omega) (one_all rfl) rfl (fun w51 hm52 => ?_))
      refine ⟨trivial, ?_⟩
      refine wpAnyH_done (by kernel_rfl) ?_ _
      exact ⟨rfl, rfl, hm52⟩
  clear hm41
  rintro _ _ w53 ⟨rfl, rfl, hm54⟩
  refine then_n (hK42 _ _ ?_)
  refine wp_seq_k (fun K55 hK55 => ?_)
  have hm56 := hm54.drew
  refine wp_region_held_drew (S := fun w' => Mem.Blk w' g5 (pq p) 25 ∧ Mem.Blk w' g13 (pq q) 25 ∧ Mem.Blk w' g23 (pq (addP p q)) 25 ∧ Mem.Blk w' g33 (into (bcells (packS (negP p)) n34) 31 #[.int .u8 (((sb (packS (negP p)) 31 % 128) : Nat) : Int)]) 5 ∧ Mem.Blk w' g38 (into (bcells a n39) 31 #[.int .u8 (((sb a 31 % 128) : Nat) : Int)]) 5) (by kernel_rfl) (⟨hm56.at 0 rfl, hm56.at 1 rfl, hm56.at 2 rfl, hm56.at 3 rfl, hm56.at 4 rfl⟩) (fun _ => ?_)
  generalize w53.drew = w57 at *
  refine one_ready 0 (by kernel_rfl) ?_
  refine opd rfl (wanted_none rfl) (m_call hm56 50 (.bool true) rfl (run_awake5 rfl) (awake5_any _ (kept hd hm56.below)) (fun w58 hm59 => ?_))
  refine ⟨⟨hm59.at 0 rfl, hm59.at 1 rfl, hm59.at 2 rfl, hm59.at 3 rfl, hm59.at 4 rfl⟩, ?_⟩
  simp only [List.setIfInBounds_toArray, List.set_cons_zero, List.set_cons_succ]
  refine Sym.take_at 1 51 (.bool true) rfl rfl (by kernel_rfl) (by kernel_rfl) (by kernel_rfl) (fun _ _ _ h => h) (wanted_none rfl) (fun _ hw => run_mv rfl rfl) (⟨hm59.at 0 rfl, hm59.at 1 rfl, hm59.at 2 rfl, hm59.at 3 rfl, hm59.at 4 rfl⟩) ?_
  simp only [List.setIfInBounds_toArray, List.set_cons_zero, List.set_cons_succ]
  refine Sym.take_at 2 52 (.agg (pq p)) rfl rfl (by kernel_rfl) (by kernel_rfl) (by kernel_rfl) (fun _ _ _ h => h) rfl (fun _ hw => r_whole hw.1 Tryd.underlying25 rfl (by show _ = some (pq p).size; rw [pq_sz]; exact info_p) rfl rfl) (⟨hm59.at 0 rfl, hm59.at 1 rfl, hm59.at 2 rfl, hm59.at 3 rfl, hm59.at 4 rfl⟩) ?_
  simp only [List.setIfInBounds_toArray, List.set_cons_zero, List.set_cons_succ]
  refine Sym.take_at 3 53 (.agg (pq q)) rfl rfl (by kernel_rfl) (by kernel_rfl) (by kernel_rfl) (fun _ _ _ h => h) rfl (fun _ hw => r_whole hw.2.1 Tryd.underlying25 rfl (by show _ = some (pq q).size; rw [pq_sz]; exact info_p) rfl rfl) (⟨hm59.at 0 rfl, hm59.at 1 rfl, hm59.at 2 rfl, hm59.at 3 rfl, hm59.at 4 rfl⟩) ?_
  simp only [List.setIfInBounds_toArray, List.set_cons_zero, List.set_cons_succ]
  refine Sym.take_at 5 55 (.string a) rfl rfl (by kernel_rfl) (by kernel_rfl) (by kernel_rfl) (fun _ _ _ h => h) rfl (fun _ hw => run_mv rfl rfl) (⟨hm59.at 0 rfl, hm59.at 1 rfl, hm59.at 2 rfl, hm59.at 3 rfl, hm59.at 4 rfl⟩) ?_
  simp only [List.setIfInBounds_toArray, List.set_cons_zero, List.set_cons_succ]
  refine Sym.take_at 6 56 (.string b) rfl rfl (by kernel_rfl) (by kernel_rfl) (by kernel_rfl) (fun _ _ _ h => h) rfl (fun _ hw => run_mv rfl rfl) (⟨hm59.at 0 rfl, hm59.at 1 rfl, hm59.at 2 rfl, hm59.at 3 rfl, hm59.at 4 rfl⟩) ?_
  simp only [List.setIfInBounds_toArray, List.set_cons_zero, List.set_cons_succ]
  refine Sym.take_at 7 57 (.bool ((decide (a = b)))) rfl rfl (by kernel_rfl) (by kernel_rfl) (by kernel_rfl) (fun _ _ _ h => h) rfl (fun _ hw => r_eqlS a b (decide (a = b)) rfl rfl rfl rfl) (⟨hm59.at 0 rfl, hm59.at 1 rfl, hm59.at 2 rfl, hm59.at 3 rfl, hm59.at 4 rfl⟩) ?_
  simp only [List.setIfInBounds_toArray, List.set_cons_zero, List.set_cons_succ]
  refine one_ready 4 (by kernel_rfl) ?_
  refine opd rfl rfl (m_call hm59 54 (.bool ((decide (a = b)))) rfl (run_pSame rfl rfl rfl) (same_c p q hp hq (decide (a = b)) (decide_eq_decide.2 G1) _) (fun w60 hm61 => ?_))
  refine ⟨⟨hm61.at 0 rfl, hm61.at 1 rfl, hm61.at 2 rfl, hm61.at 3 rfl, hm61.at 4 rfl⟩, ?_⟩
  simp only [List.setIfInBounds_toArray, List.set_cons_zero, List.set_cons_succ]
  refine Sym.take_at 8 58 (.bool true) rfl rfl (by kernel_rfl) (by kernel_rfl) (by kernel_rfl) (fun _ _ _ h => h) rfl (fun _ hw => r_eqlB ((decide (a = b))) ((decide (a = b))) true (by exact beq_self_eq_true _) rfl rfl rfl) (⟨hm61.at 0 rfl, hm61.at 1 rfl, hm61.at 2 rfl, hm61.at 3 rfl, hm61.at 4 rfl⟩) ?_
  simp only [List.setIfInBounds_toArray, List.set_cons_zero, List.set_cons_succ]
  refine Sym.take_at 9 59 (.bool true) rfl rfl (by kernel_rfl) (by kernel_rfl) (by kernel_rfl) (fun _ _ _ h => h) (wanted_none rfl) (fun _ hw => run_pick rfl rfl rfl) (⟨hm61.at 0 rfl, hm61.at 1 rfl, hm61.at 2 rfl, hm61.at 3 rfl, hm61.at 4 rfl⟩) ?_
  simp only [List.setIfInBounds_toArray, List.set_cons_zero, List.set_cons_succ]
  refine Sym.take_at 10 60 (.bool true) rfl rfl (by kernel_rfl) (by kernel_rfl) (by kernel_rfl) (fun _ _ _ h => h) (wanted_none rfl) (fun _ hw => run_mv rfl rfl) (⟨hm61.at 0 rfl, hm61.at 1 rfl, hm61.at 2 rfl, hm61.at 3 rfl, hm61.at 4 rfl⟩) ?_
  simp only [List.setIfInBounds_toArray, List.set_cons_zero, List.set_cons_succ]
  refine Sym.take_at 11 61 (.agg (pq (addP p q))) rfl rfl (by kernel_rfl) (by kernel_rfl) (by kernel_rfl) (fun _ _ _ h => h) rfl (fun _ hw => r_whole hw.2.2.1 Tryd.underlying25 rfl (by show _ = some (pq (addP p q)).size; rw [pq_sz]; exact info_p) rfl rfl) (⟨hm61.at 0 rfl, hm61.at 1 rfl, hm61.at 2 rfl, hm61.at 3 rfl, hm61.at 4 rfl⟩) ?_
  simp only [List.setIfInBounds_toArray, List.set_cons_zero, List.set_cons_succ]
  refine Sym.take_at 13 63 (.string a) rfl rfl (by kernel_rfl) (by kernel_rfl) (by kernel_rfl) (fun _ _ _ h => h) rfl (fun _ hw => run_mv rfl rfl) (⟨hm61.at 0 rfl, hm61.at 1 rfl, hm61.at 2 rfl, hm61.at 3 rfl, hm61.at 4 rfl⟩) ?_
  simp only [List.setIfInBounds_toArray, List.set_cons_zero, List.set_cons_succ]
  refine Sym.take_at 15 65 (.agg (pq (addP p q))) rfl rfl (by kernel_rfl) (by kernel_rfl) (by kernel_rfl) (fun _ _ _ h => h) rfl (fun _ hw => r_whole hw.2.2.1 Tryd.underlying25 rfl (by show _ = some (pq (addP p q)).size; rw [pq_sz]; exact info_p) rfl rfl) (⟨hm61.at 0 rfl, hm61.at 1 rfl, hm61.at 2 rfl, hm61.at 3 rfl, hm61.at 4 rfl⟩) ?_
  simp only [List.setIfInBounds_toArray, List.set_cons_zero, List.set_cons_succ]
  refine Sym.take_at 16 66 (.agg (pq p)) rfl rfl (by kernel_rfl) (by kernel_rfl) (by kernel_rfl) (fun _ _ _ h => h) rfl (fun _ hw => r_whole hw.1 Tryd.underlying25 rfl (by show _ = some (pq p).size; rw [pq_sz]; exact info_p) rfl rfl) (⟨hm61.at 0 rfl, hm61.at 1 rfl, hm61.at 2 rfl, hm61.at 3 rfl, hm61.at 4 rfl⟩) ?_
  simp only [List.setIfInBounds_toArray, List.set_cons_zero, List.set_cons_succ]
  refine one_ready 12 (by kernel_rfl) ?_
  refine opd rfl rfl (m_call hm61 62 (.string (packS (addP p q))) rfl (run_pPack rfl rfl) (pack_p (addP p q) (addP_ok _ _) _) (fun w62 hm63 => ?_))
  refine ⟨⟨hm63.at 0 rfl, hm63.at 1 rfl, hm63.at 2 rfl, hm63.at 3 rfl, hm63.at 4 rfl⟩, ?_⟩
  simp only [List.setIfInBounds_toArray, List.set_cons_zero, List.set_cons_succ]
  refine Sym.take_at 14 64 (.bool ((decide (packS (addP p q) = a)))) rfl rfl (by kernel_rfl) (by kernel_rfl) (by kernel_rfl) (fun _ _ _ h => h) rfl (fun _ hw => r_eqlS (packS (addP p q)) a (decide (packS (addP p q) = a)) rfl rfl rfl rfl) (⟨hm63.at 0 rfl, hm63.at 1 rfl, hm63.at 2 rfl, hm63.at 3 rfl, hm63.at 4 rfl⟩) ?_
  simp only [List.setIfInBounds_toArray, List.set_cons_zero, List.set_cons_succ]
  refine one_ready 17 (by kernel_rfl) ?_
  refine opd rfl rfl (m_call hm63 67 (.bool ((decide (packS (addP p q) = a)))) rfl (run_pSame rfl rfl rfl) (same_c (addP p q) p (addP_ok _ _) hp (decide (packS (addP p q) = a)) (decide_eq_decide.2 G2.symm) _) (fun w64 hm65 => ?_))
  refine ⟨⟨hm65.at 0 rfl, hm65.at 1 rfl, hm65.at 2 rfl, hm65.at 3 rfl, hm65.at 4 rfl⟩, ?_⟩
  simp only [List.setIfInBounds_toArray, List.set_cons_zero, List.set_cons_succ]
  refine Sym.take_at 18 68 (.bool true) rfl rfl (by kernel_rfl) (by kernel_rfl) (by kernel_rfl) (fun _ _ _ h => h) rfl (fun _ hw => r_eqlB ((decide (packS (addP p q) = a))) ((decide (packS (addP p q) = a))) true (by exact beq_self_eq_true _) rfl rfl rfl) (⟨hm65.at 0 rfl, hm65.at 1 rfl, hm65.at 2 rfl, hm65.at 3 rfl, hm65.at 4 rfl⟩) ?_
  simp only [List.setIfInBounds_toArray, List.set_cons_zero, List.set_cons_succ]
  refine Sym.take_at 19 69 (.bool true) rfl rfl (by kernel_rfl) (by kernel_rfl) (by kernel_rfl) (fun _ _ _ h => h) (wanted_none rfl) (fun _ hw => run_pick rfl rfl rfl) (⟨hm65.at 0 rfl, hm65.at 1 rfl, hm65.at 2 rfl, hm65.at 3 rfl, hm65.at 4 rfl⟩) ?_
  simp only [List.setIfInBounds_toArray, List.set_cons_zero, List.set_cons_succ]
  refine Sym.take_at 20 70 (.bool true) rfl rfl (by kernel_rfl) (by kernel_rfl) (by kernel_rfl) (fun _ _ _ h => h) (wanted_none rfl) (fun _ hw => run_mv rfl rfl) (⟨hm65.at 0 rfl, hm65.at 1 rfl, hm65.at 2 rfl, hm65.at 3 rfl, hm65.at 4 rfl⟩) ?_
  simp only [List.setIfInBounds_toArray, List.set_cons_zero, List.set_cons_succ]
  refine Sym.take_at 21 71 (.slice (some ⟨g33, 0, none⟩) ((packS (negP p)).size) ((packS (negP p)).size + n34)) rfl rfl (by kernel_rfl) (by kernel_rfl) (by kernel_rfl) (fun _ _ _ h => h) rfl (fun _ hw => run_mv rfl rfl) (⟨hm65.at 0 rfl, hm65.at 1 rfl, hm65.at 2 rfl, hm65.at 3 rfl, hm65.at 4 rfl⟩) ?_
  simp only [List.setIfInBounds_toArray, List.set_cons_zero, List.set_cons_succ]
  refine Sym.take_at 22 72 (.string (cutS (packS (negP p)))) rfl rfl (by kernel_rfl) (by kernel_rfl) (by kernel_rfl) (fun _ _ _ h => h) rfl (fun _ hw => r_string (cutS (packS (negP p))) 0 ((packS (negP p)).size) ((packS (negP p)).size + n34) hw.2.2.2.1 ((cut_sz (packS (negP p))).trans z1.symm) (cut_at (packS (negP p)) n34 z1) Tryd.underlying42 Tryd.underlying5 Tryd.underlying9 rfl rfl) (⟨hm65.at 0 rfl, hm65.at 1 rfl, hm65.at 2 rfl, hm65.at 3 rfl, hm65.at 4 rfl⟩) ?_
  simp only [List.setIfInBounds_toArray, List.set_cons_zero, List.set_cons_succ]
  refine Sym.take_at 23 73 (.slice (some ⟨g38, 0, none⟩) a.size (a.size + n39)) rfl rfl (by kernel_rfl) (by kernel_rfl) (by kernel_rfl) (fun _ _ _ h => h) rfl (fun _ hw => run_mv rfl rfl) (⟨hm65.at 0 rfl, hm65.at 1 rfl, hm65.at 2 rfl, hm65.at 3 rfl, hm65.at 4 rfl⟩) ?_
  simp only [List.setIfInBounds_toArray, List.set_cons_zero, List.set_cons_succ]
  refine Sym.take_at 24 74 (.string (cutS a)) rfl rfl (by kernel_rfl) (by kernel_rfl) (by kernel_rfl) (fun _ _ _ h => h) rfl (fun _ hw => r_string (cutS a) 0 a.size (a.size + n39) hw.2.2.2.2 ((cut_sz a).trans z2.symm) (cut_at a n39 z2) Tryd.underlying42 Tryd.underlying5 Tryd.underlying9 rfl rfl) (⟨hm65.at 0 rfl, hm65.at 1 rfl, hm65.at 2 rfl, hm65.at 3 rfl, hm65.at 4 rfl⟩) ?_
  simp only [List.setIfInBounds_toArray, List.set_cons_zero, List.set_cons_succ]
  refine Sym.take_at 25 75 (.bool true) rfl rfl (by kernel_rfl) (by kernel_rfl) (by kernel_rfl) (fun _ _ _ h => h) rfl (fun _ hw => r_eqlS (cutS (packS (negP p))) (cutS a) true (decide_eq_true G3) rfl rfl rfl) (⟨hm65.at 0 rfl, hm65.at 1 rfl, hm65.at 2 rfl, hm65.at 3 rfl, hm65.at 4 rfl⟩) ?_
  simp only [List.setIfInBounds_toArray, List.set_cons_zero, List.set_cons_succ]
  refine Sym.take_at 26 76 (.bool true) rfl rfl (by kernel_rfl) (by kernel_rfl) (by kernel_rfl) (fun _ _ _ h => h) (wanted_none rfl) (fun _ hw => run_pick rfl rfl rfl) (⟨hm65.at 0 rfl, hm65.at 1 rfl, hm65.at 2 rfl, hm65.at 3 rfl, hm65.at 4 rfl⟩) ?_
  simp only [List.setIfInBounds_toArray, List.set_cons_zero, List.set_cons_succ]
  refine one_ready 27 (by kernel_rfl) ?_
  refine opd rfl (wanted_none rfl) (w_value 4 (.bool true) rfl (run_as rfl rfl) ⟨⟨hm65.at 0 rfl, hm65.at 1 rfl, hm65.at 2 rfl, hm65.at 3 rfl, hm65.at 4 rfl⟩, ?_⟩)
  simp only [List.setIfInBounds_toArray, List.set_cons_zero, List.set_cons_succ]
  refine wpAnyH_done (by kernel_rfl) ?_ _
  refine then_n (hK55 _ _ ?_)
  refine wp_ret ?_
  exact ⟨rfl, .bool true, res_t rfl rfl, ⟨rfl, hm65.below⟩⟩
set_option maxHeartbeats 4000000 in
set_option maxRecDepth 100000 in
theorem walk_sn (a : ByteArray) (p : Pn) (ha : unP a = some p) (hp : p.ok) (b : ByteArray) (hb : unP b = none)  (w : World) (hd : DD w) : Calls Tryd.prog 8 #[.string a, .string b] w (fun e w' => e = .returned (.bool true) ∧ Below w.heap.size w w') := by
  go_enter Tryd.func8, Tryd.ntmps8
  have hm0 := Mm.nil none w
  refine wp_seq_k (fun K1 hK1 => ?_)
  refine wp_region_lit ?_
  refine lst (wanted_none rfl) (w_value 4 (.bool false) rfl (run_as rfl rfl) ?_)
  simp only [List.setIfInBounds_toArray, List.set_cons_zero, List.set_cons_succ]
  refine wpList_nil ?_
  refine then_n (hK1 _ _ ?_)
  refine wp_seq_k (fun K2 hK2 => ?_)
  refine wp_region_lit ?_
  refine lst (wanted_none rfl) (w_value 13 (.string a) rfl (run_mv rfl rfl) ?_)
  simp only [List.setIfInBounds_toArray, List.set_cons_zero, List.set_cons_succ]
  refine lst (wanted_none rfl) (m_call hm0 14 (.tuple #[.agg (pq p), .bool true]) rfl (run_pUnpack rfl rfl) (un_at a p ha _ (kept hd hm0.below)) (fun w3 hm4 => ?_))
  simp only [List.setIfInBounds_toArray, List.set_cons_zero, List.set_cons_succ]
  refine lst (wanted_none rfl) (w_value 12 (.tuple #[.agg (pq p), .bool true]) rfl (run_mv rfl rfl) ?_)
  simp only [List.setIfInBounds_toArray, List.set_cons_zero, List.set_cons_succ]
  refine lst (wanted_none rfl) (w_value 15 (.agg (pq p)) rfl (run_ex rfl rfl rfl) ?_)
  simp only [List.setIfInBounds_toArray, List.set_cons_zero, List.set_cons_succ]
  refine lst (wanted_none rfl) (w_value 16 (.bool true) rfl (run_ex rfl rfl rfl) ?_)
  simp only [List.setIfInBounds_toArray, List.set_cons_zero, List.set_cons_succ]
  refine lst (wanted_none rfl) (m_alloc (c := pt 0 0 0 0) (T := 25) hm4 5 rfl (al_P rfl) (fun g5 w6 (hm7 : Mm none w w6 [.blk g5 (pt 0 0 0 0) 25]) => ?_))
  simp only [List.setIfInBounds_toArray, List.set_cons_zero, List.set_cons_succ]
  refine lst (wanted_none rfl) (m_store 0 25 _ _ 0 (.agg (pq p)) (old := pt 0 0 0 0) (new := pq p) hm7 rfl rfl rfl rfl rfl (by show _ = some (pq p).size; rw [pq_sz]; exact info_p) (by rw [Nat.zero_add]; exact Nat.le_of_eq ((pq_sz _).trans (pt_sz _ _ _ _).symm)) (pq_one _) (into_all _ _ ((pt_sz _ _ _ _).trans (pq_sz _).symm)) (fun w8 (hm9 : Mm none w w8 [.blk g5 (pq p) 25]) => ?_))
  refine lst (wanted_none rfl) (w_value 6 (.bool true) rfl (run_as rfl rfl) ?_)
  simp only [List.setIfInBounds_toArray, List.set_cons_zero, List.set_cons_succ]
  refine wpList_nil ?_
  refine then_n (hK2 _ _ ?_)
  refine wp_seq_k (fun K10 hK10 => ?_)
  refine wp_region_lit ?_
  refine lst (wanted_none rfl) (w_value 18 (.string b) rfl (run_mv rfl rfl) ?_)
  simp only [List.setIfInBounds_toArray, List.set_cons_zero, List.set_cons_succ]
  refine lst (wanted_none rfl) (m_call hm9 19 (.tuple #[.agg (pt 0 0 0 0), .bool false]) rfl (run_pUnpack rfl rfl) (un_no b hb _ (kept hd hm9.below)) (fun w11 hm12 => ?_))
  simp only [List.setIfInBounds_toArray, List.set_cons_zero, List.set_cons_succ]
  refine lst (wanted_none rfl) (w_value 17 (.tuple #[.agg (pt 0 0 0 0), .bool false]) rfl (run_mv rfl rfl) ?_)
  simp only [List.setIfInBounds_toArray, List.set_cons_zero, List.set_cons_succ]
  refine lst (wanted_none rfl) (w_value 20 (.agg (pt 0 0 0 0)) rfl (run_ex rfl rfl rfl) ?_)
  simp only [List.setIfInBounds_toArray, List.set_cons_zero, List.set_cons_succ]
  refine lst (wanted_none rfl) (w_value 21 (.bool false) rfl (run_ex rfl rfl rfl) ?_)
  simp only [List.setIfInBounds_toArray, List.set_cons_zero, List.set_cons_succ]
  refine lst (wanted_none rfl) (m_alloc (c := pt 0 0 0 0) (T := 25) hm12 7 rfl (al_P rfl) (fun g13 w14 (hm15 : Mm none w w14 [.blk g5 (pq p) 25, .blk g13 (pt 0 0 0 0) 25]) => ?_))
  simp only [List.setIfInBounds_toArray, List.set_cons_zero, List.set_cons_succ]
  refine lst (wanted_none rfl) (m_store 1 25 _ _ 0 (.agg (pt 0 0 0 0)) (old := pt 0 0 0 0) (new := pt 0 0 0 0) hm15 rfl rfl rfl rfl rfl (by show _ = some (pt 0 0 0 0).size; rw [pt_sz]; exact info_p) (by rw [Nat.zero_add]; exact Nat.le_of_eq ((pt_sz _ _ _ _).trans (pt_sz _ _ _ _).symm)) (pt_one _ _ _ _) (into_all _ _ ((pt_sz _ _ _ _).trans (pt_sz _ _ _ _).symm)) (fun w16 (hm17 : Mm none w w16 [.blk g5 (pq p) 25, .blk g13 (pt 0 0 0 0) 25]) => ?_))
  refine lst (wanted_none rfl) (w_value 8 (.bool false) rfl (run_as rfl rfl) ?_)
  simp only [List.setIfInBounds_toArray, List.set_cons_zero, List.set_cons_succ]
  refine wpList_nil ?_
  refine then_n (hK10 _ _ ?_)
  refine wp_seq_k (fun K18 hK18 => ?_)
  refine wp_seq_k (fun K19 hK19 => ?_)
  refine wp_region_lit ?_
  refine lst (wanted_none rfl) (w_value 22 (.bool true) rfl (run_mv rfl rfl) ?_)
  simp only [List.setIfInBounds_toArray, List.set_cons_zero, List.set_cons_succ]
  refine lst (wanted_none rfl) (w_value 23 (.bool false) rfl (r_not true rfl rfl) ?_)
  simp only [List.setIfInBounds_toArray, List.set_cons_zero, List.set_cons_succ]
  refine lst (wanted_none rfl) (w_value 24 (.bool false) rfl (run_mv rfl rfl) ?_)
  simp only [List.setIfInBounds_toArray, List.set_cons_zero, List.set_cons_succ]
  refine lst rfl (w_value 25 (.bool false) rfl (run_mv rfl rfl) ?_)
  simp only [List.setIfInBounds_toArray, List.set_cons_zero, List.set_cons_succ]
  refine lst rfl (w_value 26 (.bool true) rfl (r_not false rfl rfl) ?_)
  simp only [List.setIfInBounds_toArray, List.set_cons_zero, List.set_cons_succ]
  refine lst (wanted_none rfl) (w_value 27 (.bool true) rfl (run_pickf rfl rfl rfl) ?_)
  simp only [List.setIfInBounds_toArray, List.set_cons_zero, List.set_cons_succ]
  refine wpList_nil ?_
  refine then_n (hK19 _ _ ?_)
  refine cond_t rfl ?_
  refine wp_seq_k (fun K20 hK20 => ?_)
  refine wp_region_lit ?_
  refine lst (wanted_none rfl) (m_call hm17 28 (.bool true) rfl (run_awake5 rfl) (awake5_any _ (kept hd hm17.below)) (fun w21 hm22 => ?_))
  simp only [List.setIfInBounds_toArray, List.set_cons_zero, List.set_cons_succ]
  refine lst (wanted_none rfl) (w_value 4 (.bool true) rfl (run_as rfl rfl) ?_)
  simp only [List.setIfInBounds_toArray, List.set_cons_zero, List.set_cons_succ]
  refine wpList_nil ?_
  refine then_n (hK20 _ _ ?_)
  refine wp_ret ?_
  refine then_r ?_
  exact ⟨rfl, .bool true, res_t rfl rfl, ⟨rfl, hm22.below⟩⟩
set_option maxHeartbeats 4000000 in
set_option maxRecDepth 100000 in
theorem walk_ns (a : ByteArray) (ha : unP a = none) (b : ByteArray) (q : Pn) (hb : unP b = some q) (hq : q.ok)  (w : World) (hd : DD w) : Calls Tryd.prog 8 #[.string a, .string b] w (fun e w' => e = .returned (.bool true) ∧ Below w.heap.size w w') := by
  go_enter Tryd.func8, Tryd.ntmps8
  have hm0 := Mm.nil none w
  refine wp_seq_k (fun K1 hK1 => ?_)
  refine wp_region_lit ?_
  refine lst (wanted_none rfl) (w_value 4 (.bool false) rfl (run_as rfl rfl) ?_)
  simp only [List.setIfInBounds_toArray, List.set_cons_zero, List.set_cons_succ]
  refine wpList_nil ?_
  refine then_n (hK1 _ _ ?_)
  refine wp_seq_k (fun K2 hK2 => ?_)
  refine wp_region_lit ?_
  refine lst (wanted_none rfl) (w_value 13 (.string a) rfl (run_mv rfl rfl) ?_)
  simp only [List.setIfInBounds_toArray, List.set_cons_zero, List.set_cons_succ]
  refine lst (wanted_none rfl) (m_call hm0 14 (.tuple #[.agg (pt 0 0 0 0), .bool false]) rfl (run_pUnpack rfl rfl) (un_no a ha _ (kept hd hm0.below)) (fun w3 hm4 => ?_))
  simp only [List.setIfInBounds_toArray, List.set_cons_zero, List.set_cons_succ]
  refine lst (wanted_none rfl) (w_value 12 (.tuple #[.agg (pt 0 0 0 0), .bool false]) rfl (run_mv rfl rfl) ?_)
  simp only [List.setIfInBounds_toArray, List.set_cons_zero, List.set_cons_succ]
  refine lst (wanted_none rfl) (w_value 15 (.agg (pt 0 0 0 0)) rfl (run_ex rfl rfl rfl) ?_)
  simp only [List.setIfInBounds_toArray, List.set_cons_zero, List.set_cons_succ]
  refine lst (wanted_none rfl) (w_value 16 (.bool false) rfl (run_ex rfl rfl rfl) ?_)
  simp only [List.setIfInBounds_toArray, List.set_cons_zero, List.set_cons_succ]
  refine lst (wanted_none rfl) (m_alloc (c := pt 0 0 0 0) (T := 25) hm4 5 rfl (al_P rfl) (fun g5 w6 (hm7 : Mm none w w6 [.blk g5 (pt 0 0 0 0) 25]) => ?_))
  simp only [List.setIfInBounds_toArray, List.set_cons_zero, List.set_cons_succ]
  refine lst (wanted_none rfl) (m_store 0 25 _ _ 0 (.agg (pt 0 0 0 0)) (old := pt 0 0 0 0) (new := pt 0 0 0 0) hm7 rfl rfl rfl rfl rfl (by show _ = some (pt 0 0 0 0).size; rw [pt_sz]; exact info_p) (by rw [Nat.zero_add]; exact Nat.le_of_eq ((pt_sz _ _ _ _).trans (pt_sz _ _ _ _).symm)) (pt_one _ _ _ _) (into_all _ _ ((pt_sz _ _ _ _).trans (pt_sz _ _ _ _).symm)) (fun w8 (hm9 : Mm none w w8 [.blk g5 (pt 0 0 0 0) 25]) => ?_))
  refine lst (wanted_none rfl) (w_value 6 (.bool false) rfl (run_as rfl rfl) ?_)
  simp only [List.setIfInBounds_toArray, List.set_cons_zero, List.set_cons_succ]
  refine wpList_nil ?_
  refine then_n (hK2 _ _ ?_)
  refine wp_seq_k (fun K10 hK10 => ?_)
  refine wp_region_lit ?_
  refine lst (wanted_none rfl) (w_value 18 (.string b) rfl (run_mv rfl rfl) ?_)
  simp only [List.setIfInBounds_toArray, List.set_cons_zero, List.set_cons_succ]
  refine lst (wanted_none rfl) (m_call hm9 19 (.tuple #[.agg (pq q), .bool true]) rfl (run_pUnpack rfl rfl) (un_at b q hb _ (kept hd hm9.below)) (fun w11 hm12 => ?_))
  simp only [List.setIfInBounds_toArray, List.set_cons_zero, List.set_cons_succ]
  refine lst (wanted_none rfl) (w_value 17 (.tuple #[.agg (pq q), .bool true]) rfl (run_mv rfl rfl) ?_)
  simp only [List.setIfInBounds_toArray, List.set_cons_zero, List.set_cons_succ]
  refine lst (wanted_none rfl) (w_value 20 (.agg (pq q)) rfl (run_ex rfl rfl rfl) ?_)
  simp only [List.setIfInBounds_toArray, List.set_cons_zero, List.set_cons_succ]
  refine lst (wanted_none rfl) (w_value 21 (.bool true) rfl (run_ex rfl rfl rfl) ?_)
  simp only [List.setIfInBounds_toArray, List.set_cons_zero, List.set_cons_succ]
  refine lst (wanted_none rfl) (m_alloc (c := pt 0 0 0 0) (T := 25) hm12 7 rfl (al_P rfl) (fun g13 w14 (hm15 : Mm none w w14 [.blk g5 (pt 0 0 0 0) 25, .blk g13 (pt 0 0 0 0) 25]) => ?_))
  simp only [List.setIfInBounds_toArray, List.set_cons_zero, List.set_cons_succ]
  refine lst (wanted_none rfl) (m_store 1 25 _ _ 0 (.agg (pq q)) (old := pt 0 0 0 0) (new := pq q) hm15 rfl rfl rfl rfl rfl (by show _ = some (pq q).size; rw [pq_sz]; exact info_p) (by rw [Nat.zero_add]; exact Nat.le_of_eq ((pq_sz _).trans (pt_sz _ _ _ _).symm)) (pq_one _) (into_all _ _ ((pt_sz _ _ _ _).trans (pq_sz _).symm)) (fun w16 (hm17 : Mm none w w16 [.blk g5 (pt 0 0 0 0) 25, .blk g13 (pq q) 25]) => ?_))
  refine lst (wanted_none rfl) (w_value 8 (.bool true) rfl (run_as rfl rfl) ?_)
  simp only [List.setIfInBounds_toArray, List.set_cons_zero, List.set_cons_succ]
  refine wpList_nil ?_
  refine then_n (hK10 _ _ ?_)
  refine wp_seq_k (fun K18 hK18 => ?_)
  refine wp_seq_k (fun K19 hK19 => ?_)
  refine wp_region_lit ?_
  refine lst (wanted_none rfl) (w_value 22 (.bool false) rfl (run_mv rfl rfl) ?_)
  simp only [List.setIfInBounds_toArray, List.set_cons_zero, List.set_cons_succ]
  refine lst (wanted_none rfl) (w_value 23 (.bool true) rfl (r_not false rfl rfl) ?_)
  simp only [List.setIfInBounds_toArray, List.set_cons_zero, List.set_cons_succ]
  refine lst (wanted_none rfl) (w_value 24 (.bool true) rfl (run_mv rfl rfl) ?_)
  simp only [List.setIfInBounds_toArray, List.set_cons_zero, List.set_cons_succ]
  refine lst_skip 25 rfl rfl ?_
  simp only [List.setIfInBounds_toArray, List.set_cons_zero, List.set_cons_succ]
  refine lst_skip 26 rfl rfl ?_
  simp only [List.setIfInBounds_toArray, List.set_cons_zero, List.set_cons_succ]
  refine lst (wanted_none rfl) (w_value 27 (.bool true) rfl (run_pick rfl rfl rfl) ?_)
  simp only [List.setIfInBounds_toArray, List.set_cons_zero, List.set_cons_succ]
  refine wpList_nil ?_
  refine then_n (hK19 _ _ ?_)
  refine cond_t rfl ?_
  refine wp_seq_k (fun K20 hK20 => ?_)
  refine wp_region_lit ?_
  refine lst (wanted_none rfl) (m_call hm17 28 (.bool true) rfl (run_awake5 rfl) (awake5_any _ (kept hd hm17.below)) (fun w21 hm22 => ?_))
  simp only [List.setIfInBounds_toArray, List.set_cons_zero, List.set_cons_succ]
  refine lst (wanted_none rfl) (w_value 4 (.bool true) rfl (run_as rfl rfl) ?_)
  simp only [List.setIfInBounds_toArray, List.set_cons_zero, List.set_cons_succ]
  refine wpList_nil ?_
  refine then_n (hK20 _ _ ?_)
  refine wp_ret ?_
  refine then_r ?_
  exact ⟨rfl, .bool true, res_t rfl rfl, ⟨rfl, hm22.below⟩⟩
set_option maxHeartbeats 4000000 in
set_option maxRecDepth 100000 in
theorem walk_nn (a : ByteArray) (ha : unP a = none) (b : ByteArray) (hb : unP b = none)  (w : World) (hd : DD w) : Calls Tryd.prog 8 #[.string a, .string b] w (fun e w' => e = .returned (.bool true) ∧ Below w.heap.size w w') := by
  go_enter Tryd.func8, Tryd.ntmps8
  have hm0 := Mm.nil none w
  refine wp_seq_k (fun K1 hK1 => ?_)
  refine wp_region_lit ?_
  refine lst (wanted_none rfl) (w_value 4 (.bool false) rfl (run_as rfl rfl) ?_)
  simp only [List.setIfInBounds_toArray, List.set_cons_zero, List.set_cons_succ]
  refine wpList_nil ?_
  refine then_n (hK1 _ _ ?_)
  refine wp_seq_k (fun K2 hK2 => ?_)
  refine wp_region_lit ?_
  refine lst (wanted_none rfl) (w_value 13 (.string a) rfl (run_mv rfl rfl) ?_)
  simp only [List.setIfInBounds_toArray, List.set_cons_zero, List.set_cons_succ]
  refine lst (wanted_none rfl) (m_call hm0 14 (.tuple #[.agg (pt 0 0 0 0), .bool false]) rfl (run_pUnpack rfl rfl) (un_no a ha _ (kept hd hm0.below)) (fun w3 hm4 => ?_))
  simp only [List.setIfInBounds_toArray, List.set_cons_zero, List.set_cons_succ]
  refine lst (wanted_none rfl) (w_value 12 (.tuple #[.agg (pt 0 0 0 0), .bool false]) rfl (run_mv rfl rfl) ?_)
  simp only [List.setIfInBounds_toArray, List.set_cons_zero, List.set_cons_succ]
  refine lst (wanted_none rfl) (w_value 15 (.agg (pt 0 0 0 0)) rfl (run_ex rfl rfl rfl) ?_)
  simp only [List.setIfInBounds_toArray, List.set_cons_zero, List.set_cons_succ]
  refine lst (wanted_none rfl) (w_value 16 (.bool false) rfl (run_ex rfl rfl rfl) ?_)
  simp only [List.setIfInBounds_toArray, List.set_cons_zero, List.set_cons_succ]
  refine lst (wanted_none rfl) (m_alloc (c := pt 0 0 0 0) (T := 25) hm4 5 rfl (al_P rfl) (fun g5 w6 (hm7 : Mm none w w6 [.blk g5 (pt 0 0 0 0) 25]) => ?_))
  simp only [List.setIfInBounds_toArray, List.set_cons_zero, List.set_cons_succ]
  refine lst (wanted_none rfl) (m_store 0 25 _ _ 0 (.agg (pt 0 0 0 0)) (old := pt 0 0 0 0) (new := pt 0 0 0 0) hm7 rfl rfl rfl rfl rfl (by show _ = some (pt 0 0 0 0).size; rw [pt_sz]; exact info_p) (by rw [Nat.zero_add]; exact Nat.le_of_eq ((pt_sz _ _ _ _).trans (pt_sz _ _ _ _).symm)) (pt_one _ _ _ _) (into_all _ _ ((pt_sz _ _ _ _).trans (pt_sz _ _ _ _).symm)) (fun w8 (hm9 : Mm none w w8 [.blk g5 (pt 0 0 0 0) 25]) => ?_))
  refine lst (wanted_none rfl) (w_value 6 (.bool false) rfl (run_as rfl rfl) ?_)
  simp only [List.setIfInBounds_toArray, List.set_cons_zero, List.set_cons_succ]
  refine wpList_nil ?_
  refine then_n (hK2 _ _ ?_)
  refine wp_seq_k (fun K10 hK10 => ?_)
  refine wp_region_lit ?_
  refine lst (wanted_none rfl) (w_value 18 (.string b) rfl (run_mv rfl rfl) ?_)
  simp only [List.setIfInBounds_toArray, List.set_cons_zero, List.set_cons_succ]
  refine lst (wanted_none rfl) (m_call hm9 19 (.tuple #[.agg (pt 0 0 0 0), .bool false]) rfl (run_pUnpack rfl rfl) (un_no b hb _ (kept hd hm9.below)) (fun w11 hm12 => ?_))
  simp only [List.setIfInBounds_toArray, List.set_cons_zero, List.set_cons_succ]
  refine lst (wanted_none rfl) (w_value 17 (.tuple #[.agg (pt 0 0 0 0), .bool false]) rfl (run_mv rfl rfl) ?_)
  simp only [List.setIfInBounds_toArray, List.set_cons_zero, List.set_cons_succ]
  refine lst (wanted_none rfl) (w_value 20 (.agg (pt 0 0 0 0)) rfl (run_ex rfl rfl rfl) ?_)
  simp only [List.setIfInBounds_toArray, List.set_cons_zero, List.set_cons_succ]
  refine lst (wanted_none rfl) (w_value 21 (.bool false) rfl (run_ex rfl rfl rfl) ?_)
  simp only [List.setIfInBounds_toArray, List.set_cons_zero, List.set_cons_succ]
  refine lst (wanted_none rfl) (m_alloc (c := pt 0 0 0 0) (T := 25) hm12 7 rfl (al_P rfl) (fun g13 w14 (hm15 : Mm none w w14 [.blk g5 (pt 0 0 0 0) 25, .blk g13 (pt 0 0 0 0) 25]) => ?_))
  simp only [List.setIfInBounds_toArray, List.set_cons_zero, List.set_cons_succ]
  refine lst (wanted_none rfl) (m_store 1 25 _ _ 0 (.agg (pt 0 0 0 0)) (old := pt 0 0 0 0) (new := pt 0 0 0 0) hm15 rfl rfl rfl rfl rfl (by show _ = some (pt 0 0 0 0).size; rw [pt_sz]; exact info_p) (by rw [Nat.zero_add]; exact Nat.le_of_eq ((pt_sz _ _ _ _).trans (pt_sz _ _ _ _).symm)) (pt_one _ _ _ _) (into_all _ _ ((pt_sz _ _ _ _).trans (pt_sz _ _ _ _).symm)) (fun w16 (hm17 : Mm none w w16 [.blk g5 (pt 0 0 0 0) 25, .blk g13 (pt 0 0 0 0) 25]) => ?_))
  refine lst (wanted_none rfl) (w_value 8 (.bool false) rfl (run_as rfl rfl) ?_)
  simp only [List.setIfInBounds_toArray, List.set_cons_zero, List.set_cons_succ]
  refine wpList_nil ?_
  refine then_n (hK10 _ _ ?_)
  refine wp_seq_k (fun K18 hK18 => ?_)
  refine wp_seq_k (fun K19 hK19 => ?_)
  refine wp_region_lit ?_
  refine lst (wanted_none rfl) (w_value 22 (.bool false) rfl (run_mv rfl rfl) ?_)
  simp only [List.setIfInBounds_toArray, List.set_cons_zero, List.set_cons_succ]
  refine lst (wanted_none rfl) (w_value 23 (.bool true) rfl (r_not false rfl rfl) ?_)
  simp only [List.setIfInBounds_toArray, List.set_cons_zero, List.set_cons_succ]
  refine lst (wanted_none rfl) (w_value 24 (.bool true) rfl (run_mv rfl rfl) ?_)
  simp only [List.setIfInBounds_toArray, List.set_cons_zero, List.set_cons_succ]
  refine lst_skip 25 rfl rfl ?_
  simp only [List.setIfInBounds_toArray, List.set_cons_zero, List.set_cons_succ]
  refine lst_skip 26 rfl rfl ?_
  simp only [List.setIfInBounds_toArray, List.set_cons_zero, List.set_cons_succ]
  refine lst (wanted_none rfl) (w_value 27 (.bool true) rfl (run_pick rfl rfl rfl) ?_)
  simp only [List.setIfInBounds_toArray, List.set_cons_zero, List.set_cons_succ]
  refine wpList_nil ?_
  refine then_n (hK19 _ _ ?_)
  refine cond_t rfl ?_
  refine wp_seq_k (fun K20 hK20 => ?_)
  refine wp_region_lit ?_
  refine lst (wanted_none rfl) (m_call hm17 28 (.bool true) rfl (run_awake5 rfl) (awake5_any _ (kept hd hm17.below)) (fun w21 hm22 => ?_))
  simp only [List.setIfInBounds_toArray, List.set_cons_zero, List.set_cons_succ]
  refine lst (wanted_none rfl) (w_value 4 (.bool true) rfl (run_as rfl rfl) ?_)
  simp only [List.setIfInBounds_toArray, List.set_cons_zero, List.set_cons_succ]
  refine wpList_nil ?_
  refine then_n (hK20 _ _ ?_)
  refine wp_ret ?_
  refine then_r ?_
  exact ⟨rfl, .bool true, res_t rfl rfl, ⟨rfl, hm22.below⟩⟩
theorem walk (a : ByteArray) (b : ByteArray) (w : World) (hd : DD w) : Calls Tryd.prog 8 #[.string a, .string b] w (fun e w' => e = .returned (.bool true) ∧ Below w.heap.size w w') := by
  cases ha : unP a with
  | none =>
    cases hb : unP b with
    | none => exact walk_nn a ha b hb w hd
    | some q => exact walk_ns a ha b q hb (unP_ok hb) w hd
  | some p =>
    cases hb : unP b with
    | none => exact walk_sn a p ha (unP_ok ha) b hb w hd
    | some q =>
      obtain ⟨P, hP, hPa, _⟩ := unP_R ha
      obtain ⟨Q, hQ, hQb, _⟩ := unP_R hb
      exact walk_ss a p ha (unP_ok ha) b q hb (unP_ok hb) (l_same hP hQ hPa hQb) (l_pack hP hQ hPa) (l_cut hP hPa) (neg_sz hP) (by rw [← hPa]; exact pk_sz P) w hd
set_option maxRecDepth 100000 in
theorem lifted (os : Os) (started : os.Started) (H : Type) (enc : TypeId × Value → H) :
    ReturnsInHanded {} Tryd.checked os 8 .any (fun w args => (Rows.pointApartSpec.pre enc Tryd.prog Tryd.f8 [] false w args ∧ laidMetH Tryd.prog dLaid w) ∧ sizedMet enc Tryd.prog Tryd.f8 (OpenSpec.ofChange Rows.pointApartSpec) false w args) (Rows.pointApartSpec.post enc Tryd.prog Tryd.f8 false true false false) := by
  refine handed (X := fun w _ => laidMetH Tryd.prog dLaid w) (fun _ _ _ hh h => h.of_heap hh) own started (by kernel_rfl) Tryd.func8
    (ChangeSpec.witness_shaped (enc := enc) (C := Tryd.checked) (os := os) (X := fun w _ => laidMetH Tryd.prog dLaid w) false (World.doorLaid Tryd.prog 400 os) #[.string .empty, .string .empty] 8 rfl (World.shaped_of_RefB (by kernel_rfl) (by kernel_rfl)) (by kernel_rfl) (by kernel_rfl) (by kernel_rfl) (met_d os _)) ?_
  intro W base args ds gs before hval0 hW hL hS
  have hval : ∀ (j : Nat) t v, Tryd.f8.params[j]? = some t → args[j]? = some v → Value.okWide Tryd.prog W .any base t v := hval0
  have hW' := hW
  obtain ⟨p, q, hA0, hV, rfl, hfz, hnd⟩ := hW
  have hA : DataW.TrodAll enc Tryd.prog W 0 (fun _ => true) true Tryd.f8.params.toList args.toList ds p := hA0
  rw [Tryd.params8] at hA hval
  obtain ⟨v0, vs0, d0, ds0, p0, q0, hargs, rfl, rfl, h0, r0⟩ := trodAll_cons hA
  obtain ⟨v1, vs1, d1, ds1, p1, q1, rfl, rfl, rfl, h1, r1⟩ := trodAll_cons r0
  obtain ⟨rfl, rfl, rfl⟩ := trodAll_nil r1
  obtain rfl : args = #[v0, v1] := by cases args; simp_all
  obtain ⟨rfl, rfl⟩ := trodVars_none hV
  obtain ⟨a0, rfl, rfl, rfl, m0⟩ := open_string Tryd.underlying9 (hval 0 9 v0 rfl rfl) h0
  obtain ⟨a1, rfl, rfl, rfl, m1⟩ := open_string Tryd.underlying9 (hval 1 9 v1 rfl rfl) h1
  clear hA0 hval0
  simp only [List.append_nil] at hW'
  refine (walk a0 a1 W (of_d hS hL)).mono fun e W' ⟨he, hg⟩ => ?_
  subst he
  exact ⟨_, rfl, _, _, _, [], [], [], hW', (trodAll_cons_mk (shut_bool Tryd.underlying4 _) trodAll_mk0), (trodAll_cons_mk (shut_string Tryd.underlying9 m0) (trodAll_cons_mk (shut_string Tryd.underlying9 m1) trodAll_mk0)), rfl, hg.frame _, fun h => by cases h⟩

theorem over : Rows.pointApartRow.holds Tryd.pinned (OpenSpec.ofChange Rows.pointApartSpec) :=
  OpenClaim.holds_of_wide 8 Tryd.f8 rfl rfl rfl rfl rfl rfl rfl ⟨rfl, rfl, rfl, rfl, rfl⟩ rfl rfl rfl rfl rfl (by kernel_rfl) Tryd.func8 (by kernel_rfl)
    (of_decide_eq_true (by kernel_rfl)) (by unfold Func.isWrapper; first | (rw [if_pos (by decide +kernel)]; kernel_rfl) | (rw [if_neg (by decide +kernel)]; exact ⟨rfl, rfl⟩))
    (fun os started H enc _ => lifted os started H enc)

/-- The statement: the tied card. -/
theorem proved : Rows.PointApartCardSaid :=
  Claim7.holds_tied_plain_at .later [] [.data] true (true, "fc2542975b301c68a361b8d8db791a19a70359d4a606d8fae6164062f6963a2a") false
    over (fun _ h => by cases h) (by kernel_rfl) (fun _ h => by cases h) pointApart_row_tie rfl ⟨rfl, rfl⟩ (by kernel_rfl) rfl
    (fun f fn hf hfn => by
      obtain rfl : f = 8 := Option.some.inj ((show Tryd.prog.funcNamed "holdall/holdalllaw05.PointApart" = some 8 by kernel_rfl).symm.trans hf) |>.symm
      obtain rfl : fn = Tryd.f8 := (Option.some.inj (Tryd.func8.symm.trans hfn)).symm
      exact ⟨by kernel_rfl, fun j t ht => by
        rw [Tryd.params8] at ht
        have hm : t ∈ [9, 9] := by simpa using Array.mem_of_getElem? ht
        have hall : ([9, 9].all fun u => !Tryd.prog.wantsStandIn u) = true := by kernel_rfl
        exact (show Tryd.prog.wantsStandIn t = false by simpa using List.all_eq_true.1 hall t hm)⟩)
    (by kernel_rfl)
#print axioms proved
end Go.Proofs.YtfpphinnngblgaaDoor.pointApart
