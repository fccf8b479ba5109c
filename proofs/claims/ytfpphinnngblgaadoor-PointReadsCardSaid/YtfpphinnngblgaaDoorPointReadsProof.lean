/- The point of any bytes is the document's, or there is none; it is on the curve, and its bytes are these: PointReads returns true, for every text. No condition, but that the package's variable d is as the text lays it. -/
import Derived.Test.YtfpphinnngblgaaDoorRows
import Derived.Test.YtfpphinnngblgaaDoorPtT
import Derived.Test.YtfpphinnngblgaaDoorPtOI
import Derived.Test.YtfpphinnngblgaaDoorCrvS
import Derived.Test.YtfpphinnngblgaaDoorPtZ
import Derived.WalkKit
import Derived.ProofKit
import Derived.OpenShut
import Derived.ShutString
import Derived.ChangeMaps5
import Derived.LaidMore
import Derived.SevenTiedAt
import Derived.Test.YtfpphinnngblgaaDoorTie
import Derived.Test.YtfpphinnngblgaaDoorCards
namespace Go.Proofs.YtfpphinnngblgaaDoor.pointReads
open Go.ChangeShapes Go.WideShapes Go.ChangeAt Go.RowKit Go.ChangeMaps
open Go.Proofs.YtfpphinnngblgaaDoor Go.Proofs.YtfpphinnngblgaaDoor.Fld Go.Proofs.YtfpphinnngblgaaDoor.Arr Go.Proofs.YtfpphinnngblgaaDoor.Sym Go.Proofs.YtfpphinnngblgaaDoor.Sx
set_option linter.unusedVariables false

theorem own : ownKnob Tryd.prog.godebug = none := by kernel_rfl
attribute [local irreducible] wpList Oper.wp
theorem run_at (s : ByteArray) (p : Pn) (h : unP s = some p) (w : World) : Calls Tryd.prog 11 #[.string s] w (fun e w' => e = .returned (.tuple #[.agg (pq p), .bool true]) ∧ Below w.heap.size w w') := by
  have h2 := runpack_p s w
  unfold unV at h2
  rw [h] at h2
  exact h2
theorem run_z (s : ByteArray) (o : Pn) (ho : pq o = pt 0 0 0 0) (h : unP s = none) (w : World) : Calls Tryd.prog 11 #[.string s] w (fun e w' => e = .returned (.tuple #[.agg (pq o), .bool false]) ∧ Below w.heap.size w w') := by
  have h2 := runpack_p s w
  unfold unV at h2
  rw [h] at h2
  rw [ho]
  exact h2
theorem un_z (s : ByteArray) (o : Pn) (ho : pq o = pt 0 0 0 0) (h : unP s = none) (w : World) (hd : DD w) : Calls Tryd.prog 10 #[.string s] w (fun e w' => e = .returned (.tuple #[.agg (pq o), .bool false]) ∧ Below w.heap.size w w') := by
  rw [ho]
  exact un_no s h w hd
set_option maxHeartbeats 4000000 in
set_option maxRecDepth 100000 in
theorem walk_some (s : ByteArray) (p : Pn) (hs : unP s = some p) (hp : p.ok) (ho : onP p) (hk : packS p = s) (w : World) (hd : DD w) : Calls Tryd.prog 3 #[.string s] w (fun e w' => e = .returned (.bool true) ∧ Below w.heap.size w w') := by
  go_enter Tryd.func3, Tryd.ntmps3
  have hm0 := Mm.nil w
  refine wp_seq_k (fun K1 hK1 => ?_)
  refine wp_region_lit ?_
  refine lv 2 (.bool false) rfl rfl (run_as rfl rfl) ?_
  simp only [nz1, nz2, nz3]
  refine wpList_nil ?_
  refine then_n (hK1 _ _ ?_)
  refine wp_seq_k (fun K2 hK2 => ?_)
  refine wp_region_lit ?_
  refine lv 8 (.string s) rfl rfl (run_mv rfl rfl) ?_
  simp only [nz1, nz2, nz3]
  refine lst (wanted_none rfl) (m_call hm0 9 (.tuple #[.agg (pq p), .bool true]) rfl (run_pUnpack rfl rfl) (un_at s p hs _ (kept hd hm0.below)) (fun w3 hm4 => ?_))
  simp only [nz1, nz2, nz3]
  refine lv 7 (.tuple #[.agg (pq p), .bool true]) rfl rfl (run_mv rfl rfl) ?_
  simp only [nz1, nz2, nz3]
  refine lv 10 (.agg (pq p)) rfl rfl (run_ex rfl rfl rfl) ?_
  simp only [nz1, nz2, nz3]
  refine lv 11 (.bool true) rfl rfl (run_ex rfl rfl rfl) ?_
  simp only [nz1, nz2, nz3]
  refine lst (wanted_none rfl) (m_alloc (c := pt 0 0 0 0) (T := 25) hm4 3 rfl (al_P rfl) (fun g5 w6 (hm7 : Mm w w6 [(g5, pt 0 0 0 0, 25)]) => ?_))
  simp only [nz1, nz2, nz3]
  refine lst (wanted_none rfl) (m_store 0 25 _ _ (pq p) (old := pt 0 0 0 0) hm7 rfl rfl rfl rfl rfl (by rw [pq_sz]; exact info_p) ((pt_sz _ _ _ _).trans (pq_sz _).symm) (pq_one _) (fun w8 (hm9 : Mm w w8 [(g5, pq p, 25)]) => ?_))
  refine lv 4 (.bool true) rfl rfl (run_as rfl rfl) ?_
  simp only [nz1, nz2, nz3]
  refine wpList_nil ?_
  refine then_n (hK2 _ _ ?_)
  refine wp_seq_k (fun K10 hK10 => ?_)
  refine wp_region_lit ?_
  refine lv 13 (.string s) rfl rfl (run_mv rfl rfl) ?_
  simp only [nz1, nz2, nz3]
  refine lst (wanted_none rfl) (m_call hm9 14 (.tuple #[.agg (pq p), .bool true]) rfl (run_qUnpack rfl rfl) (run_at s p hs _) (fun w11 hm12 => ?_))
  simp only [nz1, nz2, nz3]
  refine lv 12 (.tuple #[.agg (pq p), .bool true]) rfl rfl (run_mv rfl rfl) ?_
  simp only [nz1, nz2, nz3]
  refine lv 15 (.agg (pq p)) rfl rfl (run_ex rfl rfl rfl) ?_
  simp only [nz1, nz2, nz3]
  refine lv 16 (.bool true) rfl rfl (run_ex rfl rfl rfl) ?_
  simp only [nz1, nz2, nz3]
  refine lst (wanted_none rfl) (m_alloc (c := pt 0 0 0 0) (T := 25) hm12 5 rfl (al_P rfl) (fun g13 w14 (hm15 : Mm w w14 [(g5, pq p, 25), (g13, pt 0 0 0 0, 25)]) => ?_))
  simp only [nz1, nz2, nz3]
  refine lst (wanted_none rfl) (m_store 1 25 _ _ (pq p) (old := pt 0 0 0 0) hm15 rfl rfl rfl rfl rfl (by rw [pq_sz]; exact info_p) ((pt_sz _ _ _ _).trans (pq_sz _).symm) (pq_one _) (fun w16 (hm17 : Mm w w16 [(g5, pq p, 25), (g13, pq p, 25)]) => ?_))
  refine lv 6 (.bool true) rfl rfl (run_as rfl rfl) ?_
  simp only [nz1, nz2, nz3]
  refine wpList_nil ?_
  refine then_n (hK10 _ _ ?_)
  refine wp_seq_k (fun K18 hK18 => ?_)
  refine wp_region_lit ?_
  refine lst (wanted_none rfl) (m_call hm17 17 (.bool true) rfl (run_awake5 rfl) (awake5_any _ (kept hd hm17.below)) (fun w19 hm20 => ?_))
  simp only [nz1, nz2, nz3]
  refine lv 18 (.bool true) rfl rfl (run_mv rfl rfl) ?_
  simp only [nz1, nz2, nz3]
  refine lst rfl (w_value 19 (.agg (pq p)) rfl (run_row rfl rfl (hm20.at 0 rfl) Tryd.underlying25 rfl (by rw [pq_sz]; exact info_p)) ?_)
  simp only [nz1, nz2, nz3]
  refine lst rfl (w_value 20 (.agg (pq p)) rfl (run_row rfl rfl (hm20.at 1 rfl) Tryd.underlying25 rfl (by rw [pq_sz]; exact info_p)) ?_)
  simp only [nz1, nz2, nz3]
  refine lst rfl (w_value 21 (.bool true) rfl (r_eqlQ p rfl rfl rfl) ?_)
  simp only [nz1, nz2, nz3]
  refine lv 22 (.bool true) rfl rfl (run_pick rfl rfl rfl) ?_
  simp only [nz1, nz2, nz3]
  refine lv 23 (.bool true) rfl rfl (run_mv rfl rfl) ?_
  simp only [nz1, nz2, nz3]
  refine lst rfl (w_value 24 (.bool true) rfl (run_mv rfl rfl) ?_)
  simp only [nz1, nz2, nz3]
  refine lst rfl (w_value 25 (.bool true) rfl (run_mv rfl rfl) ?_)
  simp only [nz1, nz2, nz3]
  refine lst rfl (w_value 26 (.bool true) rfl (r_eqlB (true) (true) true (by rfl) rfl rfl rfl) ?_)
  simp only [nz1, nz2, nz3]
  refine lv 27 (.bool true) rfl rfl (run_pick rfl rfl rfl) ?_
  simp only [nz1, nz2, nz3]
  refine lv 28 (.bool true) rfl rfl (run_mv rfl rfl) ?_
  simp only [nz1, nz2, nz3]
  refine lst rfl (w_value 29 (.bool true) rfl (run_mv rfl rfl) ?_)
  simp only [nz1, nz2, nz3]
  refine lst rfl (w_value 30 (.bool false) rfl (r_not true rfl rfl) ?_)
  simp only [nz1, nz2, nz3]
  refine lst rfl (w_value 31 (.bool false) rfl (run_mv rfl rfl) ?_)
  simp only [nz1, nz2, nz3]
  refine lst rfl (w_value 32 (.agg (pq p)) rfl (run_row rfl rfl (hm20.at 0 rfl) Tryd.underlying25 rfl (by rw [pq_sz]; exact info_p)) ?_)
  simp only [nz1, nz2, nz3]
  refine lst rfl (m_call hm20 33 (.bool true) rfl (run_pOn rfl rfl) (on_c p hp ho _ (kept hd hm20.below)) (fun w21 hm22 => ?_))
  simp only [nz1, nz2, nz3]
  refine lst rfl (w_value 34 (.bool true) rfl (run_mv rfl rfl) ?_)
  simp only [nz1, nz2, nz3]
  refine lst rfl (w_value 35 (.agg (pq p)) rfl (run_row rfl rfl (hm22.at 0 rfl) Tryd.underlying25 rfl (by rw [pq_sz]; exact info_p)) ?_)
  simp only [nz1, nz2, nz3]
  refine lst rfl (m_call hm22 36 (.string s) rfl (run_pPack rfl rfl) (pack_c p hp s hk _) (fun w23 hm24 => ?_))
  simp only [nz1, nz2, nz3]
  refine lst rfl (w_value 37 (.string s) rfl (run_mv rfl rfl) ?_)
  simp only [nz1, nz2, nz3]
  refine lst rfl (w_value 38 (.bool true) rfl (r_eqlS s s true (decide_eq_true rfl) rfl rfl rfl) ?_)
  simp only [nz1, nz2, nz3]
  refine lst rfl (w_value 39 (.bool true) rfl (run_pick rfl rfl rfl) ?_)
  simp only [nz1, nz2, nz3]
  refine lst rfl (w_value 40 (.bool true) rfl (run_pickf rfl rfl rfl) ?_)
  simp only [nz1, nz2, nz3]
  refine lv 41 (.bool true) rfl rfl (run_pick rfl rfl rfl) ?_
  simp only [nz1, nz2, nz3]
  refine lv 2 (.bool true) rfl rfl (run_as rfl rfl) ?_
  simp only [nz1, nz2, nz3]
  refine wpList_nil ?_
  refine then_n (hK18 _ _ ?_)
  refine wp_ret ?_
  exact ⟨rfl, .bool true, res_t rfl rfl, ⟨rfl, hm24.below⟩⟩
set_option maxHeartbeats 4000000 in
set_option maxRecDepth 100000 in
theorem walk_none (s : ByteArray) (o : Pn) (ho : pq o = pt 0 0 0 0) (hok : o.ok) (hs : unP s = none) (w : World) (hd : DD w) : Calls Tryd.prog 3 #[.string s] w (fun e w' => e = .returned (.bool true) ∧ Below w.heap.size w w') := by
  go_enter Tryd.func3, Tryd.ntmps3
  have hm0 := Mm.nil w
  refine wp_seq_k (fun K1 hK1 => ?_)
  refine wp_region_lit ?_
  refine lv 2 (.bool false) rfl rfl (run_as rfl rfl) ?_
  simp only [nz1, nz2, nz3]
  refine wpList_nil ?_
  refine then_n (hK1 _ _ ?_)
  refine wp_seq_k (fun K2 hK2 => ?_)
  refine wp_region_lit ?_
  refine lv 8 (.string s) rfl rfl (run_mv rfl rfl) ?_
  simp only [nz1, nz2, nz3]
  refine lst (wanted_none rfl) (m_call hm0 9 (.tuple #[.agg (pq o), .bool false]) rfl (run_pUnpack rfl rfl) (un_z s o ho hs _ (kept hd hm0.below)) (fun w3 hm4 => ?_))
  simp only [nz1, nz2, nz3]
  refine lv 7 (.tuple #[.agg (pq o), .bool false]) rfl rfl (run_mv rfl rfl) ?_
  simp only [nz1, nz2, nz3]
  refine lv 10 (.agg (pq o)) rfl rfl (run_ex rfl rfl rfl) ?_
  simp only [nz1, nz2, nz3]
  refine lv 11 (.bool false) rfl rfl (run_ex rfl rfl rfl) ?_
  simp only [nz1, nz2, nz3]
  refine lst (wanted_none rfl) (m_alloc (c := pt 0 0 0 0) (T := 25) hm4 3 rfl (al_P rfl) (fun g5 w6 (hm7 : Mm w w6 [(g5, pt 0 0 0 0, 25)]) => ?_))
  simp only [nz1, nz2, nz3]
  refine lst (wanted_none rfl) (m_store 0 25 _ _ (pq o) (old := pt 0 0 0 0) hm7 rfl rfl rfl rfl rfl (by rw [pq_sz]; exact info_p) ((pt_sz _ _ _ _).trans (pq_sz _).symm) (pq_one _) (fun w8 (hm9 : Mm w w8 [(g5, pq o, 25)]) => ?_))
  refine lv 4 (.bool false) rfl rfl (run_as rfl rfl) ?_
  simp only [nz1, nz2, nz3]
  refine wpList_nil ?_
  refine then_n (hK2 _ _ ?_)
  refine wp_seq_k (fun K10 hK10 => ?_)
  refine wp_region_lit ?_
  refine lv 13 (.string s) rfl rfl (run_mv rfl rfl) ?_
  simp only [nz1, nz2, nz3]
  refine lst (wanted_none rfl) (m_call hm9 14 (.tuple #[.agg (pq o), .bool false]) rfl (run_qUnpack rfl rfl) (run_z s o ho hs _) (fun w11 hm12 => ?_))
  simp only [nz1, nz2, nz3]
  refine lv 12 (.tuple #[.agg (pq o), .bool false]) rfl rfl (run_mv rfl rfl) ?_
  simp only [nz1, nz2, nz3]
  refine lv 15 (.agg (pq o)) rfl rfl (run_ex rfl rfl rfl) ?_
  simp only [nz1, nz2, nz3]
  refine lv 16 (.bool false) rfl rfl (run_ex rfl rfl rfl) ?_
  simp only [nz1, nz2, nz3]
  refine lst (wanted_none rfl) (m_alloc (c := pt 0 0 0 0) (T := 25) hm12 5 rfl (al_P rfl) (fun g13 w14 (hm15 : Mm w w14 [(g5, pq o, 25), (g13, pt 0 0 0 0, 25)]) => ?_))
  simp only [nz1, nz2, nz3]
  refine lst (wanted_none rfl) (m_store 1 25 _ _ (pq o) (old := pt 0 0 0 0) hm15 rfl rfl rfl rfl rfl (by rw [pq_sz]; exact info_p) ((pt_sz _ _ _ _).trans (pq_sz _).symm) (pq_one _) (fun w16 (hm17 : Mm w w16 [(g5, pq o, 25), (g13, pq o, 25)]) => ?_))
  refine lv 6 (.bool false) rfl rfl (run_as rfl rfl) ?_
  simp only [nz1, nz2, nz3]
  refine wpList_nil ?_
  refine then_n (hK10 _ _ ?_)
  refine wp_seq_k (fun K18 hK18 => ?_)
  refine wp_region_lit ?_
  refine lst (wanted_none rfl) (m_call hm17 17 (.bool true) rfl (run_awake5 rfl) (awake5_any _ (kept hd hm17.below)) (fun w19 hm20 => ?_))
  simp only [nz1, nz2, nz3]
  refine lv 18 (.bool true) rfl rfl (run_mv rfl rfl) ?_
  simp only [nz1, nz2, nz3]
  refine lst rfl (w_value 19 (.agg (pq o)) rfl (run_row rfl rfl (hm20.at 0 rfl) Tryd.underlying25 rfl (by rw [pq_sz]; exact info_p)) ?_)
  simp only [nz1, nz2, nz3]
  refine lst rfl (w_value 20 (.agg (pq o)) rfl (run_row rfl rfl (hm20.at 1 rfl) Tryd.underlying25 rfl (by rw [pq_sz]; exact info_p)) ?_)
  simp only [nz1, nz2, nz3]
  refine lst rfl (w_value 21 (.bool true) rfl (r_eqlQ o rfl rfl rfl) ?_)
  simp only [nz1, nz2, nz3]
  refine lv 22 (.bool true) rfl rfl (run_pick rfl rfl rfl) ?_
  simp only [nz1, nz2, nz3]
  refine lv 23 (.bool true) rfl rfl (run_mv rfl rfl) ?_
  simp only [nz1, nz2, nz3]
  refine lst rfl (w_value 24 (.bool false) rfl (run_mv rfl rfl) ?_)
  simp only [nz1, nz2, nz3]
  refine lst rfl (w_value 25 (.bool false) rfl (run_mv rfl rfl) ?_)
  simp only [nz1, nz2, nz3]
  refine lst rfl (w_value 26 (.bool true) rfl (r_eqlB (false) (false) true (by rfl) rfl rfl rfl) ?_)
  simp only [nz1, nz2, nz3]
  refine lv 27 (.bool true) rfl rfl (run_pick rfl rfl rfl) ?_
  simp only [nz1, nz2, nz3]
  refine lv 28 (.bool true) rfl rfl (run_mv rfl rfl) ?_
  simp only [nz1, nz2, nz3]
  refine lst rfl (w_value 29 (.bool false) rfl (run_mv rfl rfl) ?_)
  simp only [nz1, nz2, nz3]
  refine lst rfl (w_value 30 (.bool true) rfl (r_not false rfl rfl) ?_)
  simp only [nz1, nz2, nz3]
  refine lst rfl (w_value 31 (.bool true) rfl (run_mv rfl rfl) ?_)
  simp only [nz1, nz2, nz3]
  refine lst_skip 32 rfl rfl ?_
  simp only [nz1, nz2, nz3]
  refine lst_skip 33 rfl rfl ?_
  simp only [nz1, nz2, nz3]
  refine lst_skip 34 rfl rfl ?_
  simp only [nz1, nz2, nz3]
  refine lst_skip 35 rfl rfl ?_
  simp only [nz1, nz2, nz3]
  refine lst_skip 36 rfl rfl ?_
  simp only [nz1, nz2, nz3]
  refine lst_skip 37 rfl rfl ?_
  simp only [nz1, nz2, nz3]
  refine lst_skip 38 rfl rfl ?_
  simp only [nz1, nz2, nz3]
  refine lst_skip 39 rfl rfl ?_
  simp only [nz1, nz2, nz3]
  refine lst rfl (w_value 40 (.bool true) rfl (run_pick rfl rfl rfl) ?_)
  simp only [nz1, nz2, nz3]
  refine lv 41 (.bool true) rfl rfl (run_pick rfl rfl rfl) ?_
  simp only [nz1, nz2, nz3]
  refine lv 2 (.bool true) rfl rfl (run_as rfl rfl) ?_
  simp only [nz1, nz2, nz3]
  refine wpList_nil ?_
  refine then_n (hK18 _ _ ?_)
  refine wp_ret ?_
  exact ⟨rfl, .bool true, res_t rfl rfl, ⟨rfl, hm20.below⟩⟩
theorem walk (s : ByteArray) (w : World) (hd : DD w) : Calls Tryd.prog 3 #[.string s] w (fun e w' => e = .returned (.bool true) ∧ Below w.heap.size w w') := by
  cases h : unP s with
  | none => exact walk_none s ⟨0, 0, 0, 0⟩ rfl ⟨by decide, by decide, by decide, by decide⟩ h w hd
  | some p => exact walk_some s p h (unP_ok h) (unP_on h) (pack_back h) w hd
set_option maxRecDepth 100000 in
theorem lifted (os : Os) (started : os.Started) (H : Type) (enc : TypeId × Value → H) :
    ReturnsInHanded {} Tryd.checked os 3 .any (fun w args => (Rows.pointReadsSpec.pre enc Tryd.prog Tryd.f3 [] false w args ∧ laidMetH Tryd.prog dLaid w) ∧ sizedMet enc Tryd.prog Tryd.f3 (OpenSpec.ofChange Rows.pointReadsSpec) false w args) (Rows.pointReadsSpec.post enc Tryd.prog Tryd.f3 false true false false) := by
  refine handed (X := fun w _ => laidMetH Tryd.prog dLaid w) (fun _ _ _ hh h => h.of_heap hh) own started (by kernel_rfl) Tryd.func3
    (ChangeSpec.witness_shaped (enc := enc) (C := Tryd.checked) (os := os) (X := fun w _ => laidMetH Tryd.prog dLaid w) false (World.doorLaid Tryd.prog 400 os) #[.string .empty] 8 rfl (World.shaped_of_RefB (by kernel_rfl) (by kernel_rfl)) (by kernel_rfl) (by kernel_rfl) (by kernel_rfl) (met_d os _)) ?_
  intro W base args ds gs before hval0 hW hL hS
  have hval : ∀ (j : Nat) t v, Tryd.f3.params[j]? = some t → args[j]? = some v → Value.okWide Tryd.prog W .any base t v := hval0
  have hW' := hW
  obtain ⟨p, q, hA0, hV, rfl, hfz, hnd⟩ := hW
  have hA : DataW.TrodAll enc Tryd.prog W 0 (fun _ => true) true Tryd.f3.params.toList args.toList ds p := hA0
  rw [Tryd.params3] at hA hval
  obtain ⟨v0, vs0, d0, ds0, p0, q0, hargs, rfl, rfl, h0, r0⟩ := trodAll_cons hA
  obtain ⟨rfl, rfl, rfl⟩ := trodAll_nil r0
  obtain rfl : args = #[v0] := by cases args; simp_all
  obtain ⟨rfl, rfl⟩ := trodVars_none hV
  obtain ⟨a0, rfl, rfl, rfl, m0⟩ := open_string Tryd.underlying9 (hval 0 9 v0 rfl rfl) h0
  clear hA0 hval0
  simp only [List.append_nil] at hW'
  refine (walk a0 W (of_d hS hL)).mono fun e W' ⟨he, hg⟩ => ?_
  subst he
  exact ⟨_, rfl, _, _, _, [], [], [], hW', (trodAll_cons_mk (shut_bool Tryd.underlying4 _) trodAll_mk0), (trodAll_cons_mk (shut_string Tryd.underlying9 m0) trodAll_mk0), rfl, hg.frame _, fun h => by cases h⟩

theorem over : Rows.pointReadsRow.holds Tryd.pinned (OpenSpec.ofChange Rows.pointReadsSpec) :=
  OpenClaim.holds_of_wide 3 Tryd.f3 rfl rfl rfl rfl rfl rfl rfl ⟨rfl, rfl, rfl, rfl, rfl⟩ rfl rfl rfl rfl rfl (by kernel_rfl) Tryd.func3 (by kernel_rfl)
    (of_decide_eq_true (by kernel_rfl)) (by unfold Func.isWrapper; first | (rw [if_pos (by decide +kernel)]; kernel_rfl) | (rw [if_neg (by decide +kernel)]; exact ⟨rfl, rfl⟩))
    (fun os started H enc _ => lifted os started H enc)

/-- The statement: the tied card. -/
theorem proved : Rows.PointReadsCardSaid :=
  Claim7.holds_tied_plain_at .later [] [.data] true (true, "fc2542975b301c68a361b8d8db791a19a70359d4a606d8fae6164062f6963a2a") false
    over (fun _ h => by cases h) (by kernel_rfl) (fun _ h => by cases h) pointReads_row_tie rfl ⟨rfl, rfl⟩ (by kernel_rfl) rfl
    (fun f fn hf hfn => by
      obtain rfl : f = 3 := Option.some.inj ((show Tryd.prog.funcNamed "holdall/holdalllaw05.PointReads" = some 3 by kernel_rfl).symm.trans hf) |>.symm
      obtain rfl : fn = Tryd.f3 := (Option.some.inj (Tryd.func3.symm.trans hfn)).symm
      exact ⟨by kernel_rfl, fun j t ht => by
        rw [Tryd.params3] at ht
        have hm : t ∈ [9] := by simpa using Array.mem_of_getElem? ht
        have hall : ([9].all fun u => !Tryd.prog.wantsStandIn u) = true := by kernel_rfl
        exact (show Tryd.prog.wantsStandIn t = false by simpa using List.all_eq_true.1 hall t hm)⟩)
    (by kernel_rfl)
#print axioms proved
end Go.Proofs.YtfpphinnngblgaaDoor.pointReads
