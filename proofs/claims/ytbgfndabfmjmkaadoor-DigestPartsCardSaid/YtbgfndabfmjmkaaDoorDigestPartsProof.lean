/- DigestParts: the sum of messages put together is the reference's sum of the whole; no conditions. -/
import Derived.Test.YtbgfndabfmjmkaaDoorRows
import Derived.Test.YtbgfndabfmjmkaaDoorLaid
import Derived.Test.YtbgfndabfmjmkaaDoorRefC
import Derived.WalkKit
import Derived.ProofKit
import Derived.OpenShut
import Derived.ShutString
import Derived.LaidMore
import Derived.Carry
import Derived.Deep.Strs
import Derived.SevenTiedAt
import Derived.Test.YtbgfndabfmjmkaaDoorTie
import Derived.Test.YtbgfndabfmjmkaaDoorCards
namespace Go.Proofs.YtbgfndabfmjmkaaDoor.digestParts
open Go.ChangeShapes Go.WideShapes Go.ChangeAt Go.RowKit

theorem own : ownKnob Tryd.prog.godebug = none := by kernel_rfl
theorem laidOut : laidOutB Tryd.prog = true := by kernel_rfl
theorem cells9 : Tryd.prog.cellsOf 9 = 1 := by kernel_rfl

/-- What both sums are. -/
theorem both (b : ByteArray) (hb : b.size ≤ 100000) : ∃ S : List UInt8, Hid (Sha.sha b = S) ∧ Hid (∀ W, Sha.KT 1 W → Calls Tryd.prog 11 #[.string b] W fun e w' => e = .returned (.string ⟨S.toArray⟩) ∧ Below W.heap.size W w') :=
  ⟨_, rfl, fun W hW => Sha.refsum_any b W (by omega) hW⟩

theorem walkNil (w : World) (hk : Sha.KT 0 w ∧ Sha.KT 1 w) :
    Calls Tryd.prog 7 #[.slice none 0 0] w fun e w' => e = .returned (.bool true) ∧ Below w.heap.size w w' := by
  have HK := Lib.hid hk.1
  have HT := Lib.hid hk.2
  clear hk
  obtain ⟨S, HS, RS⟩ := both ⟨#[]⟩ (by decide)
  go_enter Tryd.func7, Tryd.ntmps7
  go_wp2_with fail
  go_loopw [3, 4] (fun sv iv wr => sv = .string ⟨#[]⟩ ∧ iv = .int .i64 0 ∧ wr = w) (fun _ _ _ => 0)
  case atStart => exact ⟨rfl, rfl, rfl⟩
  case round =>
    obtain ⟨rfl, rfl, rfl⟩ := hrel
    go_wp2_with fail
    refine (Sha.awake _ HK.out).mono ?_
    rintro e w1 ⟨rfl, hb1⟩
    go_wp2_with fail
    refine (Sha.sum_at ⟨#[]⟩ _ (by decide) (HK.out.below hb1 HK.out.lt) S HS.out).mono ?_
    rintro e w2 ⟨rfl, hb2⟩
    have hb := hb1.trans (hb2.mono hb1.size)
    go_wp2_with fail
    refine (RS.out _ (HT.out.below hb HT.out.lt)).mono ?_
    rintro e w3 ⟨rfl, hb3⟩
    go_wp2
    go_ret
    exact ⟨rfl, hb.trans (hb3.mono hb.size)⟩

theorem walkSome (a : Addr) (len cap : Nat) (hlen : len ≤ maxLen) (Sx : Nat → ByteArray) (w : World) (hcell : ∀ i, i < len → w.cell? (a.add i) = some (.string (Sx i)) ∧ (Sx i).size ≤ maxLen) (hk : Sha.KT 0 w ∧ Sha.KT 1 w) :
    Calls Tryd.prog 7 #[.slice (some a) len cap] w fun e w' => e = .returned (.bool true) ∧ Below w.heap.size w w' := by
  have HK := Lib.hid hk.1
  have HT := Lib.hid hk.2
  have HC := Lib.hid hcell
  clear hk hcell
  unfold maxLen at hlen
  go_enter Tryd.func7, Tryd.ntmps7
  go_wp2_with fail
  go_loopw [3, 4] (fun sv iv wr => ∃ (k : Nat) (b : ByteArray), k ≤ len ∧ iv = .int .i64 k ∧ sv = .string b ∧ b.size ≤ 100000 ∧ wr = w) (fun _ iv _ => len - (intOf iv).toNat)
  case atStart => exact ⟨0, ⟨#[]⟩, Nat.zero_le _, rfl, rfl, by decide, rfl⟩
  case round =>
    obtain ⟨k, b, hk, rfl, rfl, hbs, rfl⟩ := hrel
    by_cases hlt : k < len
    · obtain ⟨hc, hsz⟩ := HC.out k hlt
      have hk0 : (0 : Int) ≤ (k : Int) := by omega
      have hkl : (k : Int) < (len : Int) := by omega
      have hw1 : IntKind.i64.wrap (100000 - (b.size : Int)) = 100000 - (b.size : Int) := IntWalk.i64_in _ (by omega)
      by_cases hlong : (100000 : Int) - (b.size : Int) < ((Sx k).size : Int)
      · go_wp2_with fail
        refine (Sha.awake _ HK.out).mono ?_
        rintro e w1 ⟨rfl, hb1⟩
        go_wp2
        go_ret
        exact ⟨rfl, hb1⟩
      · have hd : decide (((Sx k).size : Int) > 100000 - (b.size : Int)) = false := decide_eq_false hlong
        have hcon := fun W => run_string_add_sum (P := Tryd.prog) W b (Sx k) (by omega)
        go_wp2
        go_roundw
        case rel => exact ⟨k + 1, b ++ Sx k, by omega, by go_num, rfl, by rw [ByteArray.size_append]; omega, trivial⟩
        case measure => simp [intOf]; omega
    · obtain rfl : k = len := by omega
      obtain ⟨S, HS, RS⟩ := both b hbs
      go_wp2_with fail
      refine (Sha.awake _ HK.out).mono ?_
      rintro e w1 ⟨rfl, hb1⟩
      go_wp2_with fail
      refine (Sha.sum_at b _ (by omega) (HK.out.below hb1 HK.out.lt) S HS.out).mono ?_
      rintro e w2 ⟨rfl, hb2⟩
      have hb := hb1.trans (hb2.mono hb1.size)
      go_wp2_with fail
      refine (RS.out _ (HT.out.below hb HT.out.lt)).mono ?_
      rintro e w3 ⟨rfl, hb3⟩
      go_wp2
      go_ret
      exact ⟨rfl, hb.trans (hb3.mono hb.size)⟩

set_option maxRecDepth 100000 in
theorem lifted (os : Os) (started : os.Started) (H : Type) (enc : TypeId × Value → H) :
    ReturnsInHanded {} Tryd.checked os 7 .any (fun w args => (Rows.digestPartsSpec.pre enc Tryd.prog Tryd.f7 [] false w args ∧ laidMetH Tryd.prog Sha.two w) ∧ sizedMet enc Tryd.prog Tryd.f7 (OpenSpec.ofChange Rows.digestPartsSpec) false w args) (Rows.digestPartsSpec.post enc Tryd.prog Tryd.f7 false true false false) := by
  refine returnsInHanded_of_change_and (C := Tryd.checked) (X := fun w _ => laidMetH Tryd.prog Sha.two w) (fun _ _ _ hh h => h.of_heap hh) own started (by kernel_rfl) Tryd.func7
    (ChangeSpec.witness_shaped (enc := enc) (C := Tryd.checked) (os := os) (X := fun w _ => laidMetH Tryd.prog Sha.two w) false (World.doorLaid Tryd.prog 400 os) #[.slice none 0 0] 8 rfl (World.shaped_of_RefB (by kernel_rfl) (by kernel_rfl)) (by kernel_rfl) (by kernel_rfl) (by kernel_rfl) (Sha.met_two os _)) ?_
  intro W base args ds gs before hval0 hW _ _ hL _
  have hval : ∀ (j : Nat) t v, Tryd.f7.params[j]? = some t → args[j]? = some v → Value.okWide Tryd.prog W .any base t v := hval0
  have hW' := hW
  obtain ⟨p, q, hA0, hV, rfl, _, _⟩ := hW
  have hA : DataW.TrodAll enc Tryd.prog W 0 (fun _ => true) true Tryd.f7.params.toList args.toList ds p := hA0
  rw [Tryd.params7] at hA hval
  obtain ⟨v0, d0, rfl, rfl, h0⟩ := trodAll_one hA
  obtain ⟨rfl, rfl⟩ := trodVars_none hV
  clear hA0 hval0
  simp only [List.append_nil] at hW'
  have hlt : ∀ x ∈ p, x.block < W.heap.size := fun x hx => by simpa using hW'.lt x hx
  have harg : ∀ (W' : World), Below W.heap.size W W' → DataW.Trod enc Tryd.prog W' 0 (fun b => decide (b < W.heap.size)) true 30 v0 d0 p :=
    fun W' hn => Below.trod laidOut (by kernel_rfl) (of_decide_eq_true (by kernel_rfl)) h0 hn hlt
  obtain ⟨a0, len, cap, rfl⟩ := okWide_slice Tryd.underlying30 (hval 0 30 v0 rfl rfl)
  obtain ⟨fuel, hf⟩ := h0
  have hkt := Sha.of_two hL
  have run : Calls Tryd.prog 7 #[.slice a0 len cap] W fun e w' => e = .returned (.bool true) ∧ Below W.heap.size W w' := by
    rcases Go.Deep.open_strs Tryd.underlying30 Tryd.underlying9 cells9 hf with ⟨hcs, _⟩ | ⟨a, len', cap', m, Sx, hcs, _, hl, hm, hmm, _, hcell⟩
    · simp [Value.cells] at hcs
      obtain ⟨rfl, rfl, rfl⟩ := hcs
      exact walkNil W hkt
    · simp [Value.cells] at hcs
      obtain ⟨rfl, rfl, rfl⟩ := hcs
      exact walkSome a len cap (by omega) Sx W (fun i hi => hcell i (by rw [hmm]; split <;> omega)) hkt
  refine run.mono fun e W' ⟨he, hg⟩ => ?_
  subst he
  exact ⟨_, rfl, _, _, _, [], _, [], hW', (trodAll_cons_mk (shut_bool Tryd.underlying4 _) trodAll_mk0), trodAll_mk1 (harg W' hg), rfl, hg.frame _, fun h => by cases h⟩

theorem over : Rows.digestPartsRow.holds Tryd.pinned (OpenSpec.ofChange Rows.digestPartsSpec) :=
  OpenClaim.holds_of_wide 7 Tryd.f7 rfl rfl rfl rfl rfl rfl rfl ⟨rfl, rfl, rfl, rfl, rfl⟩ rfl rfl rfl rfl rfl (by kernel_rfl) Tryd.func7 (by kernel_rfl)
    (of_decide_eq_true (by kernel_rfl)) (by unfold Func.isWrapper; first | (rw [if_pos (by decide +kernel)]; kernel_rfl) | (rw [if_neg (by decide +kernel)]; exact ⟨rfl, rfl⟩))
    (fun os started H enc _ => lifted os started H enc)

/-- The statement: the tied card. -/
theorem proved : Rows.DigestPartsCardSaid :=
  Claim7.holds_tied_plain_at .later [] [.data, .data] true (true, "8e9f7b9b135d83a4f605c022fffade9a2ae323bc6facca77096a7213e8b1ae55") false
    over (fun _ h => by cases h) (by kernel_rfl) (fun _ h => by cases h) digestParts_row_tie rfl ⟨rfl, rfl⟩ (by kernel_rfl) rfl
    (fun f fn hf hfn => by
      obtain rfl : f = 7 := Option.some.inj ((show Tryd.prog.funcNamed "holdall/holdalllaw01.DigestParts" = some 7 by kernel_rfl).symm.trans hf) |>.symm
      obtain rfl : fn = Tryd.f7 := (Option.some.inj (Tryd.func7.symm.trans hfn)).symm
      exact ⟨by kernel_rfl, fun j t ht => by
        rw [Tryd.params7] at ht
        have hm : t ∈ [30] := by simpa using Array.mem_of_getElem? ht
        have hall : ([30].all fun u => !Tryd.prog.wantsStandIn u) = true := by kernel_rfl
        exact (show Tryd.prog.wantsStandIn t = false by simpa using List.all_eq_true.1 hall t hm)⟩)
    (by kernel_rfl)
#print axioms proved
end Go.Proofs.YtbgfndabfmjmkaaDoor.digestParts
