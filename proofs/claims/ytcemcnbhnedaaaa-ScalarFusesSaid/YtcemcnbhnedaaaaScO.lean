/- A number that came in as 32 bytes: its value; how it reads. -/
import Derived.Test.YtcemcnbhnedaaaaFldM
import Derived.Test.YtcemcnbhnedaaaaScI
import Derived.OpenShut
import Derived.ChangeAt
import Derived.DataShut
namespace Go.Proofs.Ytcemcnbhnedaaaa.Fld
open Go.RowKit Go.ChangeShapes Go.WideShapes Go.ChangeAt
open Go.Proofs.Ytcemcnbhnedaaaa.Num (val up val_congr val_add val_lt val_up val_digits val_word)
open Go.Proofs.Ytcemcnbhnedaaaa.Arr

theorem cellsN : Try.prog.cellsOf 23 = 32 := by kernel_rfl
theorem cellsB : Try.prog.cellsOf 5 = 1 := by kernel_rfl
def numOf (cs : Array Value) (j : Nat) : Nat := match cs[j]? with
  | some (.int _ n) => n.toNat
  | _ => 0
theorem row_bs' (f : Nat → Nat) (hf : ∀ j, j < 32 → f j < 256) : val 256 f 32 < MM ∧ rowOf .u8 f 32 = bs (val 256 f 32) := by
  refine ⟨by rw [MM_eq_b]; exact val_lt hf, rowOf_congr fun j hj => ?_⟩
  unfold bt
  exact (val_word hf hj).symm
section
variable {H : Type} {enc : TypeId × Value → H} {W W' : World} {base : Nat} {spare spare' : Nat → Bool} {held : Bool}
theorem trod_byte {m : Nat} {c : Value} {x : DataW H × List MemPlace} (h : DataW.trod enc Try.prog W base spare held m 5 [c] = some x) :
    ∃ n : Nat, n < 256 ∧ c = .int .u8 (n : Int) ∧ x.2 = [] ∧ DataW.trod enc Try.prog W' 0 spare' held m 5 [c] = some x := by
  obtain ⟨n, e, hx, hw⟩ := DataW.trod_int Try.underlying5 h
  simp only [List.cons.injEq, and_true] at e
  subst e
  have hb : 0 ≤ n ∧ n < 256 := by
    have := bounds_u8 hw
    omega
  obtain ⟨k, rfl⟩ := Int.eq_ofNat_of_zero_le hb.1
  refine ⟨k, by omega, rfl, by rw [hx], ?_⟩
  cases m with
  | zero => simp [DataW.trod] at h
  | succ m =>
    simp only [DataW.trod, Try.underlying5] at h ⊢
    exact h
theorem open_num {r : Reach} {b0 : Nat} {v : Value} {d : DataW H} {p : List MemPlace} (hval : Value.okWide Try.prog W r b0 23 v) (h : DataW.Trod enc Try.prog W base spare held 23 v d p) :
    ∃ n : Nat, n < MM ∧ v = .agg (bs n) ∧ p = [] ∧ ∀ (W' : World) (spare' : Nat → Bool), DataW.Trod enc Try.prog W' 0 spare' held 23 (.agg (bs n)) d [] := by
  obtain ⟨cs, rfl, hsz⟩ : ∃ cs, v = .agg cs ∧ cs.size = Try.prog.cellsOf 23 := by
    have := hval
    simp [Value.okWide, Try.underlying23] at this
    obtain ⟨cs, h1, h2, _⟩ := this
    exact ⟨cs, h1, h2⟩
  rw [cellsN] at hsz
  obtain ⟨fuel, hf⟩ := h
  obtain ⟨xs, m, rfl, hx, hlen, hl, hel⟩ := DataW.trod_array Try.underlying23 hf
  simp only [Value.cells] at hel hlen
  have hone : ∀ i, (hi : i < 32) → (cs.toList.drop (i * Try.prog.cellsOf 5)).take (Try.prog.cellsOf 5) = [cs[i]'(by omega)] := by
    intro i hi
    rw [cellsB, Nat.mul_one, List.drop_eq_getElem_cons (by simpa using (by omega : i < cs.size))]
    simp
  have hall : ∀ i, (hi : i < 32) → ∃ n : Nat, n < 256 ∧ cs[i]'(by omega) = .int .u8 (n : Int) ∧ (xs[i]'(by omega)).2 = [] ∧ ∀ (W' : World) (spare' : Nat → Bool), DataW.trod enc Try.prog W' 0 spare' held m 5 [cs[i]'(by omega)] = some (xs[i]'(by omega)) := by
    intro i hi
    have h1 := hel i hi
    rw [hone i hi, List.getElem?_eq_getElem (by omega)] at h1
    obtain ⟨n, h2, h3, h4, _⟩ := trod_byte (W' := W) (spare' := spare) h1
    refine ⟨n, h2, h3, h4, fun W' spare' => ?_⟩
    obtain ⟨_, _, _, _, h5⟩ := trod_byte (W' := W') (spare' := spare') h1
    exact h5
  have hrow : cs = rowOf .u8 (numOf cs) 32 := by
    apply Array.ext
    · rw [rowOf_size]; exact hsz
    · intro i h1 h2
      have hi : i < 32 := by omega
      obtain ⟨n, hn, he, _⟩ := hall i hi
      have e2 := rowOf_get .u8 (numOf cs) 32 i hi
      rw [Array.getElem?_eq_getElem h2] at e2
      rw [Option.some.inj e2, he]
      unfold numOf
      rw [Array.getElem?_eq_getElem h1, he]
      simp
  have hlt : ∀ j, j < 32 → numOf cs j < 256 := by
    intro j hj
    obtain ⟨n, hn, he, _⟩ := hall j hj
    unfold numOf
    rw [Array.getElem?_eq_getElem (by omega), he]
    simpa using hn
  obtain ⟨hM, hB⟩ := row_bs' (numOf cs) hlt
  rw [hB] at hrow
  have hp : p = [] := by
    have : p = xs.flatMap (·.2) := by
      have := congrArg Prod.snd hx
      simpa using this
    rw [this, List.flatMap_eq_nil_iff]
    intro y hy
    obtain ⟨i, hi, rfl⟩ := List.getElem_of_mem hy
    obtain ⟨_, _, _, h4, _⟩ := hall i (by omega)
    exact h4
  refine ⟨val 256 (numOf cs) 32, hM, by rw [← hrow], hp, fun W' spare' => ⟨m + 1, ?_⟩⟩
  rw [← hrow]
  have hmap : (List.range 32).mapM (fun i => DataW.trod enc Try.prog W' 0 spare' held m 5 ((cs.toList.drop (i * Try.prog.cellsOf 5)).take (Try.prog.cellsOf 5))) = some xs := by
    refine mapM_some_of_get _ _ (by simpa using hl) fun i x hix => ?_
    have hi : i < 32 := by
      have := (List.getElem?_eq_some_iff.1 hix).1
      simpa using this
    have hxi : x = i := by
      rw [List.getElem?_eq_getElem (by simpa using hi)] at hix
      simpa using hix.symm
    subst hxi
    obtain ⟨_, _, _, _, h5⟩ := hall x hi
    rw [hone x hi, h5 W' spare', List.getElem?_eq_getElem (by omega)]
  have hd : d = .agg (xs.map (·.1)) := by
    have := congrArg Prod.fst hx
    simpa using this
  have hp2 : xs.flatMap (·.2) = ([] : List MemPlace) := by
    have := congrArg Prod.snd hx
    simp at this
    rw [← hp]; simp [this]
  show DataW.trod enc Try.prog W' 0 spare' held (m + 1) 23 cs.toList = some (d, [])
  unfold DataW.trod
  simp only [Try.underlying23]
  rw [if_pos hlen, hmap, hd]
  simp [hp2]
end
end Go.Proofs.Ytcemcnbhnedaaaa.Fld
