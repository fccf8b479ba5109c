/- Layer 10: what the library's functions give, over lists of bytes; a text behind a row. -/
import Derived.Test.YtglnifckngcpkaaDoorPxT
import Derived.Test.YtglnifckngcpkaaDoorShelf
import Derived.Test.YtglnifckngcpkaaDoorCut
import Derived.Test.YtglnifckngcpkaaDoorAl
import Derived.Lib.SmallJoins
import Derived.Lib.AppendIntMem
import Derived.Lib.AtoiErrMem
import Derived.WideLaws
set_option linter.unusedVariables false
namespace Go.Proofs.YtglnifckngcpkaaDoor.Mem
open Go.RowKit
theorem m_appendTR {P : Program} {Q : Exit → Act → World → Prop} {K : Act → World → Prop} {oi : Oper} {a : Act} {r : Option Nat} {S : Nat → Prop} {w0 w : World} {L : List Ent} {e : TypeId} (i : Nat) {v : Value} {l : List UInt8} (inf : TypeInfo) (s x : Operand) (t u : TypeId) (tt : List UInt8) (hm : Mm r S w0 w L) (hi : L[i]? = some (.row v l.length (l.flatMap eB) e 1)) (d : Tmp) (hd : oi.dst = some d)
    (ho : oi.op = .call { callee := .builtin .append, args := #[s, x], argTypes := #[t, u] }) (ht : P.underlying t = some (.slice e)) (hu : P.underlying u = some .string) (hinf : P.info? e = some inf) (hz : inf.zero = some (.int .u8 0))
    (hsize : inf.size = 1) (hby : inf.bytes = 1) (hs : a.eval s = v) (hx : a.eval x = .string (tx tt)) (hb : (l.length + tt.length) * 1 ≤ 140737488355328)
    (h : ∀ v' w', Mm r S w0 w' (L.set i (.row v' (l ++ tt).length ((l ++ tt).flatMap eB) e 1)) → K { a with tmps := a.tmps.setIfInBounds d v' } w') : oi.wp P a w K Q := by
  refine m_appendT i inf s x t u tt hm hi d hd ho ht hu hinf hz hsize hby hs hx (by omega) (fun v' w' hm' => h v' w' ?_)
  rw [List.length_append, List.flatMap_append, eB_map tt]
  exact hm'
section
variable {P : Program} {o : Oper} {a : Act} {w : World} {x y : Operand} {T T' : TypeId}
theorem u8_wrap (n : Int) (h : 0 ≤ n) : IntKind.u8.wrap n = (((UInt8.ofNat n.toNat).toNat : Nat) : Int) := by
  rw [UInt8.toNat_ofNat']
  simp [IntKind.wrap, IntKind.bits, IntKind.signed]
  omega
theorem u_add {T' : TypeId} (n m : Nat) (ho : o.op = .binOp .add T x y T') (hx : a.eval x = .int .u8 ((n : Nat) : Int)) (hy : a.eval y = .int .u8 ((m : Nat) : Int)) : (execOp a.eval o).run P w = .ok (.value (.int .u8 (((UInt8.ofNat (n + m)).toNat : Nat) : Int))) w := by
  have e := u8_wrap ((n : Int) + (m : Int)) (by omega)
  rw [show ((n : Int) + (m : Int)).toNat = n + m from by omega] at e
  rw [← e]
  unfold execOp
  simp only [ho, hx, hy]
  generalize a.eval = f at *
  go_simp
theorem if_neq0 (hT : P.underlying T = some (.interface (P.methodsAt T))) (ho : o.op = .binOp .neq T x (.const .nilIface) T') (hx : a.eval x = .nilIface) : (execOp a.eval o).run P w = .ok (.value (.bool false)) w := by
  have hy : a.eval (.const .nilIface) = .nilIface := rfl
  have h2 := run_neq_nil_nil (P := P) w T hT
  unfold execOp
  simp only [ho, hx, hy]
  generalize a.eval = f at *
  go_simp
theorem if_neq1 {t : TypeId} {p : Value} (hT : P.underlying T = some (.interface (P.methodsAt T))) (ho : o.op = .binOp .neq T x (.const .nilIface) T') (hx : a.eval x = .iface t p) : (execOp a.eval o).run P w = .ok (.value (.bool true)) w := by
  have hy : a.eval (.const .nilIface) = .nilIface := rfl
  have h2 := run_neq_held_nil (P := P) w T t p hT
  unfold execOp
  simp only [ho, hx, hy]
  generalize a.eval = f at *
  go_simp
end
end Go.Proofs.YtglnifckngcpkaaDoor.Mem
namespace Go.Proofs.YtglnifckngcpkaaDoor.Px
open Go.RowKit
open Go.Proofs.YtglnifckngcpkaaDoor.Mem
theorem tx_dl (s : List UInt8) : (tx s).data.toList = s := by simp [tx]
/-- What the library's tables and variables hold. -/
structure Laid (w : World) : Prop where
  tab : Lib.TabIs Tryd.prog w "internal/strconv.uint64pow10" .u64 Lib.pow10Tab
  e2 : ∃ te pe, w.cell? ⟨2, 0, none⟩ = some (.iface te pe)
  e3 : ∃ te pe, w.cell? ⟨3, 0, none⟩ = some (.iface te pe)
  max : ∃ m, w.cell? ⟨1, 0, none⟩ = some (.int .i64 m)
theorem Laid.below {w w' : World} (h : Laid w) (hb : Below w.heap.size w w') : Laid w' := by
  refine ⟨(Lib.tabBelow_of_tabIs h.tab) w' hb, ?_, ?_, ?_⟩
  · obtain ⟨t, p, hm⟩ := h.e2
    exact ⟨t, p, (hb.cell (p := ⟨2, 0, none⟩) (block_lt_of_cell hm)).trans hm⟩
  · obtain ⟨t, p, hm⟩ := h.e3
    exact ⟨t, p, (hb.cell (p := ⟨3, 0, none⟩) (block_lt_of_cell hm)).trans hm⟩
  · obtain ⟨m, hm⟩ := h.max
    exact ⟨m, (hb.cell (p := ⟨1, 0, none⟩) (block_lt_of_cell hm)).trans hm⟩
def ib_m (s : List UInt8) (c : Nat) : Int := Lib.indexByte s c.toUInt8
theorem ib_any (s : List UInt8) (c : Nat) (w : World) : Calls Tryd.prog 47 #[.string (tx s), .int .u8 ((c : Nat) : Int)] w (fun e w' => e = .returned (.int .i64 (ib_m s c)) ∧ Below w.heap.size w w') := by
  refine (Tryd.strings_IndexByte (tx s) ((c : Nat) : Int) w).mono ?_
  rintro e w' ⟨rfl, rfl⟩
  rw [tx_dl, Int.toNat_natCast]
  exact ⟨rfl, Below.refl _ _⟩
theorem below_drewN {B : Nat} {a w : World} (h : Below B a w) : ∀ q, Below B a (w.drewN q)
  | 0 => h
  | q + 1 => (below_drewN h q).drew
def cut_m (s sep : List UInt8) : List UInt8 × List UInt8 × Bool := Lib.cut s sep
theorem cut_any (s sep : List UInt8) (w : World) (hT : Laid w) (hp0 : s.length < 4294967281) : Calls Tryd.prog 55 #[.string (tx s), .string (tx sep)] w (fun e w' => e = .returned (.tuple #[.string (tx (cut_m s sep).1), .string (tx (cut_m s sep).2.1), .bool (cut_m s sep).2.2]) ∧ Below w.heap.size w w') := by
  obtain ⟨m, hm⟩ := hT.max
  refine (Tryd.strings_Cut (tx s) (tx sep) m w (by rw [tx_size]; exact hp0) hm).mono ?_
  rintro e w' ⟨rfl, n, rfl⟩
  rw [tx_dl, tx_dl]
  exact ⟨rfl, below_drewN (Below.refl _ _) n⟩
theorem cut_len (s sep : List UInt8) : (cut_m s sep).1.length + (cut_m s sep).2.1.length ≤ s.length := by
  unfold cut_m Lib.cut
  split
  · simp only [List.length_take, List.length_drop]
    omega
  · simp
def itoa_m (n : Int) : List UInt8 := Lib.itoa n
theorem itoa_any (n : Int) (w : World) (hT : Laid w) (hp0 : -9223372036854775808 ≤ n) (hp1 : n ≤ 9223372036854775807) : Calls Tryd.prog 57 #[.int .i64 n] w (fun e w' => e = .returned (.string (tx (itoa_m n))) ∧ Below w.heap.size w w') := by
  refine (Tryd.strconv_Itoa n hp0 hp1 w hT.tab).mono ?_
  rintro e w' ⟨rfl, k, os, rfl⟩
  exact ⟨rfl, Lib.below_grow _ _ (Nat.le_refl _) k os⟩
theorem dd_len : ∀ k n, n < 10 ^ (k + 1) → 1 ≤ (Lib.decDigits n).length ∧ (Lib.decDigits n).length ≤ k + 1
  | 0, n, h => by
    rw [Lib.decDigits, dif_pos (by simpa using h)]
    simp
  | k + 1, n, h => by
    rw [Lib.decDigits]
    split
    · simp
    · have := dd_len k (n / 10) (by rw [Nat.pow_succ] at h; omega)
      rw [List.length_append, List.length_singleton]
      omega
theorem dd_mono : ∀ n m, m ≤ n → (Lib.decDigits m).length ≤ (Lib.decDigits n).length := by
  intro n
  induction n using Nat.strongRecOn with
  | _ n ih =>
    intro m hm
    have e : ∀ u, ¬ u < 10 → Lib.decDigits u = Lib.decDigits (u / 10) ++ [UInt8.ofNat (48 + u % 10)] := fun u h => by rw [Lib.decDigits, dif_neg h]
    have e1 : ∀ u, u < 10 → (Lib.decDigits u).length = 1 := fun u h => by rw [Lib.decDigits, dif_pos h]; rfl
    by_cases h1 : m < 10
    · rw [e1 m h1]
      by_cases h2 : n < 10
      · rw [e1 n h2]; exact Nat.le_refl _
      · rw [e n h2, List.length_append, List.length_singleton]; omega
    · rw [e m h1, e n (by omega), List.length_append, List.length_append, List.length_singleton, List.length_singleton]
      have := ih (n / 10) (by omega) (m / 10) (by omega)
      omega
theorem itoa_nat (n : Int) (h : 0 ≤ n) : itoa_m n = Lib.decDigits n.toNat := by unfold itoa_m Lib.itoa; rw [if_neg (by omega)]
theorem itoa_len (n : Int) (h0 : 0 ≤ n) (h1 : n ≤ 9223372036854775807) : 1 ≤ (itoa_m n).length ∧ (itoa_m n).length ≤ 19 := by
  rw [itoa_nat n h0]
  exact dd_len 18 n.toNat (by omega)
theorem itoa_mono (n m : Int) (h0 : 0 ≤ n) (h1 : n ≤ m) : (itoa_m n).length ≤ (itoa_m m).length := by
  rw [itoa_nat n h0, itoa_nat m (by omega)]
  exact dd_mono _ _ (by omega)
def atoi_ok (s : List UInt8) : Bool := match Lib.atoiAll s with
  | .ok _ => true
  | _ => false
def atoi_v (s : List UInt8) : Int := match Lib.atoiAll s with
  | .ok v => v
  | _ => 0
theorem atoi_is {s : List UInt8} (h : atoi_ok s = true) : Lib.atoiAll s = .ok (atoi_v s) := by
  unfold atoi_ok at h
  unfold atoi_v
  split at h
  · rename_i v hv; rw [hv]
  · cases h
theorem atoi_yes (s : List UInt8) (h : atoi_ok s = true) (w : World) (hp0 : s.length ≤ 281474976710656) : Calls Tryd.prog 62 #[.string (tx s)] w (fun e w' => e = .returned (.tuple #[.int .i64 (atoi_v s), .nilIface]) ∧ Below w.heap.size w w') := by
  refine (Tryd.strconv_Atoi_ok (tx s) (by rw [tx_size]; omega) (atoi_v s) (by rw [tx_dl]; exact atoi_is h) w).mono ?_
  rintro e w' ⟨rfl, h2⟩
  refine ⟨rfl, ?_⟩
  rcases h2 with rfl | ⟨t, rfl⟩
  · exact Below.refl _ _
  · exact Lib.bytesWorld_below _ _ _
theorem atoi_no (s : List UInt8) (h : ¬ atoi_ok s = true) (w : World) (hT : Laid w) (hp0 : s.length ≤ 281474976710656) : Calls Tryd.prog 62 #[.string (tx s)] w (fun e w' => (∃ v, e = .returned v ∧ ∃ (N : Nat) (q : Int), v = .tuple #[.int .i64 q, .iface 99 (.pointer (some ⟨N, 0, none⟩))]) ∧ Below w.heap.size w w') := by
  cases hq : Lib.atoiAll s
  · exact absurd (by unfold atoi_ok; rw [hq]) h
  · obtain ⟨te, pe, he⟩ := hT.e2
    refine (Any.strconv_Atoi_syntax Tryd.laysC172 (tx s) (by rw [tx_size]; omega) (by rw [tx_dl]; exact hq) _ w he (.inr ⟨te, pe, rfl⟩)).mono ?_
    rintro e w' ⟨N, rfl, _, _, hb⟩
    exact ⟨⟨_, rfl, N, 0, rfl⟩, hb⟩
  · obtain ⟨te, pe, he⟩ := hT.e3
    refine (Tryd.strconv_Atoi_range (tx s) (by rw [tx_size]; omega) (by rw [tx_dl]; exact hq) _ w he (.inr ⟨te, pe, rfl⟩)).mono ?_
    rintro e w' ⟨N, rfl, _, _, hb⟩
    exact ⟨⟨_, rfl, N, _, rfl⟩, hb⟩
theorem atoi_rng (s : List UInt8) (h : atoi_ok s = true) : -9223372036854775808 ≤ atoi_v s ∧ atoi_v s ≤ 9223372036854775807 := by
  have h1 := atoi_is h
  revert h1
  generalize atoi_v s = v
  unfold Lib.atoiAll
  intro h1
  split at h1
  · cases h1
  · dsimp only at h1
    split at h1
    · cases h1
    · cases h1
    · split at h1
      · cases h1
      · split at h1
        · cases h1
        · simp only [Lib.NumEnd.ok.injEq] at h1
          subst h1
          split <;> omega
end Go.Proofs.YtglnifckngcpkaaDoor.Px
