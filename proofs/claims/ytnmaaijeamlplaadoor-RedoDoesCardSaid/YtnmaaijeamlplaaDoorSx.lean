import Derived.Test.YtnmaaijeamlplaaDoorSym
import Derived.Test.YtnmaaijeamlplaaDoorSkp
import Derived.Lib.EndianBits
set_option linter.unusedVariables false
set_option linter.unusedSimpArgs false
namespace Go.Proofs.YtnmaaijeamlplaaDoor.Sx
open Go.RowKit
open Go.Proofs.YtnmaaijeamlplaaDoor.Arr Go.Proofs.YtnmaaijeamlplaaDoor.Sym
def lim : IntKind → Nat
 | .u8 => 256
 | .u16 => 65536
 | .u32 => 4294967296
 | .u64 => 18446744073709551616
 | .i8 => 128
 | .i16 => 32768
 | .i32 => 2147483648
 | .i64 => 9223372036854775808
theorem wrap_nat {k : IntKind} {n : Nat} (h : n < lim k) : k.wrap (n : Int) = (n : Int) := by
 cases k <;> simp only [lim] at h <;> (simp [IntKind.wrap, IntKind.bits, IntKind.signed]; omega)
structure Mm (w W : World) (l : List (Nat × Array Value × TypeId)) : Prop where
 blk : ∀ (i g : Nat) (c : Array Value) (T : TypeId), l[i]? = some (g, c, T) → Blk W g c T
 low : ∀ (i g : Nat) (c : Array Value) (T : TypeId), l[i]? = some (g, c, T) → w.heap.size ≤ g
 ne : ∀ (i j g : Nat) (c : Array Value) (T : TypeId) (g' : Nat) (c' : Array Value) (T' : TypeId), l[i]? = some (g, c, T) → l[j]? = some (g', c', T') → i ≠ j → g ≠ g'
 below : Below w.heap.size w W
section
variable {w W W' : World} {l : List (Nat × Array Value × TypeId)} {g : Nat} {c d : Array Value} {T : TypeId}
theorem Mm.nil (w : World) : Mm w w [] := ⟨fun i g c T h => by simp at h, fun i g c T h => by simp at h, fun i j g c T g' c' T' h => by simp at h, Below.refl _ _⟩
theorem Mm.at (h : Mm w W l) (i : Nat) (hi : l[i]? = some (g, c, T)) : Blk W g c T := h.blk i g c T hi
theorem Mm.call (h : Mm w W l) (hb : Below W.heap.size W W') : Mm w W' l :=
 ⟨fun i g c T hi => (h.blk i g c T hi).call hb, h.low, h.ne, bel_call h.below hb⟩
theorem Mm.drew (h : Mm w W l) : Mm w W.drew l := ⟨fun i g c T hi => (h.blk i g c T hi).drew, h.low, h.ne, h.below.drew⟩
theorem Mm.alloc (h : Mm w W l) (c : Array Value) (T : TypeId) : Mm w (W.alloc (.cells c T)) (l ++ [(W.heap.size, c, T)]) := by
 have key : ∀ i g' c' T', (l ++ [(W.heap.size, c, T)])[i]? = some (g', c', T') → (i < l.length ∧ l[i]? = some (g', c', T')) ∨ (i = l.length ∧ g' = W.heap.size ∧ c' = c ∧ T' = T) := by
  intro i g' c' T' hi
  by_cases hl : i < l.length
  ·rw [List.getElem?_append_left hl] at hi; exact .inl ⟨hl, hi⟩
  rw [List.getElem?_append_right (by omega)] at hi
  cases hk : i - l.length with
  | zero => rw [hk] at hi; simp at hi; exact .inr ⟨by omega, hi.1.symm, hi.2.1.symm, hi.2.2.symm⟩
  | succ k => rw [hk] at hi; simp at hi
 refine ⟨fun i g' c' T' hi => ?_, fun i g' c' T' hi => ?_, fun i j g' c' T' g2 c2 T2 hi hj hij => ?_, h.below.alloc h.below.size _⟩
 ·rcases key _ _ _ _ hi with ⟨_, h1⟩ | ⟨_, rfl, rfl, rfl⟩
  ·exact (h.blk _ _ _ _ h1).alloc rfl
  exact Blk.new rfl
 ·rcases key _ _ _ _ hi with ⟨_, h1⟩ | ⟨_, rfl, rfl, rfl⟩
  ·exact h.low _ _ _ _ h1
  exact h.below.size
 rcases key _ _ _ _ hi with ⟨_, h1⟩ | ⟨e1, rfl, rfl, rfl⟩
 ·rcases key _ _ _ _ hj with ⟨_, h2⟩ | ⟨_, rfl, rfl, rfl⟩
  ·exact h.ne _ _ _ _ _ _ _ _ h1 h2 hij
  exact Nat.ne_of_lt (h.blk _ _ _ _ h1).lt
 rcases key _ _ _ _ hj with ⟨_, h2⟩ | ⟨e2, rfl, rfl, rfl⟩
 ·exact (Nat.ne_of_lt (h.blk _ _ _ _ h2).lt).symm
 omega
theorem Mm.set (h : Mm w W l) (i : Nat) (hi : l[i]? = some (g, c, T)) (d : Array Value) : Mm w (W.setRow g d) (l.set i (g, d, T)) := by
 have hl : i < l.length := (List.getElem?_eq_some_iff.1 hi).1
 have key : ∀ j g' c' T', (l.set i (g, d, T))[j]? = some (g', c', T') → (j = i ∧ g' = g ∧ c' = d ∧ T' = T) ∨ (j ≠ i ∧ l[j]? = some (g', c', T')) := by
  intro j g' c' T' hj
  by_cases e : j = i
  ·subst e; rw [List.getElem?_set_self hl] at hj; simp at hj; exact .inl ⟨rfl, hj.1.symm, hj.2.1.symm, hj.2.2.symm⟩
  rw [List.getElem?_set_ne (fun e' => e e'.symm)] at hj; exact .inr ⟨e, hj⟩
 refine ⟨fun j g' c' T' hj => ?_, fun j g' c' T' hj => ?_, fun j m g' c' T' g2 c2 T2 hj hm hjm => ?_, below_setRow h.below (h.low _ _ _ _ hi)⟩
 ·rcases key _ _ _ _ hj with ⟨_, rfl, rfl, rfl⟩ | ⟨e, h1⟩
  ·exact (h.blk _ _ _ _ hi).set rfl
  exact (h.blk _ _ _ _ h1).other (h.ne _ _ _ _ _ _ _ _ h1 hi e) rfl
 ·rcases key _ _ _ _ hj with ⟨_, rfl, rfl, rfl⟩ | ⟨e, h1⟩
  ·exact h.low _ _ _ _ hi
  exact h.low _ _ _ _ h1
 rcases key _ _ _ _ hj with ⟨e1, rfl, rfl, rfl⟩ | ⟨e, h1⟩
 ·rcases key _ _ _ _ hm with ⟨e2, rfl, rfl, rfl⟩ | ⟨e2, h2⟩
  ·omega
  exact h.ne _ _ _ _ _ _ _ _ hi h2 (fun e' => e2 e'.symm)
 rcases key _ _ _ _ hm with ⟨e2, rfl, rfl, rfl⟩ | ⟨e2, h2⟩
 ·exact h.ne _ _ _ _ _ _ _ _ h1 hi e
 exact h.ne _ _ _ _ _ _ _ _ h1 h2 hjm
theorem Mm.reorder (h : Mm w W l) (p : List Nat) (hp : p.Nodup) (ha : (p.all fun i => decide (i < l.length)) = true) : Mm w W (p.map fun i => l.getD i (0, #[], 0)) := by
 have key : ∀ (k g : Nat) (c : Array Value) (T : TypeId), (p.map fun i => l.getD i (0, #[], 0))[k]? = some (g, c, T) → ∃ i, p[k]? = some i ∧ l[i]? = some (g, c, T) := by
  intro k g c T hk
  rw [List.getElem?_map] at hk
  cases hpk : p[k]? with
  | none => rw [hpk] at hk; cases hk
  | some i =>
   have hi : i < l.length := by
    rw [List.all_eq_true] at ha
    exact of_decide_eq_true (ha i (List.mem_of_getElem? hpk))
   rw [hpk] at hk
   simp only [Option.map_some, Option.some.injEq] at hk
   refine ⟨i, rfl, ?_⟩
   rw [List.getD_eq_getElem?_getD, List.getElem?_eq_getElem hi] at hk
   rw [List.getElem?_eq_getElem hi, ← hk]; rfl
 refine ⟨fun k g c T hk => ?_, fun k g c T hk => ?_, fun k m g c T g' c' T' hk hm hkm => ?_, h.below⟩
 ·obtain ⟨i, _, hi⟩ := key _ _ _ _ hk; exact h.blk _ _ _ _ hi
 ·obtain ⟨i, _, hi⟩ := key _ _ _ _ hk; exact h.low _ _ _ _ hi
 obtain ⟨i, h1, hi⟩ := key _ _ _ _ hk
 obtain ⟨j, h2, hj⟩ := key _ _ _ _ hm
 refine h.ne _ _ _ _ _ _ _ _ hi hj fun e => hkm ?_
 subst e
 obtain ⟨k1, e1⟩ := List.getElem?_eq_some_iff.1 h1
 obtain ⟨k2, e2⟩ := List.getElem?_eq_some_iff.1 h2
 have hn := List.pairwise_iff_getElem.1 hp
 rcases Nat.lt_trichotomy k m with h3 | h3 | h3
 ·exact absurd (e1.trans e2.symm) (hn k m k1 k2 h3)
 ·exact h3
 exact absurd (e2.trans e1.symm) (hn m k k2 k1 h3)
theorem Mm.put (h : Mm w W l) (i : Nat) (hi : l[i]? = some (g, c, T)) (j : Nat) (v : Value) (hd : c.setIfInBounds j v = d) : Mm w (W.setCell ⟨g, j, none⟩ v) (l.set i (g, d, T)) := by
 have e : W.setCell ⟨g, j, none⟩ v = W.setRow g (c.setIfInBounds j v) := setCell_eq_setRow W g j c T (0, 0) v (h.blk _ _ _ _ hi)
 rw [e, hd]
 exact h.set i hi d
end
section
variable {P : Program} {Q : Exit → Act → World → Prop} {K : Act → World → Prop} {a : Act} {w : World} {id id' : Nat}
theorem tj (h : K a w) : Exit.then K Q .normal a w := h
theorem then_x (h : Q (.exit id) a w) : Exit.then K Q (.exit id) a w := h
theorem then_r (h : Q .ret a w) : Exit.then K Q .ret a w := h
theorem blk_n (h : Q .normal a w) : Exit.inBlock id Q .normal a w := h
theorem blk_r (h : Q .ret a w) : Exit.inBlock id Q .ret a w := h
theorem blk_x (h : Q .normal a w) : Exit.inBlock id Q (.exit id) a w := by
 show (if id = id then Q .normal a w else Q (.exit id) a w)
 rw [if_pos rfl]; exact h
theorem wp_loop_n {c : Code} (I : Nat → Act → World → Prop) {n : Nat} (h₀ : I n a w)
  (round : ∀ n a w, I n a w → ∀ R : Act → World → Prop, (∀ m a' w', I m a' w' → m < n → R a' w') → c.wp P (Exit.then R Q) a w) : (Code.loop c).wp P Q a w := by
 intro b k cs
 have key : ∀ n a w, I n a w →
   ∃ e a' w', Q e a' w' ∧ Arrives P (lone (b.at a (.code c :: .inLoop c :: k)) cs w) b k cs e a' w' := by
  intro n
  induction n using Nat.strongRecOn with
  | _ n ih =>
   intro a w hI
   obtain ⟨e, a₁, w₁, hq, harr⟩ := round n a w hI (fun a' w' => ∃ m, m < n ∧ I m a' w') (fun m a' w' h1 h2 => ⟨m, h2, h1⟩) b (.inLoop c :: k) cs
   cases e with
   | normal =>
    obtain ⟨m, hlt, hI₁⟩ := hq
    obtain ⟨e₂, a₂, w₂, hq₂, harr₂⟩ := ih m hlt a₁ w₁ hI₁
    exact ⟨e₂, a₂, w₂, hq₂, .of_steps (Steps.trans harr (.one step_inLoop)) harr₂⟩
   | exit id => exact ⟨_, a₁, w₁, hq, .pass (x := .inLoop c) rfl (fun _ _ => .inl (by simp)) harr⟩
   | goto l => exact ⟨_, a₁, w₁, hq, .pass (x := .inLoop c) rfl (fun _ _ => .inl (by simp)) harr⟩
   | ret => exact ⟨_, a₁, w₁, hq, .pass (x := .inLoop c) rfl (fun _ _ => .inl (by simp)) harr⟩
   | panic ch => exact ⟨_, a₁, w₁, hq, .pass (x := .inLoop c) rfl (fun _ _ => .inl (by simp)) harr⟩
   | outgrown => exact ⟨_, a₁, w₁, hq, .pass (x := .inLoop c) rfl (fun _ _ => .inl (by simp)) harr⟩
 obtain ⟨e, a', w', hq, harr⟩ := key n a w h₀
 exact ⟨e, a', w', hq, .of_steps (.one step_loop) harr⟩
theorem cond_t {c : Operand} {x y : Code} (hc : a.eval c = .bool true) (h : x.wp P Q a w) : (Code.cond c x y).wp P Q a w := wp_cond hc h
theorem cond_f {c : Operand} {x y : Code} (hc : a.eval c = .bool false) (h : y.wp P Q a w) : (Code.cond c x y).wp P Q a w := wp_cond hc h
theorem cond_d {c : Operand} {x y : Code} (p : Prop) [Decidable p] (hc : a.eval c = .bool (decide p)) (h1 : p → x.wp P Q a w) (h2 : ¬ p → y.wp P Q a w) : (Code.cond c x y).wp P Q a w :=
 wp_cond_split hc (fun h => h1 (of_decide_eq_true h)) (fun h => h2 (of_decide_eq_false h))
theorem cond_b {c : Operand} {x y : Code} (b : Bool) (hc : a.eval c = .bool b) (h1 : b = true → x.wp P Q a w) (h2 : b = false → y.wp P Q a w) : (Code.cond c x y).wp P Q a w :=
 wp_cond_split hc h1 h2
end
section
variable {P : Program} {ops : Array Oper} {Q : Exit → Act → World → Prop} {md : Region.Mode} {S : World → Prop}
end
section
variable {P : Program} {fn : Func} {p q : Tmp} {ty ty' : TypeId} {tmps : Array Value} {w : World} {g g' : Nat} {t t' : TypeId} {cs cs' : Array Value} {d d' : TypeDesc} {v v' : Value}
theorem res_t (h : fn.results = #[.tmp p]) (hp : tmps.getD p undef = v) : (results fn tmps).run P w = .ok v w := by
 have hp' : tmps[p]?.getD undef = v := by simpa using hp
 simp [results, h, hp']
theorem res_tt (h : fn.results = #[.tmp p, .tmp q]) (hp : tmps.getD p undef = v) (hq : tmps.getD q undef = v') : (results fn tmps).run P w = .ok (.tuple #[v, v']) w := by
 have hp' : tmps[p]?.getD undef = v := by simpa using hp
 have hq' : tmps[q]?.getD undef = v' := by simpa using hq
 simp [results, h, hp', hq']
theorem res_c (h : fn.results = #[.cell p ty]) (hp : tmps.getD p undef = .pointer (some ⟨g, 0, none⟩)) (hg : Blk w g cs t) (hu : P.underlying ty = some d) (hd : (match d with | .struct _ | .array _ _ => true | _ => false) = true) (hi : (P.info? ty).map (·.size) = some cs.size) :
  (results fn tmps).run P w = .ok (.agg cs) w := by
 have hp' : tmps[p]?.getD undef = .pointer (some ⟨g, 0, none⟩) := by simpa using hp
 simp [results, h, hp', asAddr, run_loadVar_row w g t ty cs (0, 0) d hg hu hd hi]
theorem res_ct (h : fn.results = #[.cell p ty, .tmp q]) (hp : tmps.getD p undef = .pointer (some ⟨g, 0, none⟩)) (hg : Blk w g cs t) (hu : P.underlying ty = some d) (hd : (match d with | .struct _ | .array _ _ => true | _ => false) = true) (hi : (P.info? ty).map (·.size) = some cs.size)
  (hq : tmps.getD q undef = v) : (results fn tmps).run P w = .ok (.tuple #[.agg cs, v]) w := by
 have hp' : tmps[p]?.getD undef = .pointer (some ⟨g, 0, none⟩) := by simpa using hp
 have hq' : tmps[q]?.getD undef = v := by simpa using hq
 simp [results, h, hp', hq', asAddr, run_loadVar_row w g t ty cs (0, 0) d hg hu hd hi]
end
section
variable {P : Program} {Q : Exit → Act → World → Prop} {K : Act → World → Prop} {oi : Oper} {a : Act} {w0 w : World} {l : List (Nat × Array Value × TypeId)}
theorem m_alloc {c : Array Value} {T : TypeId} (hm : Mm w0 w l) (d : Tmp) (hd : oi.dst = some d) (hrun : (execOp a.eval oi).run P w = .ok (.value (.pointer (some ⟨w.heap.size, 0, none⟩))) (w.alloc (.cells c T)))
  (h : ∀ g w', Mm w0 w' (l ++ [(g, c, T)]) → K { a with tmps := a.tmps.setIfInBounds d (.pointer (some ⟨g, 0, none⟩)) } w') : oi.wp P a w K Q := by
 unfold Oper.wp
 rw [hrun]
 have := h _ _ (hm.alloc c T)
 show K (a.put oi.dst _) _
 unfold Act.put
 rw [hd]
 exact this
theorem m_store (i : Nat) (ty : TypeId) (x y : Operand) {g : Nat} (cells : Array Value) {T : TypeId} {old : Array Value} (hm : Mm w0 w l) (hi : l[i]? = some (g, old, T)) (hd : oi.dst = none)
  (ho : oi.op = .store ty x y) (hx : a.eval x = .pointer (some ⟨g, 0, none⟩)) (hy : a.eval y = .agg cells) (hz : (P.info? ty).map (·.size) = some cells.size)
  (hold : old.size = cells.size) (h1 : cells.all (·.oneCell') = true) (h : ∀ w', Mm w0 w' (l.set i (g, cells, T)) → K a w') : oi.wp P a w K Q :=
 wp_store_row ty x y ho g cells hx hy T old (hm.at i hi) hz hold h1 (by unfold Act.put; rw [hd]; exact h _ (hm.set i hi cells))
theorem m_call {f : FuncId} {args : Array Value} (hm : Mm w0 w l) (d : Tmp) (v : Value) (hd : oi.dst = some d) (hrun : (execOp a.eval oi).run P w = .ok (.enter f args) w) (hc : Calls P f args w fun e w' => e = .returned v ∧ Below w.heap.size w w')
  (h : ∀ w', Mm w0 w' l → K { a with tmps := a.tmps.setIfInBounds d v } w') : oi.wp P a w K Q :=
 w_enter d v hd hrun hc fun w' hb => h w' (hm.call hb)
theorem m_callx {f : FuncId} {args : Array Value} {R : Value → Prop} (hm : Mm w0 w l) (d : Tmp) (hd : oi.dst = some d) (hrun : (execOp a.eval oi).run P w = .ok (.enter f args) w) (hc : Calls P f args w fun e w' => (∃ v, e = .returned v ∧ R v) ∧ Below w.heap.size w w')
  (h : ∀ v w', R v → Mm w0 w' l → K { a with tmps := a.tmps.setIfInBounds d v } w') : oi.wp P a w K Q := by
 unfold Oper.wp
 rw [hrun]
 show Calls P f args w _
 refine hc.mono ?_
 rintro e w' ⟨⟨v, rfl, hv⟩, hb⟩
 have := h v w' hv (hm.call hb)
 show K (a.put oi.dst v) w'
 unfold Act.put
 rw [hd]
 exact this
end
section
variable {P : Program} {o : Oper} {a : Act} {w : World} {x y : Operand} {T T' : TypeId} {k yk : IntKind}
theorem r_add (n m : Nat) (h : n + m < lim k) (ho : o.op = .binOp .add T x y T') (hx : a.eval x = .int k (n : Int)) (hy : a.eval y = .int k (m : Int)) : (execOp a.eval o).run P w = .ok (.value (.int k ((n + m : Nat) : Int))) w := by
 have e := wrap_nat h
 unfold execOp
 simp only [ho, hx, hy]
 generalize a.eval = f at *
 rw [Int.natCast_add] at *
 go_simp
theorem r_subZ (n m z : Int) (h : k.wrap (n - m) = z) (ho : o.op = .binOp .sub T x y T') (hx : a.eval x = .int k n) (hy : a.eval y = .int k m) : (execOp a.eval o).run P w = .ok (.value (.int k z)) w := by
 unfold execOp
 simp only [ho, hx, hy]
 generalize a.eval = f at *
 go_simp
theorem r_mul (n m : Nat) (h : n * m < lim k) (ho : o.op = .binOp .mul T x y T') (hx : a.eval x = .int k (n : Int)) (hy : a.eval y = .int k (m : Int)) : (execOp a.eval o).run P w = .ok (.value (.int k ((n * m : Nat) : Int))) w := by
 have e := wrap_nat h
 unfold execOp
 simp only [ho, hx, hy]
 generalize a.eval = f at *
 rw [Int.natCast_mul] at *
 go_simp
theorem r_quo (n m : Nat) (h : n < lim k) (hm : 0 < m) (ho : o.op = .binOp .quo T x y T') (hx : a.eval x = .int k (n : Int)) (hy : a.eval y = .int k (m : Int)) : (execOp a.eval o).run P w = .ok (.value (.int k ((n / m : Nat) : Int))) w := by
 have e := wrap_nat (k := k) (n := n / m) (Nat.lt_of_le_of_lt (Nat.div_le_self _ _) h)
 have h0 : ¬ m = 0 := by omega
 unfold execOp
 simp only [ho, hx, hy]
 generalize a.eval = f at *
 rw [Int.natCast_ediv] at *
 go_simp
theorem r_rem (n m : Nat) (h : n < lim k) (hm : 0 < m) (ho : o.op = .binOp .rem T x y T') (hx : a.eval x = .int k (n : Int)) (hy : a.eval y = .int k (m : Int)) : (execOp a.eval o).run P w = .ok (.value (.int k ((n % m : Nat) : Int))) w := by
 have e := wrap_nat (k := k) (n := n % m) (Nat.lt_of_le_of_lt (Nat.mod_le _ _) h)
 have h0 : ¬ m = 0 := by omega
 unfold execOp
 simp only [ho, hx, hy]
 generalize a.eval = f at *
 rw [Int.natCast_emod] at *
 go_simp
 exact Int.tmod_eq_emod_of_nonneg (by omega)
theorem or_sum (n m i : Nat) (hn : n % 2 ^ i = 0) (hm : m < 2 ^ i) : n ||| m = n + m := by
 have hq : n = 2 ^ i * (n / 2 ^ i) := by
  have := Nat.div_add_mod n (2 ^ i)
  omega
 rw [hq, ← Nat.two_pow_add_eq_or_of_lt hm]
theorem r_lss (n m : Nat) (ho : o.op = .binOp .lss T x y T') (hx : a.eval x = .int k (n : Int)) (hy : a.eval y = .int k (m : Int)) : (execOp a.eval o).run P w = .ok (.value (.bool (decide (n < m)))) w := by
 unfold execOp
 simp only [ho, hx, hy]
 generalize a.eval = f at *
 go_simp
theorem r_gtr (n m : Nat) (ho : o.op = .binOp .gtr T x y T') (hx : a.eval x = .int k (n : Int)) (hy : a.eval y = .int k (m : Int)) : (execOp a.eval o).run P w = .ok (.value (.bool (decide (m < n)))) w := by
 unfold execOp
 simp only [ho, hx, hy]
 generalize a.eval = f at *
 go_simp
theorem r_eql (n m : Nat) (ho : o.op = .binOp .eql T x y T') (hx : a.eval x = .int k (n : Int)) (hy : a.eval y = .int k (m : Int)) : (execOp a.eval o).run P w = .ok (.value (.bool (decide (n = m)))) w := by
 have e : ((n : Int) == (m : Int)) = decide (n = m) := by rw [Bool.eq_iff_iff]; simp; omega
 unfold execOp
 simp only [ho, hx, hy]
 generalize a.eval = f at *
 go_simp
theorem r_neq (n m : Nat) (ho : o.op = .binOp .neq T x y T') (hx : a.eval x = .int k (n : Int)) (hy : a.eval y = .int k (m : Int)) : (execOp a.eval o).run P w = .ok (.value (.bool (decide (¬ n = m)))) w := by
 have e : ((n : Int) != (m : Int)) = decide (¬ n = m) := by rw [Bool.eq_iff_iff]; simp; omega
 unfold execOp
 simp only [ho, hx, hy]
 generalize a.eval = f at *
 go_simp
theorem r_not (b : Bool) (ho : o.op = .unOp .not T x) (hx : a.eval x = .bool b) : (execOp a.eval o).run P w = .ok (.value (.bool (!b))) w := by
 unfold execOp
 simp only [ho, hx]
 generalize a.eval = f at *
 go_simp
theorem r_notD (p : Prop) [Decidable p] (ho : o.op = .unOp .not T x) (hx : a.eval x = .bool (decide p)) : (execOp a.eval o).run P w = .ok (.value (.bool (decide (¬ p)))) w := by
 rw [decide_not]; exact r_not _ ho hx
theorem r_conv {k' : IntKind} (n m : Nat) (hs : (P.underlying T).isSome = true) (hd : P.underlying T' = some (.int k')) (hm : k'.wrap (n : Int) = (m : Int)) (ho : o.op = .convert T T' x) (hx : a.eval x = .int k (n : Int)) :
  (execOp a.eval o).run P w = .ok (.value (.int k' (m : Int))) w := by
 have hk : P.intKind T' = k' := by unfold Program.intKind; rw [hd]
 have e := run_convert_int (P := P) w T T' k n hs (by rw [hk]; exact hd)
 rw [hk, hm] at e
 unfold execOp
 simp only [ho, hx]
 simp only [Sem.run_bind, e]
 rfl
theorem size_run {e : TypeId} (hz : (P.info? e).map (·.size) = some 1) (w : World) : (sizeOf e).run P w = .ok 1 w := by
 cases h : P.info? e with
 | none => rw [h] at hz; cases hz
 | some i =>
  rw [h] at hz; simp at hz
  have e1 : (typeInfo e).run P w = .ok i w := by simp [typeInfo, h]
  simp [sizeOf, e1, hz]
theorem r_len {s : ByteArray} (ho : o.op = .call { callee := .builtin .len, args := #[x], argTypes := #[T] }) (hT : P.underlying T = some .string) (hx : a.eval x = .string s) : (execOp a.eval o).run P w = .ok (.value (.int .i64 (s.size : Int))) w := by
 unfold execOp
 simp only [ho]
 generalize a.eval = f at *
 go_simp
theorem r_char {s : ByteArray} (i n : Nat) (hi : i < s.size) (hn : (s[i]'hi).toNat = n) (hT : P.underlying T = some .string) (ho : o.op = .index T x y) (hx : a.eval x = .string s) (hy : a.eval y = .int k (i : Int)) :
  (execOp a.eval o).run P w = .ok (.value (.int .u8 (n : Int))) w := by
 have h1 := run_index_string (P := P) w T s k (i : Int) hT
 rw [dif_pos (by omega)] at h1
 unfold execOp
 simp only [ho, hx, hy]
 simp only [Sem.run_bind, h1]
 subst hn
 simp [Result.andThen]
end
end Go.Proofs.YtnmaaijeamlplaaDoor.Sx
