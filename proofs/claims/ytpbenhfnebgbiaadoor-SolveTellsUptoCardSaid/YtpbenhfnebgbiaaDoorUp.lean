/- What the second form's bound gives: each text and list is short. -/
import Derived.Test.YtpbenhfnebgbiaaDoorOp
import Derived.Test.YtpbenhfnebgbiaaDoorRows
namespace Go.Proofs.YtpbenhfnebgbiaaDoor.Up
open Go.Proofs.YtpbenhfnebgbiaaDoor.Mem
/-- A list of types that has all parts of its types; a slice's elements have at most K bytes. -/
def closedB (P : Program) (K : Nat) (L : List TypeId) : Bool := L.all fun t => match P.underlying t with
  | some (.slice e) => L.contains e && decide (P.bytesOf e ≤ K)
  | some (.struct fs) => fs.toList.all fun f => L.contains f.type
  | some (.array _ e) => L.contains e
  | some (.pointer e) => L.contains e
  | some (.map _ _) => false
  | _ => true
theorem closed_at {P : Program} {K : Nat} {L : List TypeId} (h : closedB P K L = true) {t : TypeId} (ht : t ∈ L) : (match P.underlying t with
  | some (.slice e) => L.contains e && decide (P.bytesOf e ≤ K)
  | some (.struct fs) => fs.toList.all fun f => L.contains f.type
  | some (.array _ e) => L.contains e
  | some (.pointer e) => L.contains e
  | some (.map _ _) => false
  | _ => true) = true := List.all_eq_true.1 h t ht
mutual
theorem up_w {H : Type} {P : Program} {K : Nat} {L : List TypeId} (hK : closedB P K L = true) (h1 : 1 ≤ K) : ∀ (d : DataW H) (t : TypeId) (n : Nat), t ∈ L → n ∈ DataW.weights P t d → n ≤ Rows.uptoBulk d * K
  | .lit (.string b), t, n, ht, h => by
    simp only [DataW.weights, List.mem_singleton] at h
    subst h
    simp only [Rows.uptoBulk]
    exact Nat.le_trans (Nat.le_succ _) (Nat.le_mul_of_pos_right _ h1)
  | .lit (.int ..), t, n, ht, h => by simp [DataW.weights] at h
  | .lit (.bool ..), t, n, ht, h => by simp [DataW.weights] at h
  | .lit (.float ..), t, n, ht, h => by simp [DataW.weights] at h
  | .lit .nil, t, n, ht, h => by simp [DataW.weights] at h
  | .nil, t, n, ht, h => by simp [DataW.weights] at h
  | .ptr d, t, n, ht, h => by
    have hc := closed_at hK ht
    unfold DataW.weights at h
    split at h
    · rename_i e he
      rw [he] at hc
      exact Nat.le_trans (up_w hK h1 d _ n (List.contains_iff_mem.1 hc) h) (Nat.mul_le_mul_right _ (by simp only [Rows.uptoBulk]; omega))
    · cases h
  | .slice elems spare, t, n, ht, h => by
    have hc := closed_at hK ht
    unfold DataW.weights at h
    split at h
    · rename_i e he
      rw [he] at hc
      simp only [Bool.and_eq_true, decide_eq_true_eq] at hc
      have hm := List.contains_iff_mem.1 hc.1
      rcases List.mem_cons.1 h with h | h
      · subst h
        refine Nat.mul_le_mul ?_ hc.2
        have := up_len elems
        have := up_len spare
        simp only [Rows.uptoBulk]
        omega
      · rcases List.mem_append.1 h with h | h
        · exact Nat.le_trans (up_all hK h1 elems _ n hm h) (Nat.mul_le_mul_right _ (by simp only [Rows.uptoBulk]; omega))
        · exact Nat.le_trans (up_all hK h1 spare _ n hm h) (Nat.mul_le_mul_right _ (by simp only [Rows.uptoBulk]; omega))
    · cases h
  | .agg parts, t, n, ht, h => by
    have hc := closed_at hK ht
    unfold DataW.weights at h
    split at h
    · rename_i fs he
      rw [he] at hc
      refine Nat.le_trans (up_each hK h1 parts _ n (fun t ht => ?_) h) (Nat.mul_le_mul_right _ (by simp only [Rows.uptoBulk]; omega))
      obtain ⟨f, hf, rfl⟩ := List.mem_map.1 ht
      exact List.contains_iff_mem.1 (List.all_eq_true.1 hc f hf)
    · rename_i e he
      rw [he] at hc
      exact Nat.le_trans (up_all hK h1 parts _ n (List.contains_iff_mem.1 hc) h) (Nat.mul_le_mul_right _ (by simp only [Rows.uptoBulk]; omega))
    · cases h
  | .iface _ d, t, n, ht, h => by simp [DataW.weights] at h
  | .map entries, t, n, ht, h => by
    have hc := closed_at hK ht
    unfold DataW.weights at h
    split at h
    · rename_i k e he
      rw [he] at hc
      cases hc
    · cases h
  | .held _, t, n, ht, h => by simp [DataW.weights] at h
theorem up_len {H : Type} : ∀ (l : List (DataW H)), l.length ≤ Rows.uptoBulkAll l
  | [] => Nat.zero_le _
  | d :: r => by
    have := up_len r
    have := up_one d
    simp only [Rows.uptoBulkAll, List.length_cons]
    omega
theorem up_one {H : Type} : ∀ (d : DataW H), 1 ≤ Rows.uptoBulk d
  | .lit (.string b) => by simp [Rows.uptoBulk]
  | .lit (.int ..) => by simp [Rows.uptoBulk]
  | .lit (.bool ..) => by simp [Rows.uptoBulk]
  | .lit (.float ..) => by simp [Rows.uptoBulk]
  | .lit .nil => by simp [Rows.uptoBulk]
  | .nil => by simp [Rows.uptoBulk]
  | .ptr d => by simp [Rows.uptoBulk]
  | .slice elems spare => by simp [Rows.uptoBulk]
  | .agg parts => by simp [Rows.uptoBulk]
  | .iface _ d => by simp [Rows.uptoBulk]
  | .map entries => by simp [Rows.uptoBulk]
  | .held _ => by simp [Rows.uptoBulk]
theorem up_all {H : Type} {P : Program} {K : Nat} {L : List TypeId} (hK : closedB P K L = true) (h1 : 1 ≤ K) : ∀ (l : List (DataW H)) (t : TypeId) (n : Nat), t ∈ L → n ∈ DataW.weightsAll P t l → n ≤ Rows.uptoBulkAll l * K
  | [], t, n, ht, h => by simp [DataW.weightsAll] at h
  | d :: r, t, n, ht, h => by
    unfold DataW.weightsAll at h
    rcases List.mem_append.1 h with h | h
    · exact Nat.le_trans (up_w hK h1 d _ n ht h) (Nat.mul_le_mul_right _ (by simp only [Rows.uptoBulkAll]; omega))
    · exact Nat.le_trans (up_all hK h1 r _ n ht h) (Nat.mul_le_mul_right _ (by simp only [Rows.uptoBulkAll]; omega))
theorem up_each {H : Type} {P : Program} {K : Nat} {L : List TypeId} (hK : closedB P K L = true) (h1 : 1 ≤ K) : ∀ (l : List (DataW H)) (ts : List TypeId) (n : Nat), (∀ t ∈ ts, t ∈ L) → n ∈ DataW.weightsEach P ts l → n ≤ Rows.uptoBulkAll l * K
  | [], ts, n, ht, h => by cases ts <;> simp [DataW.weightsEach] at h
  | d :: r, [], n, ht, h => by simp [DataW.weightsEach] at h
  | d :: r, t :: ts, n, ht, h => by
    unfold DataW.weightsEach at h
    rcases List.mem_append.1 h with h | h
    · exact Nat.le_trans (up_w hK h1 d _ n (ht t (by simp)) h) (Nat.mul_le_mul_right _ (by simp only [Rows.uptoBulkAll]; omega))
    · exact Nat.le_trans (up_each hK h1 r _ n (fun u hu => ht u (by simp [hu])) h) (Nat.mul_le_mul_right _ (by simp only [Rows.uptoBulkAll]; omega))
end
theorem up_small {H : Type} {P : Program} {l : List (DataW H)} (hk : Rows.uptoSmall H l = true) {L : List TypeId} (hL : closedB P 256 L = true) {t : TypeId} (ht : t ∈ L) {d : DataW H} (hd : d ∈ l) : Small 268435456 P t d := by
  intro n hn
  have h1 : Rows.uptoBulkAll l ≤ 1048576 := of_decide_eq_true hk
  have h2 : Rows.uptoBulk d ≤ Rows.uptoBulkAll l := by
    clear hk h1
    induction l with
    | nil => cases hd
    | cons x r ih =>
      simp only [Rows.uptoBulkAll]
      rcases List.mem_cons.1 hd with e | e
      · rw [e]; omega
      · have := ih e; omega
  have h3 := up_w hL (by decide) d t n ht hn
  have h4 : Rows.uptoBulk d * 256 ≤ 1048576 * 256 := Nat.mul_le_mul_right _ (by omega)
  omega
end Go.Proofs.YtpbenhfnebgbiaaDoor.Up
