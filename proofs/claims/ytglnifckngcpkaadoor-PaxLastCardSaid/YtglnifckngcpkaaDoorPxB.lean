/- Layer 10: records. -/
import Derived.Test.YtglnifckngcpkaaDoorPxM
namespace Go.Proofs.YtglnifckngcpkaaDoor.Px
open Go.RowKit
open Go.Proofs.YtglnifckngcpkaaDoor.Sym Go.Proofs.YtglnifckngcpkaaDoor.Mem
open Go.Proofs.YtglnifckngcpkaaDoor.Sx hiding Mm m_alloc m_store m_put m_call m_callx m_make m_append r_string r_ixS
set_option linter.unusedVariables false
attribute [local irreducible] plen_m itoa_m atoi_v atoi_ok cut_m key_m pdig_m ib_m
attribute [local irreducible] wpList Oper.wp

def record_m (p : Par) : (List UInt8) :=
  ((itoa_m (plen_m ((((((([32] ++ p.key) ++ [61]) ++ p.value) ++ [10]) : List UInt8).length : Nat) : Int))) ++ (((([32] ++ p.key) ++ [61]) ++ p.value) ++ [10]))

set_option maxHeartbeats 4000000 in
set_option maxRecDepth 100000 in
theorem record_any (p : Par) (w : World)  (hT : Laid w) (hp0 : p.key.length ≤ 1048576) (hp1 : p.value.length ≤ 1048576) : Calls Tryd.prog 45 #[.agg #[.string (tx p.key), .string (tx p.value)]] w (fun e w' => e = .returned (.string (tx (record_m p))) ∧ Below w.heap.size w w') := by
  go_enter Tryd.func45, Tryd.ntmps45
  have hm00 := Mm.nil none (fun _ => True) w
  have hm0 := hm00
  refine wp_seq_k (fun K1 hK1 => ?_)
  refine wp_region_lit ?_
  refine lst rfl (m_alloc (c := #[.string (tx p.key), .string (tx p.value)]) (T := 47) hm0 1 rfl (run_box rfl rfl) (fun g4 w2 (hm3 : Mm none (fun _ => True) w w2 [.blk g4 #[.string (tx p.key), .string (tx p.value)] 47]) => ?_))
  simp only [nz1, nz2, nz3]
  refine lvw 2 (.string (tx ([]))) rfl rfl (run_as rfl rfl) ?_
  simp only [nz1, nz2, nz3]
  refine wpList_nil ?_
  refine then_n (hK1 _ _ ?_)
  refine wp_seq_k (fun K5 hK5 => ?_)
  refine wp_region_lit ?_
  refine lvw 4 (.pointer (some ⟨g4, 0, none⟩)) rfl rfl (r_fa47_0 g4 0 rfl rfl) ?_
  simp only [nz1, nz2, nz3]
  refine lvw 5 (.string (tx p.key)) rfl rfl (r_load (hm3.at 0 rfl) rfl Tryd.underlying9 rfl rfl rfl) ?_
  simp only [nz1, nz2, nz3]
  refine lvw 6 (.string (tx ([32] ++ p.key))) rfl rfl (t_cat ([32]) p.key (by first | omega | (simp; omega) | (simp only [List.length_append, List.length_cons, List.length_nil] at *; omega)) rfl rfl rfl) ?_
  simp only [nz1, nz2, nz3]
  refine lvw 7 (.string (tx (([32] ++ p.key) ++ [61]))) rfl rfl (t_cat ([32] ++ p.key) ([61]) (by first | omega | (simp; omega) | (simp only [List.length_append, List.length_cons, List.length_nil] at *; omega)) rfl rfl rfl) ?_
  simp only [nz1, nz2, nz3]
  refine lvw 8 (.pointer (some ⟨g4, 1, none⟩)) rfl rfl (r_fa47_1 g4 0 rfl rfl) ?_
  simp only [nz1, nz2, nz3]
  refine lvw 9 (.string (tx p.value)) rfl rfl (r_load (hm3.at 0 rfl) rfl Tryd.underlying9 rfl rfl rfl) ?_
  simp only [nz1, nz2, nz3]
  refine lvw 10 (.string (tx ((([32] ++ p.key) ++ [61]) ++ p.value))) rfl rfl (t_cat (([32] ++ p.key) ++ [61]) p.value (by first | omega | (simp; omega) | (simp only [List.length_append, List.length_cons, List.length_nil] at *; omega)) rfl rfl rfl) ?_
  simp only [nz1, nz2, nz3]
  refine lvw 11 (.string (tx (((([32] ++ p.key) ++ [61]) ++ p.value) ++ [10]))) rfl rfl (t_cat ((([32] ++ p.key) ++ [61]) ++ p.value) ([10]) (by first | omega | (simp; omega) | (simp only [List.length_append, List.length_cons, List.length_nil] at *; omega)) rfl rfl rfl) ?_
  simp only [nz1, nz2, nz3]
  refine lvw 3 (.string (tx (((([32] ++ p.key) ++ [61]) ++ p.value) ++ [10]))) rfl rfl (run_as rfl rfl) ?_
  simp only [nz1, nz2, nz3]
  refine wpList_nil ?_
  refine then_n (hK5 _ _ ?_)
  refine wp_seq_k (fun K6 hK6 => ?_)
  refine wp_region_lit ?_
  refine lvw 12 (.string (tx (((([32] ++ p.key) ++ [61]) ++ p.value) ++ [10]))) rfl rfl (run_mv rfl rfl) ?_
  simp only [nz1, nz2, nz3]
  refine lvw 13 (.int .i64 ((((((([32] ++ p.key) ++ [61]) ++ p.value) ++ [10]) : List UInt8).length : Nat) : Int)) rfl rfl (t_len rfl Tryd.underlying9 rfl) ?_
  simp only [nz1, nz2, nz3]
  refine lst rfl (m_call hm3 14 (.int .i64 ((plen_m ((((((([32] ++ p.key) ++ [61]) ++ p.value) ++ [10]) : List UInt8).length : Nat) : Int)))) rfl (run_plen rfl rfl) (plen_any ((((((([32] ++ p.key) ++ [61]) ++ p.value) ++ [10]) : List UInt8).length : Nat) : Int)  _  (Laid.below hT hm3.below) (by first | omega | assumption | (simp only [List.length_append, List.length_cons, List.length_nil]; omega) | (simp only [List.length_append, List.length_cons, List.length_nil] at *; omega) | (simp; done) | (simp; omega) | decide) (by first | omega | assumption | (simp only [List.length_append, List.length_cons, List.length_nil]; omega) | (simp only [List.length_append, List.length_cons, List.length_nil] at *; omega) | (simp; done) | (simp; omega) | decide)) (fun w7 (hm8 : Mm none (fun _ => True) w w7 [.blk g4 #[.string (tx p.key), .string (tx p.value)] 47]) => ?_))
  have hf9 : ((((((([32] ++ p.key) ++ [61]) ++ p.value) ++ [10]) : List UInt8).length : Nat) : Int) + 1 ≤ (plen_m ((((((([32] ++ p.key) ++ [61]) ++ p.value) ++ [10]) : List UInt8).length : Nat) : Int)) ∧ (plen_m ((((((([32] ++ p.key) ++ [61]) ++ p.value) ++ [10]) : List UInt8).length : Nat) : Int)) ≤ ((((((([32] ++ p.key) ++ [61]) ++ p.value) ++ [10]) : List UInt8).length : Nat) : Int) + 19 := plen_rng ((((((([32] ++ p.key) ++ [61]) ++ p.value) ++ [10]) : List UInt8).length : Nat) : Int) (by first | omega | (simp only [List.length_append, List.length_cons, List.length_nil]; omega) | (simp only [List.length_append, List.length_cons, List.length_nil] at *; omega)) (by first | omega | (simp only [List.length_append, List.length_cons, List.length_nil]; omega) | (simp only [List.length_append, List.length_cons, List.length_nil] at *; omega))
  simp only [nz1, nz2, nz3]
  refine lst rfl (m_call hm8 15 (.string (tx (itoa_m (plen_m ((((((([32] ++ p.key) ++ [61]) ++ p.value) ++ [10]) : List UInt8).length : Nat) : Int))))) rfl (run_itoa rfl rfl) (itoa_any (plen_m ((((((([32] ++ p.key) ++ [61]) ++ p.value) ++ [10]) : List UInt8).length : Nat) : Int))  _  (Laid.below hT hm8.below) (by first | omega | assumption | (simp only [List.length_append, List.length_cons, List.length_nil]; omega) | (simp only [List.length_append, List.length_cons, List.length_nil] at *; omega) | (simp; done) | (simp; omega) | decide) (by first | omega | assumption | (simp only [List.length_append, List.length_cons, List.length_nil]; omega) | (simp only [List.length_append, List.length_cons, List.length_nil] at *; omega) | (simp; done) | (simp; omega) | decide)) (fun w10 (hm11 : Mm none (fun _ => True) w w10 [.blk g4 #[.string (tx p.key), .string (tx p.value)] 47]) => ?_))
  have hf12 : 1 ≤ (itoa_m (plen_m ((((((([32] ++ p.key) ++ [61]) ++ p.value) ++ [10]) : List UInt8).length : Nat) : Int))).length ∧ (itoa_m (plen_m ((((((([32] ++ p.key) ++ [61]) ++ p.value) ++ [10]) : List UInt8).length : Nat) : Int))).length ≤ 19 := itoa_len (plen_m ((((((([32] ++ p.key) ++ [61]) ++ p.value) ++ [10]) : List UInt8).length : Nat) : Int)) (by first | omega | (simp only [List.length_append, List.length_cons, List.length_nil]; omega) | (simp only [List.length_append, List.length_cons, List.length_nil] at *; omega)) (by first | omega | (simp only [List.length_append, List.length_cons, List.length_nil]; omega) | (simp only [List.length_append, List.length_cons, List.length_nil] at *; omega))
  simp only [nz1, nz2, nz3]
  refine lvw 16 (.string (tx (((([32] ++ p.key) ++ [61]) ++ p.value) ++ [10]))) rfl rfl (run_mv rfl rfl) ?_
  simp only [nz1, nz2, nz3]
  refine lvw 17 (.string (tx ((itoa_m (plen_m ((((((([32] ++ p.key) ++ [61]) ++ p.value) ++ [10]) : List UInt8).length : Nat) : Int))) ++ (((([32] ++ p.key) ++ [61]) ++ p.value) ++ [10])))) rfl rfl (t_cat (itoa_m (plen_m ((((((([32] ++ p.key) ++ [61]) ++ p.value) ++ [10]) : List UInt8).length : Nat) : Int))) (((([32] ++ p.key) ++ [61]) ++ p.value) ++ [10]) (by first | omega | (simp; omega) | (simp only [List.length_append, List.length_cons, List.length_nil] at *; omega)) rfl rfl rfl) ?_
  simp only [nz1, nz2, nz3]
  refine lvw 2 (.string (tx ((itoa_m (plen_m ((((((([32] ++ p.key) ++ [61]) ++ p.value) ++ [10]) : List UInt8).length : Nat) : Int))) ++ (((([32] ++ p.key) ++ [61]) ++ p.value) ++ [10])))) rfl rfl (run_as rfl rfl) ?_
  simp only [nz1, nz2, nz3]
  refine wpList_nil ?_
  refine then_n (hK6 _ _ ?_)
  refine wp_ret ?_
  have he13 : record_m p = ((itoa_m (plen_m ((((((([32] ++ p.key) ++ [61]) ++ p.value) ++ [10]) : List UInt8).length : Nat) : Int))) ++ (((([32] ++ p.key) ++ [61]) ++ p.value) ++ [10])) := (show record_m p = ((itoa_m (plen_m ((((((([32] ++ p.key) ++ [61]) ++ p.value) ++ [10]) : List UInt8).length : Nat) : Int))) ++ (((([32] ++ p.key) ++ [61]) ++ p.value) ++ [10])) from by unfold record_m; rfl)
  exact ⟨rfl, .string (tx ((itoa_m (plen_m ((((((([32] ++ p.key) ++ [61]) ++ p.value) ++ [10]) : List UInt8).length : Nat) : Int))) ++ (((([32] ++ p.key) ++ [61]) ++ p.value) ++ [10]))), res_t rfl rfl, ⟨by rw [he13], hm11.below⟩⟩
theorem run_record {o : Oper} {a : Act} {w : World} {x0 : Operand} {v0 : Value} (ho : o.op = .call { callee := .value (.func 45), args := #[x0], argTypes := #[47] }) (h0 : a.eval x0 = v0) :
    (execOp a.eval o).run Tryd.prog w = .ok (.enter 45 #[v0]) w := by
  unfold execOp
  simp only [ho]
  have hf : a.eval (.func 45) = .func (.func 45) #[] #[] := rfl
  generalize a.eval = f at *
  go_simp
def first_m (s : List UInt8) : Par × Int :=
  if atoi_ok (s.take ((pdig_m s).toNat)) = true then
    if (atoi_v (s.take ((pdig_m s).toNat))) ≤ (pdig_m s) then
      ((Par.mk ([]) ([])), 0)
    else
      if ((s.length : Nat) : Int) < (atoi_v (s.take ((pdig_m s).toNat))) then
        ((Par.mk ([]) ([])), 0)
      else
        if ¬ by' s ((pdig_m s).toNat) = 32 then
          ((Par.mk ([]) ([])), 0)
        else
          if ¬ by' s (((atoi_v (s.take ((pdig_m s).toNat))) - (1 : Int)).toNat) = 10 then
            ((Par.mk ([]) ([])), 0)
          else
            if (!((cut_m ((s.take (((atoi_v (s.take ((pdig_m s).toNat))) - (1 : Int)).toNat)).drop (((pdig_m s) + (1 : Int)).toNat)) ([61])).2.2)) = true then
              ((Par.mk ([]) ([])), 0)
            else
              if (!(key_m ((cut_m ((s.take (((atoi_v (s.take ((pdig_m s).toNat))) - (1 : Int)).toNat)).drop (((pdig_m s) + (1 : Int)).toNat)) ([61])).1))) = true then
                ((Par.mk ([]) ([])), 0)
              else
                if ¬ (itoa_m (plen_m ((atoi_v (s.take ((pdig_m s).toNat))) - (pdig_m s)))) = (s.take ((pdig_m s).toNat)) then
                  ((Par.mk ([]) ([])), 0)
                else
                  ((Par.mk ((cut_m ((s.take (((atoi_v (s.take ((pdig_m s).toNat))) - (1 : Int)).toNat)).drop (((pdig_m s) + (1 : Int)).toNat)) ([61])).1) ((cut_m ((s.take (((atoi_v (s.take ((pdig_m s).toNat))) - (1 : Int)).toNat)).drop (((pdig_m s) + (1 : Int)).toNat)) ([61])).2.1)), (atoi_v (s.take ((pdig_m s).toNat))))
  else
    ((Par.mk ([]) ([])), 0)

set_option maxHeartbeats 4000000 in
set_option maxRecDepth 100000 in
theorem first_any (s : List UInt8) (w : World)  (hT : Laid w) (hp0 : s.length ≤ 1048576) : Calls Tryd.prog 48 #[.string (tx s)] w (fun e w' => e = .returned (.tuple #[.agg #[.string (tx (((first_m s).1).key)), .string (tx (((first_m s).1).value))], .int .i64 ((first_m s).2)]) ∧ Below w.heap.size w w') := by
  go_enter Tryd.func48, Tryd.ntmps48
  have hm00 := Mm.nil none (fun _ => True) w
  have hm0 := hm00
  refine wp_seq_k (fun K1 hK1 => ?_)
  refine wp_region_lit ?_
  refine lst rfl (m_alloc (c := #[.string (tx ([])), .string (tx ([]))]) (T := 47) hm0 2 rfl (by unfold execOp; go_simp; try rfl) (fun g4 w2 (hm3 : Mm none (fun _ => True) w w2 [.blk g4 #[.string (tx ([])), .string (tx ([]))] 47]) => ?_))
  simp only [nz1, nz2, nz3]
  refine lvw 3 (.int .i64 0) rfl rfl (run_as rfl rfl) ?_
  simp only [nz1, nz2, nz3]
  refine wpList_nil ?_
  refine then_n (hK1 _ _ ?_)
  refine wp_seq_k (fun K5 hK5 => ?_)
  refine wp_region_lit ?_
  refine lvw 11 (.string (tx s)) rfl rfl (run_mv rfl rfl) ?_
  simp only [nz1, nz2, nz3]
  refine lst rfl (m_call hm3 12 (.int .i64 ((pdig_m s))) rfl (run_pdig rfl rfl) (pdig_any s  _  (by first | omega | assumption | (simp only [List.length_append, List.length_cons, List.length_nil]; omega) | (simp only [List.length_append, List.length_cons, List.length_nil] at *; omega) | (simp; done) | (simp; omega) | decide)) (fun w6 (hm7 : Mm none (fun _ => True) w w6 [.blk g4 #[.string (tx ([])), .string (tx ([]))] 47]) => ?_))
  have hf8 : 0 ≤ (pdig_m s) ∧ (pdig_m s) ≤ ((s.length : Nat) : Int) := pdig_rng s
  simp only [nz1, nz2, nz3]
  refine lvw 4 (.int .i64 ((pdig_m s))) rfl rfl (run_as rfl rfl) ?_
  simp only [nz1, nz2, nz3]
  refine wpList_nil ?_
  refine then_n (hK5 _ _ ?_)
  refine wp_seq_k (fun K9 hK9 => ?_)
  refine wp_region_lit ?_
  refine lvw 14 (.string (tx s)) rfl rfl (run_mv rfl rfl) ?_
  simp only [nz1, nz2, nz3]
  refine lvw 15 (.int .i64 ((pdig_m s))) rfl rfl (run_mv rfl rfl) ?_
  simp only [nz1, nz2, nz3]
  refine lvw 16 (.string (tx (s.take ((pdig_m s).toNat)))) rfl rfl (t_to s ((pdig_m s).toNat) (by omega) Tryd.underlying9 rfl rfl (show (Value.int .i64 (pdig_m s)) = .int .i64 (((pdig_m s).toNat : Nat) : Int) from by congr 1; omega)) ?_
  simp only [nz1, nz2, nz3]
  by_cases hs10 : atoi_ok (s.take ((pdig_m s).toNat)) = true
  rotate_left
  · refine lst rfl (m_callx hm7 17 rfl (run_atoi rfl rfl) (atoi_no (s.take ((pdig_m s).toNat)) hs10 _ (Laid.below hT hm7.below) (by first | omega | (simp; omega) | (simp at *; omega))) (fun vv80 w78 hR83 hb84 hm79 => ?_))
    obtain ⟨N81, q82, rfl⟩ := hR83
    simp only [nz1, nz2, nz3]
    refine lvw 13 (.tuple #[.int .i64 (q82), .iface 99 (.pointer (some ⟨N81, 0, none⟩))]) rfl rfl (run_mv rfl rfl) ?_
    simp only [nz1, nz2, nz3]
    refine lvw 18 (.int .i64 (q82)) rfl rfl (run_ex rfl rfl rfl) ?_
    simp only [nz1, nz2, nz3]
    refine lvw 19 (.iface 99 (.pointer (some ⟨N81, 0, none⟩))) rfl rfl (run_ex rfl rfl rfl) ?_
    simp only [nz1, nz2, nz3]
    refine lvw 5 (.int .i64 (q82)) rfl rfl (run_as rfl rfl) ?_
    simp only [nz1, nz2, nz3]
    refine lvw 6 (.iface 99 (.pointer (some ⟨N81, 0, none⟩))) rfl rfl (run_as rfl rfl) ?_
    simp only [nz1, nz2, nz3]
    refine wpList_nil ?_
    refine then_n (hK9 _ _ ?_)
    refine wp_seq_k (fun K85 hK85 => ?_)
    refine wp_seq_k (fun K86 hK86 => ?_)
    refine wp_region_lit ?_
    refine lvw 20 (.iface 99 (.pointer (some ⟨N81, 0, none⟩))) rfl rfl (run_mv rfl rfl) ?_
    simp only [nz1, nz2, nz3]
    refine lvw 21 (.bool true) rfl rfl (if_neq1 if_76 rfl rfl) ?_
    simp only [nz1, nz2, nz3]
    refine lvw 22 (.bool true) rfl rfl (run_mv rfl rfl) ?_
    simp only [nz1, nz2, nz3]
    refine lst_skip 23 rfl rfl ?_
    simp only [nz1, nz2, nz3]
    refine lst_skip 24 rfl rfl ?_
    simp only [nz1, nz2, nz3]
    refine lst_skip 25 rfl rfl ?_
    simp only [nz1, nz2, nz3]
    refine lvw 26 (.bool true) rfl rfl (run_pick rfl rfl rfl) ?_
    simp only [nz1, nz2, nz3]
    refine lvw 27 (.bool true) rfl rfl (run_mv rfl rfl) ?_
    simp only [nz1, nz2, nz3]
    refine lst_skip 28 rfl rfl ?_
    simp only [nz1, nz2, nz3]
    refine lst_skip 29 rfl rfl ?_
    simp only [nz1, nz2, nz3]
    refine lst_skip 30 rfl rfl ?_
    simp only [nz1, nz2, nz3]
    refine lst_skip 31 rfl rfl ?_
    simp only [nz1, nz2, nz3]
    refine lvw 32 (.bool true) rfl rfl (run_pick rfl rfl rfl) ?_
    simp only [nz1, nz2, nz3]
    refine lvw 33 (.bool true) rfl rfl (run_mv rfl rfl) ?_
    simp only [nz1, nz2, nz3]
    refine lst_skip 34 rfl rfl ?_
    simp only [nz1, nz2, nz3]
    refine lst_skip 35 rfl rfl ?_
    simp only [nz1, nz2, nz3]
    refine lst_skip 36 rfl rfl ?_
    simp only [nz1, nz2, nz3]
    refine lst_skip 37 rfl rfl ?_
    simp only [nz1, nz2, nz3]
    refine lvw 38 (.bool true) rfl rfl (run_pick rfl rfl rfl) ?_
    simp only [nz1, nz2, nz3]
    refine lvw 39 (.bool true) rfl rfl (run_mv rfl rfl) ?_
    simp only [nz1, nz2, nz3]
    refine lst_skip 40 rfl rfl ?_
    simp only [nz1, nz2, nz3]
    refine lst_skip 41 rfl rfl ?_
    simp only [nz1, nz2, nz3]
    refine lst_skip 42 rfl rfl ?_
    simp only [nz1, nz2, nz3]
    refine lst_skip 43 rfl rfl ?_
    simp only [nz1, nz2, nz3]
    refine lst_skip 44 rfl rfl ?_
    simp only [nz1, nz2, nz3]
    refine lvw 45 (.bool true) rfl rfl (run_pick rfl rfl rfl) ?_
    simp only [nz1, nz2, nz3]
    refine wpList_nil ?_
    refine then_n (hK86 _ _ ?_)
    refine cond_t rfl ?_
    refine wp_seq_k (fun K87 hK87 => ?_)
    refine wp_region_lit ?_
    refine lvw 46 (.agg #[.string (tx ([])), .string (tx ([]))]) rfl rfl (by unfold execOp; go_simp; try (first | rfl | (repeat' (first | rfl | apply And.intro)))) ?_
    simp only [nz1, nz2, nz3]
    refine lst rfl (m_store 0 47 _ _ 0 (.agg #[.string (tx ([])), .string (tx ([]))]) (old := #[.string (tx ([])), .string (tx ([]))]) (new := #[.string (tx ([])), .string (tx ([]))]) hm79 rfl rfl rfl rfl rfl (by exact sz_47) (show 0 + 2 ≤ 2 from by decide) (by simp [Value.cells, Value.oneCell']) rfl (fun w88 (hm89 : Mm none (fun _ => True) w w88 [.blk g4 #[.string (tx ([])), .string (tx ([]))] 47]) => ?_))
    refine lvw 3 (.int .i64 0) rfl rfl (run_as rfl rfl) ?_
    simp only [nz1, nz2, nz3]
    refine wpList_nil ?_
    refine then_n (hK87 _ _ ?_)
    refine wp_ret ?_
    refine then_r ?_
    have he90 : first_m s = ((Par.mk ([]) ([])), 0) := (show first_m s = ((Par.mk ([]) ([])), 0) from by unfold first_m; rw [if_neg hs10] <;> rfl)
    exact ⟨rfl, .tuple #[.agg #[.string (tx ([])), .string (tx ([]))], .int .i64 0], Mem.res_ct rfl rfl (hm89.at 0 rfl) Tryd.underlying47 rfl (by exact sz_47) rfl, ⟨by rw [he90], hm89.below⟩⟩
  refine lst rfl (m_call hm7 17 (.tuple #[.int .i64 ((atoi_v (s.take ((pdig_m s).toNat)))), .nilIface]) rfl (run_atoi rfl rfl) (atoi_yes (s.take ((pdig_m s).toNat)) hs10 _ (by first | omega | (simp; omega) | (simp at *; omega))) (fun w11 (hm12 : Mm none (fun _ => True) w w11 [.blk g4 #[.string (tx ([])), .string (tx ([]))] 47]) => ?_))
  have hf13 : 0 ≤ atoi_v (s.take ((pdig_m s).toNat)) ∨ ¬ 0 ≤ atoi_v (s.take ((pdig_m s).toNat)) := Classical.em _
  have hf14 : -9223372036854775808 ≤ atoi_v (s.take ((pdig_m s).toNat)) ∧ atoi_v (s.take ((pdig_m s).toNat)) ≤ 9223372036854775807 := atoi_rng (s.take ((pdig_m s).toNat)) hs10
  simp only [nz1, nz2, nz3]
  refine lvw 13 (.tuple #[.int .i64 ((atoi_v (s.take ((pdig_m s).toNat)))), .nilIface]) rfl rfl (run_mv rfl rfl) ?_
  simp only [nz1, nz2, nz3]
  refine lvw 18 (.int .i64 ((atoi_v (s.take ((pdig_m s).toNat))))) rfl rfl (run_ex rfl rfl rfl) ?_
  simp only [nz1, nz2, nz3]
  refine lvw 19 (.nilIface) rfl rfl (run_ex rfl rfl rfl) ?_
  simp only [nz1, nz2, nz3]
  refine lvw 5 (.int .i64 ((atoi_v (s.take ((pdig_m s).toNat))))) rfl rfl (run_as rfl rfl) ?_
  simp only [nz1, nz2, nz3]
  refine lvw 6 (.nilIface) rfl rfl (run_as rfl rfl) ?_
  simp only [nz1, nz2, nz3]
  refine wpList_nil ?_
  refine then_n (hK9 _ _ ?_)
  refine wp_seq_k (fun K15 hK15 => ?_)
  refine wp_seq_k (fun K16 hK16 => ?_)
  refine wp_region_lit ?_
  refine lvw 20 (.nilIface) rfl rfl (run_mv rfl rfl) ?_
  simp only [nz1, nz2, nz3]
  refine lvw 21 (.bool false) rfl rfl (if_neq0 if_76 rfl rfl) ?_
  simp only [nz1, nz2, nz3]
  refine lvw 22 (.bool false) rfl rfl (run_mv rfl rfl) ?_
  simp only [nz1, nz2, nz3]
  refine lvw 23 (.int .i64 ((atoi_v (s.take ((pdig_m s).toNat))))) rfl rfl (run_mv rfl rfl) ?_
  simp only [nz1, nz2, nz3]
  refine lvw 24 (.int .i64 ((pdig_m s))) rfl rfl (run_mv rfl rfl) ?_
  simp only [nz1, nz2, nz3]
  refine lvb 25 ((atoi_v (s.take ((pdig_m s).toNat))) ≤ (pdig_m s)) rfl rfl (z_leq (atoi_v (s.take ((pdig_m s).toNat))) (pdig_m s) rfl rfl rfl) (fun hs17 => ?_) (fun hs17 => ?_)
  · simp only [nz1, nz2, nz3]
    refine lvw 26 (.bool true) rfl rfl (run_pickf rfl rfl rfl) ?_
    simp only [nz1, nz2, nz3]
    refine lvw 27 (.bool true) rfl rfl (run_mv rfl rfl) ?_
    simp only [nz1, nz2, nz3]
    refine lst_skip 28 rfl rfl ?_
    simp only [nz1, nz2, nz3]
    refine lst_skip 29 rfl rfl ?_
    simp only [nz1, nz2, nz3]
    refine lst_skip 30 rfl rfl ?_
    simp only [nz1, nz2, nz3]
    refine lst_skip 31 rfl rfl ?_
    simp only [nz1, nz2, nz3]
    refine lvw 32 (.bool true) rfl rfl (run_pick rfl rfl rfl) ?_
    simp only [nz1, nz2, nz3]
    refine lvw 33 (.bool true) rfl rfl (run_mv rfl rfl) ?_
    simp only [nz1, nz2, nz3]
    refine lst_skip 34 rfl rfl ?_
    simp only [nz1, nz2, nz3]
    refine lst_skip 35 rfl rfl ?_
    simp only [nz1, nz2, nz3]
    refine lst_skip 36 rfl rfl ?_
    simp only [nz1, nz2, nz3]
    refine lst_skip 37 rfl rfl ?_
    simp only [nz1, nz2, nz3]
    refine lvw 38 (.bool true) rfl rfl (run_pick rfl rfl rfl) ?_
    simp only [nz1, nz2, nz3]
    refine lvw 39 (.bool true) rfl rfl (run_mv rfl rfl) ?_
    simp only [nz1, nz2, nz3]
    refine lst_skip 40 rfl rfl ?_
    simp only [nz1, nz2, nz3]
    refine lst_skip 41 rfl rfl ?_
    simp only [nz1, nz2, nz3]
    refine lst_skip 42 rfl rfl ?_
    simp only [nz1, nz2, nz3]
    refine lst_skip 43 rfl rfl ?_
    simp only [nz1, nz2, nz3]
    refine lst_skip 44 rfl rfl ?_
    simp only [nz1, nz2, nz3]
    refine lvw 45 (.bool true) rfl rfl (run_pick rfl rfl rfl) ?_
    simp only [nz1, nz2, nz3]
    refine wpList_nil ?_
    refine then_n (hK16 _ _ ?_)
    refine cond_t rfl ?_
    refine wp_seq_k (fun K18 hK18 => ?_)
    refine wp_region_lit ?_
    refine lvw 46 (.agg #[.string (tx ([])), .string (tx ([]))]) rfl rfl (by unfold execOp; go_simp; try (first | rfl | (repeat' (first | rfl | apply And.intro)))) ?_
    simp only [nz1, nz2, nz3]
    refine lst rfl (m_store 0 47 _ _ 0 (.agg #[.string (tx ([])), .string (tx ([]))]) (old := #[.string (tx ([])), .string (tx ([]))]) (new := #[.string (tx ([])), .string (tx ([]))]) hm12 rfl rfl rfl rfl rfl (by exact sz_47) (show 0 + 2 ≤ 2 from by decide) (by simp [Value.cells, Value.oneCell']) rfl (fun w19 (hm20 : Mm none (fun _ => True) w w19 [.blk g4 #[.string (tx ([])), .string (tx ([]))] 47]) => ?_))
    refine lvw 3 (.int .i64 0) rfl rfl (run_as rfl rfl) ?_
    simp only [nz1, nz2, nz3]
    refine wpList_nil ?_
    refine then_n (hK18 _ _ ?_)
    refine wp_ret ?_
    refine then_r ?_
    have he21 : first_m s = ((Par.mk ([]) ([])), 0) := (show first_m s = ((Par.mk ([]) ([])), 0) from by unfold first_m; rw [if_pos hs10, if_pos hs17] <;> rfl)
    exact ⟨rfl, .tuple #[.agg #[.string (tx ([])), .string (tx ([]))], .int .i64 0], Mem.res_ct rfl rfl (hm20.at 0 rfl) Tryd.underlying47 rfl (by exact sz_47) rfl, ⟨by rw [he21], hm20.below⟩⟩
  simp only [nz1, nz2, nz3]
  refine lvw 26 (.bool false) rfl rfl (run_pickf rfl rfl rfl) ?_
  simp only [nz1, nz2, nz3]
  refine lvw 27 (.bool false) rfl rfl (run_mv rfl rfl) ?_
  simp only [nz1, nz2, nz3]
  refine lvw 28 (.int .i64 ((atoi_v (s.take ((pdig_m s).toNat))))) rfl rfl (run_mv rfl rfl) ?_
  simp only [nz1, nz2, nz3]
  refine lvw 29 (.string (tx s)) rfl rfl (run_mv rfl rfl) ?_
  simp only [nz1, nz2, nz3]
  refine lvw 30 (.int .i64 ((s.length : Nat) : Int)) rfl rfl (t_len rfl Tryd.underlying9 rfl) ?_
  simp only [nz1, nz2, nz3]
  refine lvb 31 (((s.length : Nat) : Int) < (atoi_v (s.take ((pdig_m s).toNat)))) rfl rfl (z_gtr (atoi_v (s.take ((pdig_m s).toNat))) ((s.length : Nat) : Int) rfl rfl rfl) (fun hs22 => ?_) (fun hs22 => ?_)
  · simp only [nz1, nz2, nz3]
    refine lvw 32 (.bool true) rfl rfl (run_pickf rfl rfl rfl) ?_
    simp only [nz1, nz2, nz3]
    refine lvw 33 (.bool true) rfl rfl (run_mv rfl rfl) ?_
    simp only [nz1, nz2, nz3]
    refine lst_skip 34 rfl rfl ?_
    simp only [nz1, nz2, nz3]
    refine lst_skip 35 rfl rfl ?_
    simp only [nz1, nz2, nz3]
    refine lst_skip 36 rfl rfl ?_
    simp only [nz1, nz2, nz3]
    refine lst_skip 37 rfl rfl ?_
    simp only [nz1, nz2, nz3]
    refine lvw 38 (.bool true) rfl rfl (run_pick rfl rfl rfl) ?_
    simp only [nz1, nz2, nz3]
    refine lvw 39 (.bool true) rfl rfl (run_mv rfl rfl) ?_
    simp only [nz1, nz2, nz3]
    refine lst_skip 40 rfl rfl ?_
    simp only [nz1, nz2, nz3]
    refine lst_skip 41 rfl rfl ?_
    simp only [nz1, nz2, nz3]
    refine lst_skip 42 rfl rfl ?_
    simp only [nz1, nz2, nz3]
    refine lst_skip 43 rfl rfl ?_
    simp only [nz1, nz2, nz3]
    refine lst_skip 44 rfl rfl ?_
    simp only [nz1, nz2, nz3]
    refine lvw 45 (.bool true) rfl rfl (run_pick rfl rfl rfl) ?_
    simp only [nz1, nz2, nz3]
    refine wpList_nil ?_
    refine then_n (hK16 _ _ ?_)
    refine cond_t rfl ?_
    refine wp_seq_k (fun K23 hK23 => ?_)
    refine wp_region_lit ?_
    refine lvw 46 (.agg #[.string (tx ([])), .string (tx ([]))]) rfl rfl (by unfold execOp; go_simp; try (first | rfl | (repeat' (first | rfl | apply And.intro)))) ?_
    simp only [nz1, nz2, nz3]
    refine lst rfl (m_store 0 47 _ _ 0 (.agg #[.string (tx ([])), .string (tx ([]))]) (old := #[.string (tx ([])), .string (tx ([]))]) (new := #[.string (tx ([])), .string (tx ([]))]) hm12 rfl rfl rfl rfl rfl (by exact sz_47) (show 0 + 2 ≤ 2 from by decide) (by simp [Value.cells, Value.oneCell']) rfl (fun w24 (hm25 : Mm none (fun _ => True) w w24 [.blk g4 #[.string (tx ([])), .string (tx ([]))] 47]) => ?_))
    refine lvw 3 (.int .i64 0) rfl rfl (run_as rfl rfl) ?_
    simp only [nz1, nz2, nz3]
    refine wpList_nil ?_
    refine then_n (hK23 _ _ ?_)
    refine wp_ret ?_
    refine then_r ?_
    have he26 : first_m s = ((Par.mk ([]) ([])), 0) := (show first_m s = ((Par.mk ([]) ([])), 0) from by unfold first_m; rw [if_pos hs10, if_neg hs17, if_pos hs22] <;> rfl)
    exact ⟨rfl, .tuple #[.agg #[.string (tx ([])), .string (tx ([]))], .int .i64 0], Mem.res_ct rfl rfl (hm25.at 0 rfl) Tryd.underlying47 rfl (by exact sz_47) rfl, ⟨by rw [he26], hm25.below⟩⟩
  simp only [nz1, nz2, nz3]
  refine lvw 32 (.bool false) rfl rfl (run_pickf rfl rfl rfl) ?_
  simp only [nz1, nz2, nz3]
  refine lvw 33 (.bool false) rfl rfl (run_mv rfl rfl) ?_
  simp only [nz1, nz2, nz3]
  refine lvw 34 (.string (tx s)) rfl rfl (run_mv rfl rfl) ?_
  simp only [nz1, nz2, nz3]
  refine lvw 35 (.int .i64 ((pdig_m s))) rfl rfl (run_mv rfl rfl) ?_
  simp only [nz1, nz2, nz3]
  refine lvw 36 (.int .u8 ((by' s ((pdig_m s).toNat) : Nat) : Int)) rfl rfl (t_char s ((pdig_m s).toNat) (by omega) Tryd.underlying9 rfl rfl (show (Value.int .i64 (pdig_m s)) = .int .i64 ((((pdig_m s).toNat) : Nat) : Int) from by congr 1; omega)) ?_
  simp only [nz1, nz2, nz3]
  refine lvb 37 (¬ by' s ((pdig_m s).toNat) = 32) rfl rfl (r_neq (by' s ((pdig_m s).toNat)) 32 rfl rfl rfl) (fun hs27 => ?_) (fun hs27 => ?_)
  · simp only [nz1, nz2, nz3]
    refine lvw 38 (.bool true) rfl rfl (run_pickf rfl rfl rfl) ?_
    simp only [nz1, nz2, nz3]
    refine lvw 39 (.bool true) rfl rfl (run_mv rfl rfl) ?_
    simp only [nz1, nz2, nz3]
    refine lst_skip 40 rfl rfl ?_
    simp only [nz1, nz2, nz3]
    refine lst_skip 41 rfl rfl ?_
    simp only [nz1, nz2, nz3]
    refine lst_skip 42 rfl rfl ?_
    simp only [nz1, nz2, nz3]
    refine lst_skip 43 rfl rfl ?_
    simp only [nz1, nz2, nz3]
    refine lst_skip 44 rfl rfl ?_
    simp only [nz1, nz2, nz3]
    refine lvw 45 (.bool true) rfl rfl (run_pick rfl rfl rfl) ?_
    simp only [nz1, nz2, nz3]
    refine wpList_nil ?_
    refine then_n (hK16 _ _ ?_)
    refine cond_t rfl ?_
    refine wp_seq_k (fun K28 hK28 => ?_)
    refine wp_region_lit ?_
    refine lvw 46 (.agg #[.string (tx ([])), .string (tx ([]))]) rfl rfl (by unfold execOp; go_simp; try (first | rfl | (repeat' (first | rfl | apply And.intro)))) ?_
    simp only [nz1, nz2, nz3]
    refine lst rfl (m_store 0 47 _ _ 0 (.agg #[.string (tx ([])), .string (tx ([]))]) (old := #[.string (tx ([])), .string (tx ([]))]) (new := #[.string (tx ([])), .string (tx ([]))]) hm12 rfl rfl rfl rfl rfl (by exact sz_47) (show 0 + 2 ≤ 2 from by decide) (by simp [Value.cells, Value.oneCell']) rfl (fun w29 (hm30 : Mm none (fun _ => True) w w29 [.blk g4 #[.string (tx ([])), .string (tx ([]))] 47]) => ?_))
    refine lvw 3 (.int .i64 0) rfl rfl (run_as rfl rfl) ?_
    simp only [nz1, nz2, nz3]
    refine wpList_nil ?_
    refine then_n (hK28 _ _ ?_)
    refine wp_ret ?_
    refine then_r ?_
    have he31 : first_m s = ((Par.mk ([]) ([])), 0) := (show first_m s = ((Par.mk ([]) ([])), 0) from by unfold first_m; rw [if_pos hs10, if_neg hs17, if_neg hs22, if_pos hs27] <;> rfl)
    exact ⟨rfl, .tuple #[.agg #[.string (tx ([])), .string (tx ([]))], .int .i64 0], Mem.res_ct rfl rfl (hm30.at 0 rfl) Tryd.underlying47 rfl (by exact sz_47) rfl, ⟨by rw [he31], hm30.below⟩⟩
  simp only [nz1, nz2, nz3]
  refine lvw 38 (.bool false) rfl rfl (run_pickf rfl rfl rfl) ?_
  simp only [nz1, nz2, nz3]
  refine lvw 39 (.bool false) rfl rfl (run_mv rfl rfl) ?_
  simp only [nz1, nz2, nz3]
  refine lvw 40 (.string (tx s)) rfl rfl (run_mv rfl rfl) ?_
  simp only [nz1, nz2, nz3]
  refine lvw 41 (.int .i64 ((atoi_v (s.take ((pdig_m s).toNat))))) rfl rfl (run_mv rfl rfl) ?_
  simp only [nz1, nz2, nz3]
  refine lvw 42 (.int .i64 (((atoi_v (s.take ((pdig_m s).toNat))) - (1 : Int)))) rfl rfl (z_sub (atoi_v (s.take ((pdig_m s).toNat))) (1 : Int) _ (by rw [IntKind.wrap_i64]; omega) rfl rfl rfl) ?_
  simp only [nz1, nz2, nz3]
  refine lvw 43 (.int .u8 ((by' s (((atoi_v (s.take ((pdig_m s).toNat))) - (1 : Int)).toNat) : Nat) : Int)) rfl rfl (t_char s (((atoi_v (s.take ((pdig_m s).toNat))) - (1 : Int)).toNat) (by omega) Tryd.underlying9 rfl rfl (show (Value.int .i64 ((atoi_v (s.take ((pdig_m s).toNat))) - (1 : Int))) = .int .i64 (((((atoi_v (s.take ((pdig_m s).toNat))) - (1 : Int)).toNat) : Nat) : Int) from by congr 1; omega)) ?_
  simp only [nz1, nz2, nz3]
  refine lvw 44 (.bool (decide (¬ by' s (((atoi_v (s.take ((pdig_m s).toNat))) - (1 : Int)).toNat) = 10))) rfl rfl (r_neq (by' s (((atoi_v (s.take ((pdig_m s).toNat))) - (1 : Int)).toNat)) 10 rfl rfl rfl) ?_
  simp only [nz1, nz2, nz3]
  refine lvw 45 (.bool (decide (¬ by' s (((atoi_v (s.take ((pdig_m s).toNat))) - (1 : Int)).toNat) = 10))) rfl rfl (run_pickf rfl rfl rfl) ?_
  simp only [nz1, nz2, nz3]
  refine wpList_nil ?_
  refine then_n (hK16 _ _ ?_)
  refine cond_d (¬ by' s (((atoi_v (s.take ((pdig_m s).toNat))) - (1 : Int)).toNat) = 10) rfl (fun hc32 => ?_) (fun hc32 => ?_)
  · refine wp_seq_k (fun K33 hK33 => ?_)
    refine wp_region_lit ?_
    refine lvw 46 (.agg #[.string (tx ([])), .string (tx ([]))]) rfl rfl (by unfold execOp; go_simp; try (first | rfl | (repeat' (first | rfl | apply And.intro)))) ?_
    simp only [nz1, nz2, nz3]
    refine lst rfl (m_store 0 47 _ _ 0 (.agg #[.string (tx ([])), .string (tx ([]))]) (old := #[.string (tx ([])), .string (tx ([]))]) (new := #[.string (tx ([])), .string (tx ([]))]) hm12 rfl rfl rfl rfl rfl (by exact sz_47) (show 0 + 2 ≤ 2 from by decide) (by simp [Value.cells, Value.oneCell']) rfl (fun w34 (hm35 : Mm none (fun _ => True) w w34 [.blk g4 #[.string (tx ([])), .string (tx ([]))] 47]) => ?_))
    refine lvw 3 (.int .i64 0) rfl rfl (run_as rfl rfl) ?_
    simp only [nz1, nz2, nz3]
    refine wpList_nil ?_
    refine then_n (hK33 _ _ ?_)
    refine wp_ret ?_
    refine then_r ?_
    have he36 : first_m s = ((Par.mk ([]) ([])), 0) := (show first_m s = ((Par.mk ([]) ([])), 0) from by unfold first_m; rw [if_pos hs10, if_neg hs17, if_neg hs22, if_neg hs27, if_pos hc32] <;> rfl)
    exact ⟨rfl, .tuple #[.agg #[.string (tx ([])), .string (tx ([]))], .int .i64 0], Mem.res_ct rfl rfl (hm35.at 0 rfl) Tryd.underlying47 rfl (by exact sz_47) rfl, ⟨by rw [he36], hm35.below⟩⟩
  refine wp_skip ?_
  refine then_n (hK15 _ _ ?_)
  refine wp_seq_k (fun K37 hK37 => ?_)
  refine wp_region_lit ?_
  refine lvw 48 (.string (tx s)) rfl rfl (run_mv rfl rfl) ?_
  simp only [nz1, nz2, nz3]
  refine lvw 49 (.int .i64 ((pdig_m s))) rfl rfl (run_mv rfl rfl) ?_
  simp only [nz1, nz2, nz3]
  refine lvw 50 (.int .i64 (((pdig_m s) + (1 : Int)))) rfl rfl (z_add (pdig_m s) (1 : Int) _ (by rw [IntKind.wrap_i64]; omega) rfl rfl rfl) ?_
  simp only [nz1, nz2, nz3]
  refine lvw 51 (.int .i64 ((atoi_v (s.take ((pdig_m s).toNat))))) rfl rfl (run_mv rfl rfl) ?_
  simp only [nz1, nz2, nz3]
  refine lvw 52 (.int .i64 (((atoi_v (s.take ((pdig_m s).toNat))) - (1 : Int)))) rfl rfl (z_sub (atoi_v (s.take ((pdig_m s).toNat))) (1 : Int) _ (by rw [IntKind.wrap_i64]; omega) rfl rfl rfl) ?_
  simp only [nz1, nz2, nz3]
  refine lvw 53 (.string (tx ((s.take (((atoi_v (s.take ((pdig_m s).toNat))) - (1 : Int)).toNat)).drop (((pdig_m s) + (1 : Int)).toNat)))) rfl rfl (t_cut s (((pdig_m s) + (1 : Int)).toNat) (((atoi_v (s.take ((pdig_m s).toNat))) - (1 : Int)).toNat) (by have h := ten_ne (s := s) (Classical.not_not.1 (show ¬ ¬ by' s ((pdig_m s).toNat) = 32 from by assumption)) (Classical.not_not.1 (show ¬ ¬ by' s (((atoi_v (s.take ((pdig_m s).toNat))) - (1 : Int)).toNat) = 10 from by assumption)); omega) (by have h := ten_ne (s := s) (Classical.not_not.1 (show ¬ ¬ by' s ((pdig_m s).toNat) = 32 from by assumption)) (Classical.not_not.1 (show ¬ ¬ by' s (((atoi_v (s.take ((pdig_m s).toNat))) - (1 : Int)).toNat) = 10 from by assumption)); omega) Tryd.underlying9 rfl rfl (show (Value.int .i64 ((pdig_m s) + (1 : Int))) = .int .i64 ((((pdig_m s) + (1 : Int)).toNat : Nat) : Int) from by congr 1; omega) (show (Value.int .i64 ((atoi_v (s.take ((pdig_m s).toNat))) - (1 : Int))) = .int .i64 ((((atoi_v (s.take ((pdig_m s).toNat))) - (1 : Int)).toNat : Nat) : Int) from by congr 1; omega)) ?_
  simp only [nz1, nz2, nz3]
  refine lst rfl (m_call hm12 54 (.tuple #[.string (tx ((cut_m ((s.take (((atoi_v (s.take ((pdig_m s).toNat))) - (1 : Int)).toNat)).drop (((pdig_m s) + (1 : Int)).toNat)) ([61])).1)), .string (tx ((cut_m ((s.take (((atoi_v (s.take ((pdig_m s).toNat))) - (1 : Int)).toNat)).drop (((pdig_m s) + (1 : Int)).toNat)) ([61])).2.1)), .bool ((cut_m ((s.take (((atoi_v (s.take ((pdig_m s).toNat))) - (1 : Int)).toNat)).drop (((pdig_m s) + (1 : Int)).toNat)) ([61])).2.2)]) rfl (run_cut rfl rfl rfl) (cut_any ((s.take (((atoi_v (s.take ((pdig_m s).toNat))) - (1 : Int)).toNat)).drop (((pdig_m s) + (1 : Int)).toNat)) ([61])  _  (Laid.below hT hm12.below) (by first | omega | assumption | (simp only [List.length_append, List.length_cons, List.length_nil]; omega) | (simp only [List.length_append, List.length_cons, List.length_nil] at *; omega) | (simp; done) | (simp; omega) | decide)) (fun w38 (hm39 : Mm none (fun _ => True) w w38 [.blk g4 #[.string (tx ([])), .string (tx ([]))] 47]) => ?_))
  have hf40 : (cut_m ((s.take (((atoi_v (s.take ((pdig_m s).toNat))) - (1 : Int)).toNat)).drop (((pdig_m s) + (1 : Int)).toNat)) ([61])).1.length + (cut_m ((s.take (((atoi_v (s.take ((pdig_m s).toNat))) - (1 : Int)).toNat)).drop (((pdig_m s) + (1 : Int)).toNat)) ([61])).2.1.length ≤ ((s.take (((atoi_v (s.take ((pdig_m s).toNat))) - (1 : Int)).toNat)).drop (((pdig_m s) + (1 : Int)).toNat)).length := cut_len ((s.take (((atoi_v (s.take ((pdig_m s).toNat))) - (1 : Int)).toNat)).drop (((pdig_m s) + (1 : Int)).toNat)) ([61])
  simp only [nz1, nz2, nz3]
  refine lvw 47 (.tuple #[.string (tx ((cut_m ((s.take (((atoi_v (s.take ((pdig_m s).toNat))) - (1 : Int)).toNat)).drop (((pdig_m s) + (1 : Int)).toNat)) ([61])).1)), .string (tx ((cut_m ((s.take (((atoi_v (s.take ((pdig_m s).toNat))) - (1 : Int)).toNat)).drop (((pdig_m s) + (1 : Int)).toNat)) ([61])).2.1)), .bool ((cut_m ((s.take (((atoi_v (s.take ((pdig_m s).toNat))) - (1 : Int)).toNat)).drop (((pdig_m s) + (1 : Int)).toNat)) ([61])).2.2)]) rfl rfl (run_mv rfl rfl) ?_
  simp only [nz1, nz2, nz3]
  refine lvw 55 (.string (tx ((cut_m ((s.take (((atoi_v (s.take ((pdig_m s).toNat))) - (1 : Int)).toNat)).drop (((pdig_m s) + (1 : Int)).toNat)) ([61])).1))) rfl rfl (run_ex rfl rfl rfl) ?_
  simp only [nz1, nz2, nz3]
  refine lvw 56 (.string (tx ((cut_m ((s.take (((atoi_v (s.take ((pdig_m s).toNat))) - (1 : Int)).toNat)).drop (((pdig_m s) + (1 : Int)).toNat)) ([61])).2.1))) rfl rfl (run_ex rfl rfl rfl) ?_
  simp only [nz1, nz2, nz3]
  refine lvw 57 (.bool ((cut_m ((s.take (((atoi_v (s.take ((pdig_m s).toNat))) - (1 : Int)).toNat)).drop (((pdig_m s) + (1 : Int)).toNat)) ([61])).2.2)) rfl rfl (run_ex rfl rfl rfl) ?_
  simp only [nz1, nz2, nz3]
  refine lvw 7 (.string (tx ((cut_m ((s.take (((atoi_v (s.take ((pdig_m s).toNat))) - (1 : Int)).toNat)).drop (((pdig_m s) + (1 : Int)).toNat)) ([61])).1))) rfl rfl (run_as rfl rfl) ?_
  simp only [nz1, nz2, nz3]
  refine lvw 8 (.string (tx ((cut_m ((s.take (((atoi_v (s.take ((pdig_m s).toNat))) - (1 : Int)).toNat)).drop (((pdig_m s) + (1 : Int)).toNat)) ([61])).2.1))) rfl rfl (run_as rfl rfl) ?_
  simp only [nz1, nz2, nz3]
  refine lvw 9 (.bool ((cut_m ((s.take (((atoi_v (s.take ((pdig_m s).toNat))) - (1 : Int)).toNat)).drop (((pdig_m s) + (1 : Int)).toNat)) ([61])).2.2)) rfl rfl (run_as rfl rfl) ?_
  simp only [nz1, nz2, nz3]
  refine wpList_nil ?_
  refine then_n (hK37 _ _ ?_)
  refine wp_seq_k (fun K41 hK41 => ?_)
  refine wp_region_lit ?_
  refine lvw 58 (.string (tx ((cut_m ((s.take (((atoi_v (s.take ((pdig_m s).toNat))) - (1 : Int)).toNat)).drop (((pdig_m s) + (1 : Int)).toNat)) ([61])).1))) rfl rfl (run_mv rfl rfl) ?_
  simp only [nz1, nz2, nz3]
  refine lvw 59 (.string (tx ((cut_m ((s.take (((atoi_v (s.take ((pdig_m s).toNat))) - (1 : Int)).toNat)).drop (((pdig_m s) + (1 : Int)).toNat)) ([61])).2.1))) rfl rfl (run_mv rfl rfl) ?_
  simp only [nz1, nz2, nz3]
  refine lvw 60 (.agg #[.string (tx ((cut_m ((s.take (((atoi_v (s.take ((pdig_m s).toNat))) - (1 : Int)).toNat)).drop (((pdig_m s) + (1 : Int)).toNat)) ([61])).1)), .string (tx ((cut_m ((s.take (((atoi_v (s.take ((pdig_m s).toNat))) - (1 : Int)).toNat)).drop (((pdig_m s) + (1 : Int)).toNat)) ([61])).2.1))]) rfl rfl (by unfold execOp; go_simp; try (first | rfl | (repeat' (first | rfl | apply And.intro)))) ?_
  simp only [nz1, nz2, nz3]
  refine lst rfl (m_alloc (c := #[.string (tx ([])), .string (tx ([]))]) (T := 47) hm39 10 rfl (by unfold execOp; go_simp; try rfl) (fun g44 w42 (hm43 : Mm none (fun _ => True) w w42 [.blk g4 #[.string (tx ([])), .string (tx ([]))] 47, .blk g44 #[.string (tx ([])), .string (tx ([]))] 47]) => ?_))
  simp only [nz1, nz2, nz3]
  refine lst rfl (m_store 1 47 _ _ 0 (.agg #[.string (tx ((cut_m ((s.take (((atoi_v (s.take ((pdig_m s).toNat))) - (1 : Int)).toNat)).drop (((pdig_m s) + (1 : Int)).toNat)) ([61])).1)), .string (tx ((cut_m ((s.take (((atoi_v (s.take ((pdig_m s).toNat))) - (1 : Int)).toNat)).drop (((pdig_m s) + (1 : Int)).toNat)) ([61])).2.1))]) (old := #[.string (tx ([])), .string (tx ([]))]) (new := #[.string (tx ((cut_m ((s.take (((atoi_v (s.take ((pdig_m s).toNat))) - (1 : Int)).toNat)).drop (((pdig_m s) + (1 : Int)).toNat)) ([61])).1)), .string (tx ((cut_m ((s.take (((atoi_v (s.take ((pdig_m s).toNat))) - (1 : Int)).toNat)).drop (((pdig_m s) + (1 : Int)).toNat)) ([61])).2.1))]) hm43 rfl rfl rfl rfl rfl (by exact sz_47) (show 0 + 2 ≤ 2 from by decide) (by simp [Value.cells, Value.oneCell']) rfl (fun w45 (hm46 : Mm none (fun _ => True) w w45 [.blk g4 #[.string (tx ([])), .string (tx ([]))] 47, .blk g44 #[.string (tx ((cut_m ((s.take (((atoi_v (s.take ((pdig_m s).toNat))) - (1 : Int)).toNat)).drop (((pdig_m s) + (1 : Int)).toNat)) ([61])).1)), .string (tx ((cut_m ((s.take (((atoi_v (s.take ((pdig_m s).toNat))) - (1 : Int)).toNat)).drop (((pdig_m s) + (1 : Int)).toNat)) ([61])).2.1))] 47]) => ?_))
  refine wpList_nil ?_
  refine then_n (hK41 _ _ ?_)
  refine wp_seq_k (fun K47 hK47 => ?_)
  refine wp_seq_k (fun K48 hK48 => ?_)
  have hm49 := hm46.drew
  refine wp_region_held_drew (S := fun w' => True) (by kernel_rfl) (trivial) (fun _ => ?_)
  generalize w45.drew = w50 at *
  refine tk 0 61 (.bool ((cut_m ((s.take (((atoi_v (s.take ((pdig_m s).toNat))) - (1 : Int)).toNat)).drop (((pdig_m s) + (1 : Int)).toNat)) ([61])).2.2)) rfl rfl (fun _ hw => run_mv rfl rfl) trivial ?_
  simp only [nz1, nz2, nz3]
  refine tkb 1 62 ((!((cut_m ((s.take (((atoi_v (s.take ((pdig_m s).toNat))) - (1 : Int)).toNat)).drop (((pdig_m s) + (1 : Int)).toNat)) ([61])).2.2)) = true) rfl rfl rfl (fun _ hw => (by rw [show decide ((!((cut_m ((s.take (((atoi_v (s.take ((pdig_m s).toNat))) - (1 : Int)).toNat)).drop (((pdig_m s) + (1 : Int)).toNat)) ([61])).2.2)) = true) = (!((cut_m ((s.take (((atoi_v (s.take ((pdig_m s).toNat))) - (1 : Int)).toNat)).drop (((pdig_m s) + (1 : Int)).toNat)) ([61])).2.2)) from Bool.decide_eq_true]; exact r_not ((cut_m ((s.take (((atoi_v (s.take ((pdig_m s).toNat))) - (1 : Int)).toNat)).drop (((pdig_m s) + (1 : Int)).toNat)) ([61])).2.2) rfl rfl)) trivial (fun hs51 => ?_) (fun hs51 => ?_)
  · simp only [nz1, nz2, nz3]
    refine tk 2 63 (.bool true) rfl rfl (fun _ hw => run_mv rfl rfl) trivial ?_
    simp only [nz1, nz2, nz3]
    refine skx 3 64 rfl rfl rfl trivial ?_
    simp only [nz1, nz2, nz3]
    refine skx 4 65 rfl rfl rfl trivial ?_
    simp only [nz1, nz2, nz3]
    refine skx 5 66 rfl rfl rfl trivial ?_
    simp only [nz1, nz2, nz3]
    refine tk 6 67 (.bool true) rfl rfl (fun _ hw => run_pick rfl rfl rfl) trivial ?_
    simp only [nz1, nz2, nz3]
    refine tk 7 68 (.bool true) rfl rfl (fun _ hw => run_mv rfl rfl) trivial ?_
    simp only [nz1, nz2, nz3]
    refine skx 8 69 rfl rfl rfl trivial ?_
    simp only [nz1, nz2, nz3]
    refine skx 9 70 rfl rfl rfl trivial ?_
    simp only [nz1, nz2, nz3]
    refine skx 10 71 rfl rfl rfl trivial ?_
    simp only [nz1, nz2, nz3]
    refine skx 11 72 rfl rfl rfl trivial ?_
    simp only [nz1, nz2, nz3]
    refine skx 12 73 rfl rfl rfl trivial ?_
    simp only [nz1, nz2, nz3]
    refine skx 13 74 rfl rfl rfl trivial ?_
    simp only [nz1, nz2, nz3]
    refine skx 14 75 rfl rfl rfl trivial ?_
    simp only [nz1, nz2, nz3]
    refine skx 15 76 rfl rfl rfl trivial ?_
    simp only [nz1, nz2, nz3]
    refine skx 16 77 rfl rfl rfl trivial ?_
    simp only [nz1, nz2, nz3]
    refine tk 17 78 (.bool true) rfl rfl (fun _ hw => run_pick rfl rfl rfl) trivial ?_
    simp only [nz1, nz2, nz3]
    refine wpAnyH_done (by kernel_rfl) ?_ _
    refine then_n (hK48 _ _ ?_)
    refine cond_t rfl ?_
    refine wp_seq_k (fun K52 hK52 => ?_)
    refine wp_region_lit ?_
    refine lvw 79 (.agg #[.string (tx ([])), .string (tx ([]))]) rfl rfl (by unfold execOp; go_simp; try (first | rfl | (repeat' (first | rfl | apply And.intro)))) ?_
    simp only [nz1, nz2, nz3]
    refine lst rfl (m_store 0 47 _ _ 0 (.agg #[.string (tx ([])), .string (tx ([]))]) (old := #[.string (tx ([])), .string (tx ([]))]) (new := #[.string (tx ([])), .string (tx ([]))]) hm49 rfl rfl rfl rfl rfl (by exact sz_47) (show 0 + 2 ≤ 2 from by decide) (by simp [Value.cells, Value.oneCell']) rfl (fun w53 (hm54 : Mm none (fun _ => True) w w53 [.blk g4 #[.string (tx ([])), .string (tx ([]))] 47, .blk g44 #[.string (tx ((cut_m ((s.take (((atoi_v (s.take ((pdig_m s).toNat))) - (1 : Int)).toNat)).drop (((pdig_m s) + (1 : Int)).toNat)) ([61])).1)), .string (tx ((cut_m ((s.take (((atoi_v (s.take ((pdig_m s).toNat))) - (1 : Int)).toNat)).drop (((pdig_m s) + (1 : Int)).toNat)) ([61])).2.1))] 47]) => ?_))
    refine lvw 3 (.int .i64 0) rfl rfl (run_as rfl rfl) ?_
    simp only [nz1, nz2, nz3]
    refine wpList_nil ?_
    refine then_n (hK52 _ _ ?_)
    refine wp_ret ?_
    refine then_r ?_
    have he55 : first_m s = ((Par.mk ([]) ([])), 0) := (show first_m s = ((Par.mk ([]) ([])), 0) from by unfold first_m; rw [if_pos hs10, if_neg hs17, if_neg hs22, if_neg hs27, if_neg hc32, if_pos hs51] <;> rfl)
    exact ⟨rfl, .tuple #[.agg #[.string (tx ([])), .string (tx ([]))], .int .i64 0], Mem.res_ct rfl rfl (hm54.at 0 rfl) Tryd.underlying47 rfl (by exact sz_47) rfl, ⟨by rw [he55], hm54.below⟩⟩
  simp only [nz1, nz2, nz3]
  refine tk 2 63 (.bool false) rfl rfl (fun _ hw => run_mv rfl rfl) trivial ?_
  simp only [nz1, nz2, nz3]
  refine Sym.take_at 3 64 (.string (tx ((cut_m ((s.take (((atoi_v (s.take ((pdig_m s).toNat))) - (1 : Int)).toNat)).drop (((pdig_m s) + (1 : Int)).toNat)) ([61])).1))) rfl rfl (by kernel_rfl) (by kernel_rfl) (by kernel_rfl) (fun _ _ _ h => h) rfl (fun _ hw => run_mv rfl rfl) (trivial) ?_
  simp only [nz1, nz2, nz3]
  refine one_ready 4 (by kernel_rfl) ?_
  refine opd rfl rfl (m_call hm49 65 (.bool ((key_m ((cut_m ((s.take (((atoi_v (s.take ((pdig_m s).toNat))) - (1 : Int)).toNat)).drop (((pdig_m s) + (1 : Int)).toNat)) ([61])).1)))) rfl (run_key rfl rfl) (key_any ((cut_m ((s.take (((atoi_v (s.take ((pdig_m s).toNat))) - (1 : Int)).toNat)).drop (((pdig_m s) + (1 : Int)).toNat)) ([61])).1)  _  ) (fun w56 (hm57 : Mm none (fun _ => True) w w56 [.blk g4 #[.string (tx ([])), .string (tx ([]))] 47, .blk g44 #[.string (tx ((cut_m ((s.take (((atoi_v (s.take ((pdig_m s).toNat))) - (1 : Int)).toNat)).drop (((pdig_m s) + (1 : Int)).toNat)) ([61])).1)), .string (tx ((cut_m ((s.take (((atoi_v (s.take ((pdig_m s).toNat))) - (1 : Int)).toNat)).drop (((pdig_m s) + (1 : Int)).toNat)) ([61])).2.1))] 47]) => ?_))
  refine ⟨trivial, ?_⟩
  simp only [nz1, nz2, nz3]
  refine tkb 5 66 ((!(key_m ((cut_m ((s.take (((atoi_v (s.take ((pdig_m s).toNat))) - (1 : Int)).toNat)).drop (((pdig_m s) + (1 : Int)).toNat)) ([61])).1))) = true) rfl rfl rfl (fun _ hw => (by rw [show decide ((!(key_m ((cut_m ((s.take (((atoi_v (s.take ((pdig_m s).toNat))) - (1 : Int)).toNat)).drop (((pdig_m s) + (1 : Int)).toNat)) ([61])).1))) = true) = (!(key_m ((cut_m ((s.take (((atoi_v (s.take ((pdig_m s).toNat))) - (1 : Int)).toNat)).drop (((pdig_m s) + (1 : Int)).toNat)) ([61])).1))) from Bool.decide_eq_true]; exact r_not (key_m ((cut_m ((s.take (((atoi_v (s.take ((pdig_m s).toNat))) - (1 : Int)).toNat)).drop (((pdig_m s) + (1 : Int)).toNat)) ([61])).1)) rfl rfl)) trivial (fun hs58 => ?_) (fun hs58 => ?_)
  · simp only [nz1, nz2, nz3]
    refine tk 6 67 (.bool true) rfl rfl (fun _ hw => run_pickf rfl rfl rfl) trivial ?_
    simp only [nz1, nz2, nz3]
    refine tk 7 68 (.bool true) rfl rfl (fun _ hw => run_mv rfl rfl) trivial ?_
    simp only [nz1, nz2, nz3]
    refine skx 8 69 rfl rfl rfl trivial ?_
    simp only [nz1, nz2, nz3]
    refine skx 9 70 rfl rfl rfl trivial ?_
    simp only [nz1, nz2, nz3]
    refine skx 10 71 rfl rfl rfl trivial ?_
    simp only [nz1, nz2, nz3]
    refine skx 11 72 rfl rfl rfl trivial ?_
    simp only [nz1, nz2, nz3]
    refine skx 12 73 rfl rfl rfl trivial ?_
    simp only [nz1, nz2, nz3]
    refine skx 13 74 rfl rfl rfl trivial ?_
    simp only [nz1, nz2, nz3]
    refine skx 14 75 rfl rfl rfl trivial ?_
    simp only [nz1, nz2, nz3]
    refine skx 15 76 rfl rfl rfl trivial ?_
    simp only [nz1, nz2, nz3]
    refine skx 16 77 rfl rfl rfl trivial ?_
    simp only [nz1, nz2, nz3]
    refine tk 17 78 (.bool true) rfl rfl (fun _ hw => run_pick rfl rfl rfl) trivial ?_
    simp only [nz1, nz2, nz3]
    refine wpAnyH_done (by kernel_rfl) ?_ _
    refine then_n (hK48 _ _ ?_)
    refine cond_t rfl ?_
    refine wp_seq_k (fun K59 hK59 => ?_)
    refine wp_region_lit ?_
    refine lvw 79 (.agg #[.string (tx ([])), .string (tx ([]))]) rfl rfl (by unfold execOp; go_simp; try (first | rfl | (repeat' (first | rfl | apply And.intro)))) ?_
    simp only [nz1, nz2, nz3]
    refine lst rfl (m_store 0 47 _ _ 0 (.agg #[.string (tx ([])), .string (tx ([]))]) (old := #[.string (tx ([])), .string (tx ([]))]) (new := #[.string (tx ([])), .string (tx ([]))]) hm57 rfl rfl rfl rfl rfl (by exact sz_47) (show 0 + 2 ≤ 2 from by decide) (by simp [Value.cells, Value.oneCell']) rfl (fun w60 (hm61 : Mm none (fun _ => True) w w60 [.blk g4 #[.string (tx ([])), .string (tx ([]))] 47, .blk g44 #[.string (tx ((cut_m ((s.take (((atoi_v (s.take ((pdig_m s).toNat))) - (1 : Int)).toNat)).drop (((pdig_m s) + (1 : Int)).toNat)) ([61])).1)), .string (tx ((cut_m ((s.take (((atoi_v (s.take ((pdig_m s).toNat))) - (1 : Int)).toNat)).drop (((pdig_m s) + (1 : Int)).toNat)) ([61])).2.1))] 47]) => ?_))
    refine lvw 3 (.int .i64 0) rfl rfl (run_as rfl rfl) ?_
    simp only [nz1, nz2, nz3]
    refine wpList_nil ?_
    refine then_n (hK59 _ _ ?_)
    refine wp_ret ?_
    refine then_r ?_
    have he62 : first_m s = ((Par.mk ([]) ([])), 0) := (show first_m s = ((Par.mk ([]) ([])), 0) from by unfold first_m; rw [if_pos hs10, if_neg hs17, if_neg hs22, if_neg hs27, if_neg hc32, if_neg hs51, if_pos hs58] <;> rfl)
    exact ⟨rfl, .tuple #[.agg #[.string (tx ([])), .string (tx ([]))], .int .i64 0], Mem.res_ct rfl rfl (hm61.at 0 rfl) Tryd.underlying47 rfl (by exact sz_47) rfl, ⟨by rw [he62], hm61.below⟩⟩
  simp only [nz1, nz2, nz3]
  refine tk 6 67 (.bool false) rfl rfl (fun _ hw => run_pickf rfl rfl rfl) trivial ?_
  simp only [nz1, nz2, nz3]
  refine tk 7 68 (.bool false) rfl rfl (fun _ hw => run_mv rfl rfl) trivial ?_
  simp only [nz1, nz2, nz3]
  refine Sym.take_at 8 69 (.int .i64 ((atoi_v (s.take ((pdig_m s).toNat))))) rfl rfl (by kernel_rfl) (by kernel_rfl) (by kernel_rfl) (fun _ _ _ h => h) rfl (fun _ hw => run_mv rfl rfl) (trivial) ?_
  simp only [nz1, nz2, nz3]
  refine Sym.take_at 9 70 (.int .i64 ((pdig_m s))) rfl rfl (by kernel_rfl) (by kernel_rfl) (by kernel_rfl) (fun _ _ _ h => h) rfl (fun _ hw => run_mv rfl rfl) (trivial) ?_
  simp only [nz1, nz2, nz3]
  refine Sym.take_at 10 71 (.int .i64 (((atoi_v (s.take ((pdig_m s).toNat))) - (pdig_m s)))) rfl rfl (by kernel_rfl) (by kernel_rfl) (by kernel_rfl) (fun _ _ _ h => h) rfl (fun _ hw => z_sub (atoi_v (s.take ((pdig_m s).toNat))) (pdig_m s) _ (by rw [IntKind.wrap_i64]; omega) rfl rfl rfl) (trivial) ?_
  simp only [nz1, nz2, nz3]
  refine Sym.take_at 13 74 (.string (tx s)) rfl rfl (by kernel_rfl) (by kernel_rfl) (by kernel_rfl) (fun _ _ _ h => h) rfl (fun _ hw => run_mv rfl rfl) (trivial) ?_
  simp only [nz1, nz2, nz3]
  refine Sym.take_at 14 75 (.int .i64 ((pdig_m s))) rfl rfl (by kernel_rfl) (by kernel_rfl) (by kernel_rfl) (fun _ _ _ h => h) rfl (fun _ hw => run_mv rfl rfl) (trivial) ?_
  simp only [nz1, nz2, nz3]
  refine Sym.take_at 15 76 (.string (tx (s.take ((pdig_m s).toNat)))) rfl rfl (by kernel_rfl) (by kernel_rfl) (by kernel_rfl) (fun _ _ _ h => h) rfl (fun _ hw => t_to s ((pdig_m s).toNat) (by omega) Tryd.underlying9 rfl rfl (show (Value.int .i64 (pdig_m s)) = .int .i64 (((pdig_m s).toNat : Nat) : Int) from by congr 1; omega)) (trivial) ?_
  simp only [nz1, nz2, nz3]
  refine one_ready 11 (by kernel_rfl) ?_
  refine opd rfl rfl (m_call hm57 72 (.int .i64 ((plen_m ((atoi_v (s.take ((pdig_m s).toNat))) - (pdig_m s))))) rfl (run_plen rfl rfl) (plen_any ((atoi_v (s.take ((pdig_m s).toNat))) - (pdig_m s))  _  (Laid.below hT hm57.below) (by first | omega | assumption | (simp only [List.length_append, List.length_cons, List.length_nil]; omega) | (simp only [List.length_append, List.length_cons, List.length_nil] at *; omega) | (simp; done) | (simp; omega) | decide) (by first | omega | assumption | (simp only [List.length_append, List.length_cons, List.length_nil]; omega) | (simp only [List.length_append, List.length_cons, List.length_nil] at *; omega) | (simp; done) | (simp; omega) | decide)) (fun w63 (hm64 : Mm none (fun _ => True) w w63 [.blk g4 #[.string (tx ([])), .string (tx ([]))] 47, .blk g44 #[.string (tx ((cut_m ((s.take (((atoi_v (s.take ((pdig_m s).toNat))) - (1 : Int)).toNat)).drop (((pdig_m s) + (1 : Int)).toNat)) ([61])).1)), .string (tx ((cut_m ((s.take (((atoi_v (s.take ((pdig_m s).toNat))) - (1 : Int)).toNat)).drop (((pdig_m s) + (1 : Int)).toNat)) ([61])).2.1))] 47]) => ?_))
  have hf65 : ((atoi_v (s.take ((pdig_m s).toNat))) - (pdig_m s)) + 1 ≤ (plen_m ((atoi_v (s.take ((pdig_m s).toNat))) - (pdig_m s))) ∧ (plen_m ((atoi_v (s.take ((pdig_m s).toNat))) - (pdig_m s))) ≤ ((atoi_v (s.take ((pdig_m s).toNat))) - (pdig_m s)) + 19 := plen_rng ((atoi_v (s.take ((pdig_m s).toNat))) - (pdig_m s)) (by first | omega | (simp only [List.length_append, List.length_cons, List.length_nil]; omega) | (simp only [List.length_append, List.length_cons, List.length_nil] at *; omega)) (by first | omega | (simp only [List.length_append, List.length_cons, List.length_nil]; omega) | (simp only [List.length_append, List.length_cons, List.length_nil] at *; omega))
  refine ⟨trivial, ?_⟩
  simp only [nz1, nz2, nz3]
  refine one_ready 12 (by kernel_rfl) ?_
  refine opd rfl rfl (m_call hm64 73 (.string (tx (itoa_m (plen_m ((atoi_v (s.take ((pdig_m s).toNat))) - (pdig_m s)))))) rfl (run_itoa rfl rfl) (itoa_any (plen_m ((atoi_v (s.take ((pdig_m s).toNat))) - (pdig_m s)))  _  (Laid.below hT hm64.below) (by first | omega | assumption | (simp only [List.length_append, List.length_cons, List.length_nil]; omega) | (simp only [List.length_append, List.length_cons, List.length_nil] at *; omega) | (simp; done) | (simp; omega) | decide) (by first | omega | assumption | (simp only [List.length_append, List.length_cons, List.length_nil]; omega) | (simp only [List.length_append, List.length_cons, List.length_nil] at *; omega) | (simp; done) | (simp; omega) | decide)) (fun w66 (hm67 : Mm none (fun _ => True) w w66 [.blk g4 #[.string (tx ([])), .string (tx ([]))] 47, .blk g44 #[.string (tx ((cut_m ((s.take (((atoi_v (s.take ((pdig_m s).toNat))) - (1 : Int)).toNat)).drop (((pdig_m s) + (1 : Int)).toNat)) ([61])).1)), .string (tx ((cut_m ((s.take (((atoi_v (s.take ((pdig_m s).toNat))) - (1 : Int)).toNat)).drop (((pdig_m s) + (1 : Int)).toNat)) ([61])).2.1))] 47]) => ?_))
  have hf68 : 1 ≤ (itoa_m (plen_m ((atoi_v (s.take ((pdig_m s).toNat))) - (pdig_m s)))).length ∧ (itoa_m (plen_m ((atoi_v (s.take ((pdig_m s).toNat))) - (pdig_m s)))).length ≤ 19 := itoa_len (plen_m ((atoi_v (s.take ((pdig_m s).toNat))) - (pdig_m s))) (by first | omega | (simp only [List.length_append, List.length_cons, List.length_nil]; omega) | (simp only [List.length_append, List.length_cons, List.length_nil] at *; omega)) (by first | omega | (simp only [List.length_append, List.length_cons, List.length_nil]; omega) | (simp only [List.length_append, List.length_cons, List.length_nil] at *; omega))
  refine ⟨trivial, ?_⟩
  simp only [nz1, nz2, nz3]
  refine Sym.take_at 16 77 (.bool (decide (¬ (itoa_m (plen_m ((atoi_v (s.take ((pdig_m s).toNat))) - (pdig_m s)))) = (s.take ((pdig_m s).toNat))))) rfl rfl (by kernel_rfl) (by kernel_rfl) (by kernel_rfl) (fun _ _ _ h => h) rfl (fun _ hw => t_neq (itoa_m (plen_m ((atoi_v (s.take ((pdig_m s).toNat))) - (pdig_m s)))) (s.take ((pdig_m s).toNat)) rfl rfl rfl) (trivial) ?_
  simp only [nz1, nz2, nz3]
  refine tk 17 78 (.bool (decide (¬ (itoa_m (plen_m ((atoi_v (s.take ((pdig_m s).toNat))) - (pdig_m s)))) = (s.take ((pdig_m s).toNat))))) rfl rfl (fun _ hw => run_pickf rfl rfl rfl) trivial ?_
  simp only [nz1, nz2, nz3]
  refine wpAnyH_done (by kernel_rfl) ?_ _
  refine then_n (hK48 _ _ ?_)
  refine cond_d (¬ (itoa_m (plen_m ((atoi_v (s.take ((pdig_m s).toNat))) - (pdig_m s)))) = (s.take ((pdig_m s).toNat))) rfl (fun hc69 => ?_) (fun hc69 => ?_)
  · refine wp_seq_k (fun K70 hK70 => ?_)
    refine wp_region_lit ?_
    refine lvw 79 (.agg #[.string (tx ([])), .string (tx ([]))]) rfl rfl (by unfold execOp; go_simp; try (first | rfl | (repeat' (first | rfl | apply And.intro)))) ?_
    simp only [nz1, nz2, nz3]
    refine lst rfl (m_store 0 47 _ _ 0 (.agg #[.string (tx ([])), .string (tx ([]))]) (old := #[.string (tx ([])), .string (tx ([]))]) (new := #[.string (tx ([])), .string (tx ([]))]) hm67 rfl rfl rfl rfl rfl (by exact sz_47) (show 0 + 2 ≤ 2 from by decide) (by simp [Value.cells, Value.oneCell']) rfl (fun w71 (hm72 : Mm none (fun _ => True) w w71 [.blk g4 #[.string (tx ([])), .string (tx ([]))] 47, .blk g44 #[.string (tx ((cut_m ((s.take (((atoi_v (s.take ((pdig_m s).toNat))) - (1 : Int)).toNat)).drop (((pdig_m s) + (1 : Int)).toNat)) ([61])).1)), .string (tx ((cut_m ((s.take (((atoi_v (s.take ((pdig_m s).toNat))) - (1 : Int)).toNat)).drop (((pdig_m s) + (1 : Int)).toNat)) ([61])).2.1))] 47]) => ?_))
    refine lvw 3 (.int .i64 0) rfl rfl (run_as rfl rfl) ?_
    simp only [nz1, nz2, nz3]
    refine wpList_nil ?_
    refine then_n (hK70 _ _ ?_)
    refine wp_ret ?_
    refine then_r ?_
    have he73 : first_m s = ((Par.mk ([]) ([])), 0) := (show first_m s = ((Par.mk ([]) ([])), 0) from by unfold first_m; rw [if_pos hs10, if_neg hs17, if_neg hs22, if_neg hs27, if_neg hc32, if_neg hs51, if_neg hs58, if_pos hc69] <;> rfl)
    exact ⟨rfl, .tuple #[.agg #[.string (tx ([])), .string (tx ([]))], .int .i64 0], Mem.res_ct rfl rfl (hm72.at 0 rfl) Tryd.underlying47 rfl (by exact sz_47) rfl, ⟨by rw [he73], hm72.below⟩⟩
  refine wp_skip ?_
  refine then_n (hK47 _ _ ?_)
  refine wp_seq_k (fun K74 hK74 => ?_)
  refine wp_region_lit ?_
  refine lvw 80 (.agg #[.string (tx ((cut_m ((s.take (((atoi_v (s.take ((pdig_m s).toNat))) - (1 : Int)).toNat)).drop (((pdig_m s) + (1 : Int)).toNat)) ([61])).1)), .string (tx ((cut_m ((s.take (((atoi_v (s.take ((pdig_m s).toNat))) - (1 : Int)).toNat)).drop (((pdig_m s) + (1 : Int)).toNat)) ([61])).2.1))]) rfl rfl (r_whole (hm67.at 1 rfl) Tryd.underlying47 rfl (by exact sz_47) rfl rfl) ?_
  simp only [nz1, nz2, nz3]
  refine lvw 81 (.int .i64 ((atoi_v (s.take ((pdig_m s).toNat))))) rfl rfl (run_mv rfl rfl) ?_
  simp only [nz1, nz2, nz3]
  refine lst rfl (m_store 0 47 _ _ 0 (.agg #[.string (tx ((cut_m ((s.take (((atoi_v (s.take ((pdig_m s).toNat))) - (1 : Int)).toNat)).drop (((pdig_m s) + (1 : Int)).toNat)) ([61])).1)), .string (tx ((cut_m ((s.take (((atoi_v (s.take ((pdig_m s).toNat))) - (1 : Int)).toNat)).drop (((pdig_m s) + (1 : Int)).toNat)) ([61])).2.1))]) (old := #[.string (tx ([])), .string (tx ([]))]) (new := #[.string (tx ((cut_m ((s.take (((atoi_v (s.take ((pdig_m s).toNat))) - (1 : Int)).toNat)).drop (((pdig_m s) + (1 : Int)).toNat)) ([61])).1)), .string (tx ((cut_m ((s.take (((atoi_v (s.take ((pdig_m s).toNat))) - (1 : Int)).toNat)).drop (((pdig_m s) + (1 : Int)).toNat)) ([61])).2.1))]) hm67 rfl rfl rfl rfl rfl (by exact sz_47) (show 0 + 2 ≤ 2 from by decide) (by simp [Value.cells, Value.oneCell']) rfl (fun w75 (hm76 : Mm none (fun _ => True) w w75 [.blk g4 #[.string (tx ((cut_m ((s.take (((atoi_v (s.take ((pdig_m s).toNat))) - (1 : Int)).toNat)).drop (((pdig_m s) + (1 : Int)).toNat)) ([61])).1)), .string (tx ((cut_m ((s.take (((atoi_v (s.take ((pdig_m s).toNat))) - (1 : Int)).toNat)).drop (((pdig_m s) + (1 : Int)).toNat)) ([61])).2.1))] 47, .blk g44 #[.string (tx ((cut_m ((s.take (((atoi_v (s.take ((pdig_m s).toNat))) - (1 : Int)).toNat)).drop (((pdig_m s) + (1 : Int)).toNat)) ([61])).1)), .string (tx ((cut_m ((s.take (((atoi_v (s.take ((pdig_m s).toNat))) - (1 : Int)).toNat)).drop (((pdig_m s) + (1 : Int)).toNat)) ([61])).2.1))] 47]) => ?_))
  refine lvw 3 (.int .i64 ((atoi_v (s.take ((pdig_m s).toNat))))) rfl rfl (run_as rfl rfl) ?_
  simp only [nz1, nz2, nz3]
  refine wpList_nil ?_
  refine then_n (hK74 _ _ ?_)
  refine wp_ret ?_
  have he77 : first_m s = ((Par.mk ((cut_m ((s.take (((atoi_v (s.take ((pdig_m s).toNat))) - (1 : Int)).toNat)).drop (((pdig_m s) + (1 : Int)).toNat)) ([61])).1) ((cut_m ((s.take (((atoi_v (s.take ((pdig_m s).toNat))) - (1 : Int)).toNat)).drop (((pdig_m s) + (1 : Int)).toNat)) ([61])).2.1)), (atoi_v (s.take ((pdig_m s).toNat)))) := (show first_m s = ((Par.mk ((cut_m ((s.take (((atoi_v (s.take ((pdig_m s).toNat))) - (1 : Int)).toNat)).drop (((pdig_m s) + (1 : Int)).toNat)) ([61])).1) ((cut_m ((s.take (((atoi_v (s.take ((pdig_m s).toNat))) - (1 : Int)).toNat)).drop (((pdig_m s) + (1 : Int)).toNat)) ([61])).2.1)), (atoi_v (s.take ((pdig_m s).toNat)))) from by unfold first_m; rw [if_pos hs10, if_neg hs17, if_neg hs22, if_neg hs27, if_neg hc32, if_neg hs51, if_neg hs58, if_neg hc69] <;> rfl)
  exact ⟨rfl, .tuple #[.agg #[.string (tx ((cut_m ((s.take (((atoi_v (s.take ((pdig_m s).toNat))) - (1 : Int)).toNat)).drop (((pdig_m s) + (1 : Int)).toNat)) ([61])).1)), .string (tx ((cut_m ((s.take (((atoi_v (s.take ((pdig_m s).toNat))) - (1 : Int)).toNat)).drop (((pdig_m s) + (1 : Int)).toNat)) ([61])).2.1))], .int .i64 ((atoi_v (s.take ((pdig_m s).toNat))))], Mem.res_ct rfl rfl (hm76.at 0 rfl) Tryd.underlying47 rfl (by exact sz_47) rfl, ⟨by rw [he77], hm76.below⟩⟩
theorem run_first {o : Oper} {a : Act} {w : World} {x0 : Operand} {v0 : Value} (ho : o.op = .call { callee := .value (.func 48), args := #[x0], argTypes := #[9] }) (h0 : a.eval x0 = v0) :
    (execOp a.eval o).run Tryd.prog w = .ok (.enter 48 #[v0]) w := by
  unfold execOp
  simp only [ho]
  have hf : a.eval (.func 48) = .func (.func 48) #[] #[] := rfl
  generalize a.eval = f at *
  go_simp
end Go.Proofs.YtglnifckngcpkaaDoor.Px
