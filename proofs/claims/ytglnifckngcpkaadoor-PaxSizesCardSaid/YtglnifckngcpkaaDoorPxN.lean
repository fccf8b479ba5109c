/- Layer 10: how long records are: the mathematics. -/
import Derived.Test.YtglnifckngcpkaaDoorPxB
namespace Go.Proofs.YtglnifckngcpkaaDoor.Px
open Go.Proofs.YtglnifckngcpkaaDoor.Mem
/-- What stands behind a record's length. -/
def rst (p : Par) : List UInt8 := ((([32] ++ p.key) ++ [61]) ++ p.value) ++ [10]
theorem rst_len (p : Par) : (rst p).length = p.key.length + p.value.length + 3 := by unfold rst; simp; omega
theorem record_is (p : Par) : record_m p = itoa_m (plen_m ((rst p).length : Int)) ++ rst p := rfl
theorem record_size (p : Par) (h1 : p.key.length ≤ 1048576) (h2 : p.value.length ≤ 1048576) : ((record_m p).length : Int) = plen_m ((rst p).length : Int) := by
  have h := rst_len p
  obtain ⟨_, e, _⟩ := plen_is ((rst p).length : Int) (by omega) (by omega)
  rw [record_is, List.length_append]
  omega
theorem record_len (p : Par) (h1 : p.key.length ≤ 1048576) (h2 : p.value.length ≤ 1048576) : (record_m p).length ≤ 2097200 := by
  have h := rst_len p
  have e := record_size p h1 h2
  have r := plen_rng ((rst p).length : Int) (by omega) (by omega)
  omega
theorem first_rng (s : List UInt8) : 0 ≤ (first_m s).2 ∧ (first_m s).2 ≤ (s.length : Int) := by
  have h := pdig_rng s
  unfold first_m
  repeat' split
  all_goals first
    | exact ⟨Int.le_refl _, by show (0 : Int) ≤ _; omega⟩
    | (refine ⟨?_, ?_⟩
       · show 0 ≤ atoi_v _; omega
       · show atoi_v _ ≤ _; omega)
end Go.Proofs.YtglnifckngcpkaaDoor.Px
