/- Plain facts on strings with an end put behind them (layer 21's names). -/
import Derived.Test.YtcadahlmihfmlaaRows
import Derived.Lib.Strings
namespace Go.Proofs.Ytcadahlmihfmlaa.Cfg

def nw : ByteArray := ⟨#[46, 110, 101, 119]⟩
def sv : ByteArray := ⟨#[46, 115, 97, 118, 101]⟩
theorem app_list (a b : ByteArray) : (a ++ b).toList = a.toList ++ b.toList := by
  rw [Lib.toList_data, Lib.toList_data, Lib.toList_data, ByteArray.data_append, Array.toList_append]
theorem ne_of_len {a b : List UInt8} (h : a.length ≠ b.length) : (a == b) = false := by
  rw [beq_eq_false_iff_ne]; intro e; exact h (by rw [e])
theorem nw_list : nw.toList = [46, 110, 101, 119] := by decide +kernel
theorem sv_list : sv.toList = [46, 115, 97, 118, 101] := by decide +kernel
theorem ns_ne (a : ByteArray) : ((a ++ ⟨#[46, 110, 101, 119]⟩ : ByteArray).toList == (a ++ ⟨#[46, 115, 97, 118, 101]⟩ : ByteArray).toList) = false :=
  ne_of_len (by show (a ++ nw).toList.length ≠ (a ++ sv).toList.length; rw [app_list, app_list, nw_list, sv_list]; simp)
theorem n_ne (a : ByteArray) : ((a ++ ⟨#[46, 110, 101, 119]⟩ : ByteArray).toList == a.toList) = false :=
  ne_of_len (by show (a ++ nw).toList.length ≠ a.toList.length; rw [app_list, nw_list]; simp)
theorem s_ne (a : ByteArray) : ((a ++ ⟨#[46, 115, 97, 118, 101]⟩ : ByteArray).toList == a.toList) = false :=
  ne_of_len (by show (a ++ sv).toList.length ≠ a.toList.length; rw [app_list, sv_list]; simp)
theorem nn_ne (a b : ByteArray) (h : (a.toList == b.toList) = false) : ((a ++ ⟨#[46, 110, 101, 119]⟩ : ByteArray).toList == (b ++ ⟨#[46, 110, 101, 119]⟩ : ByteArray).toList) = false := by
  rw [beq_eq_false_iff_ne] at h ⊢
  show (a ++ nw).toList ≠ (b ++ nw).toList
  rw [app_list, app_list]; intro e; exact h (List.append_cancel_right e)
theorem ss_ne (a b : ByteArray) (h : (a.toList == b.toList) = false) : ((a ++ ⟨#[46, 115, 97, 118, 101]⟩ : ByteArray).toList == (b ++ ⟨#[46, 115, 97, 118, 101]⟩ : ByteArray).toList) = false := by
  rw [beq_eq_false_iff_ne] at h ⊢
  show (a ++ sv).toList ≠ (b ++ sv).toList
  rw [app_list, app_list]; intro e; exact h (List.append_cancel_right e)
end Go.Proofs.Ytcadahlmihfmlaa.Cfg
