/- Layer 5: numbers of the base: it is on the curve, twice it is itself and itself, its sum packs and unpacks. -/
import Derived.Test.YtfpphinnngblgaaDoorPtW
import Derived.Test.YtfpphinnngblgaaDoorPtP
namespace Go.Proofs.YtfpphinnngblgaaDoor.Fld
open Go.RowKit Go.Lib
open Go.Proofs.YtfpphinnngblgaaDoor.Num (val up val_congr val_add val_lt val_up val_digits val_word)
open Go.Proofs.YtfpphinnngblgaaDoor.Arr Go.Proofs.YtfpphinnngblgaaDoor.Sym Go.Proofs.YtfpphinnngblgaaDoor.Sx

theorem on_base : onP baseP := by decide +kernel
theorem neg_base : sameP (addP baseP (negP baseP)) zeroP := by decide +kernel
theorem twice_base : sameP (timesP 2 baseP 256) (addP baseP baseP) := by decide +kernel
theorem pack_of (p : Pn) (i X Y N : Nat) (h1 : fI p.z = i) (h2 : fM p.x i = X) (h3 : fM p.y i = Y) (h4 : pkN X Y = N) : packS p = txt (bt N) 32 := by
  unfold packS
  rw [h1, h2, h3, h4]
theorem n32_bt (N : Nat) (h : N < MM) : n32 (txt (bt N) 32) = N := by
  rw [n32_txt (bt N) (bt_lt N), val_bt, ← MM_eq_b, Nat.mod_eq_of_lt h]
theorem unP_odd (s : ByteArray) (y x : Nat) (p : Pn) (hs : s.size = 32) (hy : upY s = y) (hc : y < PP) (hok : upOk y = true) (ho : HH ≤ n32 s) (hx : upX y = x) (hz : ¬ x = 0) (hp : (⟨fN x, y, 1, fM (fN x) y⟩ : Pn) = p) : unP s = some p := by
  unfold unP
  rw [if_pos hs, hy, if_pos hc, if_pos hok, if_pos ho, hx, if_neg hz, hp]
theorem upV_of (y s x : Nat) (h : upS y % PP = s) (h1 : rootV' s = x) : upX y = x := by
  unfold upX
  rw [h, rootV_at, h1]
theorem upOk_of (y s : Nat) (h : upS y % PP = s) (h1 : rootOk' s = true) : upOk y = true := by
  unfold upOk
  rw [h, rootOk_at, h1]
def sumN : Nat := 15549675580280190176352668710449542251549572066445060580507079593062643049417
def sumY : Nat := 15549675580280190176352668710449542251549572066445060580507079593062643049417
def sumP : Pn := ⟨24727413235106541002554574571675588834622768167397638456726423682521233608206, sumY, 1, 16552979481334663544878610556091376071931149008662153799327195285289362371585⟩
theorem sumN_lt : sumN < MM := by decide
theorem pack_sum : packS (addP baseP baseP) = txt (bt sumN) 32 :=
  pack_of (addP baseP baseP) 2955351391579511739856629296862366800576255065796768573002911034137943620940 24727413235106541002554574571675588834622768167397638456726423682521233608206 15549675580280190176352668710449542251549572066445060580507079593062643049417 sumN (inv_of (addP baseP baseP).z 2955351391579511739856629296862366800576255065796768573002911034137943620940 (by decide +kernel)) (by decide +kernel) (by decide +kernel) (by decide +kernel)
theorem upS_sum : upS sumY % PP = 18311789291127372628781806136146783184574042791475673037278570301711373930491 := upS_of sumY 1139915932023544565680292319010556372478780884717422605304093192505025226904 25951682853613908654691463870130899862121339373896320040217005108819962666 6151134429532833520906494638685100359776265630487679313610653461738416851712 18311789291127372628781806136146783184574042791475673037278570301711373930491 (by decide +kernel) (by decide +kernel) (inv_of _ _ (by decide +kernel)) (by decide +kernel)
theorem upY_sum : upY (txt (bt sumN) 32) = sumY := by unfold upY; rw [n32_bt sumN sumN_lt]; decide
theorem unP_sum : unP (txt (bt sumN) 32) = some sumP :=
  unP_of (txt (bt sumN) 32) sumY 24727413235106541002554574571675588834622768167397638456726423682521233608206 sumP (txt_size _ _) upY_sum (by decide) (upOk_of sumY _ upS_sum (by decide +kernel)) (by rw [n32_bt sumN sumN_lt]; decide) (upV_of sumY _ 24727413235106541002554574571675588834622768167397638456726423682521233608206 upS_sum (by decide +kernel)) (by rw [show fM 24727413235106541002554574571675588834622768167397638456726423682521233608206 sumY = 16552979481334663544878610556091376071931149008662153799327195285289362371585 by decide +kernel]; rfl)
theorem again_sum : sameP sumP (addP baseP baseP) := by decide +kernel
end Go.Proofs.YtfpphinnngblgaaDoor.Fld
