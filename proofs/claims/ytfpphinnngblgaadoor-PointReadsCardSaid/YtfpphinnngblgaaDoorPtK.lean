/- Layer 5: a point out of its bytes, in one sentence. -/
import Derived.Test.YtfpphinnngblgaaDoorPtV
namespace Go.Proofs.YtfpphinnngblgaaDoor.Fld
open Go.RowKit Go.Lib
open Go.Proofs.YtfpphinnngblgaaDoor.Num (val up val_congr val_add val_lt val_up val_digits val_word)
open Go.Proofs.YtfpphinnngblgaaDoor.Arr Go.Proofs.YtfpphinnngblgaaDoor.Sym Go.Proofs.YtfpphinnngblgaaDoor.Sx

/-- The point of a text's bytes, if there is one. -/
def unP (s : ByteArray) : Option Pn :=
  if s.size = 32 then
    if upY s < PP then
      if upOk (upY s) = true then
        if HH ≤ n32 s then (if upX (upY s) = 0 then none else some ⟨fN (upX (upY s)), upY s, 1, fM (fN (upX (upY s))) (upY s)⟩)
        else some ⟨upX (upY s), upY s, 1, fM (upX (upY s)) (upY s)⟩
      else none
    else none
  else none
def unV (s : ByteArray) : Value := match unP s with
  | some p => .tuple #[.agg (pq p), .bool true]
  | none => .tuple #[.agg (pt 0 0 0 0), .bool false]
theorem unpack_p (s : ByteArray) (w : World) (hd : DD w) : Calls Tryd.prog 10 #[.string s] w (fun e w' => e = .returned (unV s) ∧ Below w.heap.size w w') := by
  unfold unV unP upOk upX upS
  generalize h1 : fM (upY s) (upY s) = sq
  generalize h2 : fM dN sq = ds
  generalize h3 : fA ds 1 = den
  generalize h4 : fS sq 1 = nu
  generalize h5 : fI den = di
  generalize h6 : fM nu di = ra
  generalize h7 : rootV (ra % PP) = xv
  by_cases hs : s.size = 32
  · rw [if_pos hs]
    by_cases hc : upY s < PP
    · rw [if_pos hc]
      have ht := top_bit (n32 s) (n32_lt s)
      by_cases hok : rootOk (ra % PP) = true
      · rw [if_pos hok]
        by_cases ho : HH ≤ n32 s
        · rw [if_pos ho]
          by_cases hz : xv = 0
          · rw [if_pos hz]
            exact un_zero s sq ds den nu di ra xv h1 h2 h3 h4 h5 h6 h7 hs (ht.2 ho) hc hok hz w hd
          · rw [if_neg hz]
            exact un_odd s sq ds den nu di ra xv h1 h2 h3 h4 h5 h6 h7 hs (ht.2 ho) hc hok hz w hd
        · rw [if_neg ho]
          exact un_even s sq ds den nu di ra xv h1 h2 h3 h4 h5 h6 h7 hs (fun h => ho (ht.1 h)) hc hok w hd
      · rw [if_neg hok]
        have hok' : rootOk (ra % PP) = false := by simpa using hok
        by_cases ho : HH ≤ n32 s
        · exact un_root_o s sq ds den nu di ra xv h1 h2 h3 h4 h5 h6 h7 hs (ht.2 ho) hc hok' w hd
        · exact un_root_e s sq ds den nu di ra xv h1 h2 h3 h4 h5 h6 h7 hs (fun h => ho (ht.1 h)) hc hok' w hd
    · rw [if_neg hc]
      have ht := top_bit (n32 s) (n32_lt s)
      by_cases ho : HH ≤ n32 s
      · exact un_canon_o s hs (ht.2 ho) hc w
      · exact un_canon_e s hs (fun h => ho (ht.1 h)) hc w
  · rw [if_neg hs]
    exact un_len s hs w
end Go.Proofs.YtfpphinnngblgaaDoor.Fld
