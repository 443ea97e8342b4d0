/- The document's beside. -/
import Derived.Test.YtfcmmchppcffmaaDoorND
namespace Go.Proofs.YtfcmmchppcffmaaDoor
open Go.RowKit Go.Maps Go.ChangeMaps

/-- Those beside one of a row. -/
def besD (d : Int) (row : List Rf) : Rf × Rf × Bool := if plI d row < 0 then (zr, zr, false) else (besL row (plI d row).toNat, besR row (plI d row).toNat, true)
theorem besD_at {d : Int} {l : List Rf} {j : Nat} (hj : j < l.length) (he : l[j].id = d) (hn : ∀ q (_ : q < j) (hq : q < l.length), l[q].id ≠ d) : besD d l = (besL l j, besR l j, true) := by
  unfold besD
  rw [plI_at hj he hn, if_neg (by omega), Int.toNat_natCast]
theorem besD_no {d : Int} {l : List Rf} (hn : ∀ q (hq : q < l.length), l[q].id ≠ d) : besD d l = (zr, zr, false) := by
  unfold besD
  rw [plI_no hn, if_pos (by omega)]
theorem st_ref {w : World} {b : Nat} {x : Rf} (I : IsB w b x.cells 30) (y : Rf) : ∃ w', (Instr.storeAt 30 (.pointer (some ⟨b, 0, none⟩)) (.agg y.cells)).run Tryd.prog w = .ok () w' ∧ IsB w' b y.cells 30 ∧ Kp [b] w w' := store_ref I rfl rfl (all_oneCell_toArray ((es_rfs [y]).one y.cs (by simp)))



end Go.Proofs.YtfcmmchppcffmaaDoor
