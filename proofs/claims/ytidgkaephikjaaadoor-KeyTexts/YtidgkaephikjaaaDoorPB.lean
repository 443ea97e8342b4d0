/- What the rows' six listed variables give the walks: the table of ranks, and that of the powers of ten. -/
import Derived.Test.YtidgkaephikjaaaDoorPA
import Derived.Test.YtidgkaephikjaaaDoorFA
import Derived.Lib.LaidTab
namespace Go.Proofs.YtidgkaephikjaaaDoor
open Go.ChangeShapes Go.WideShapes Go.ChangeAt Go.WideMaps Go.WideElems Go.RowKit

theorem tPows : (Tryd.prog.globals[1]?).map (·.type) = some 115 := by kernel_rfl
theorem pows_data : (Rows.laid_internal_strconv_uint64pow10 : DataW Unit) = Lib.tabData .u64 Lib.pow10Tab := by kernel_rfl
theorem pows_of {W : World} {fuel : Nat} {cs : Array Value} {p : List MemPlace} (hv : W.var? Tryd.prog "internal/strconv.uint64pow10" = some cs)
    (hd : DataW.trod (fun _ => ()) Tryd.prog W 0 (fun _ => true) false fuel 115 cs.toList = some (Rows.laid_internal_strconv_uint64pow10, p)) : Pows W := by
  unfold Pows Lib.TabIs
  rw [pows_data] at hd
  rw [hv, ← Lib.cells_of_tab Tryd.underlying115 Tryd.underlying23 (by kernel_rfl) (by kernel_rfl) hd]

/-- What the rows list: the tables of math/bits, of internal/strconv, the two errors of strconv, and the ranks. -/
abbrev laid6 : List (String × DataW Unit) := [("math/bits.deBruijn32tab", Rows.laid_math_bits_deBruijn32tab), ("math/bits.deBruijn64tab", Rows.laid_math_bits_deBruijn64tab), ("internal/strconv.uint64pow10", Rows.laid_internal_strconv_uint64pow10), ("strconv.ErrRange", Rows.laid_strconv_ErrRange), ("strconv.ErrSyntax", Rows.laid_strconv_ErrSyntax), ("leapfrog/key.ranks", Rows.laid_leapfrog_key_ranks)]

theorem door_met6 (os : Os) (args : Array Value) : laidMetH Tryd.prog laid6 ((World.doorLaid Tryd.prog 400 os).forCall (fun _ _ => 0) ⟨#[], args, []⟩).memory :=
  laidMetH_of_parts3 (fuel := 8) (laidMet_of_run' 8 (by kernel_rfl) (by kernel_rfl)) (by kernel_rfl) (by kernel_rfl)

theorem ranks_of_laid6 {W : World} (h : laidMetH Tryd.prog laid6 W) : Ranks W ∧ Pows W := by
  rw [MakeChecks.laidMetH_plain _ _ _ (by kernel_rfl)] at h
  obtain ⟨ps, ⟨g0, t0, cs0, f0, p0, q0, hg0, ht0, hv0, hd0, ⟨g1, t1, cs1, f1, p1, q1, hg1, ht1, hv1, hd1, ⟨g2, t2, cs2, f2, p2, q2, hg2, ht2, hv2, hd2, ⟨g3, t3, cs3, f3, p3, q3, hg3, ht3, hv3, hd3, ⟨g4, t4, cs4, f4, p4, q4, hg4, ht4, hv4, hd4, ⟨g5, t5, cs5, f5, p5, q5, hg5, ht5, hv5, hd5, _, _⟩, _⟩, _⟩, _⟩, _⟩, _⟩, _, _⟩ := h
  obtain rfl := Option.some.inj (gRanks.symm.trans hg5)
  obtain rfl := Option.some.inj (tRanks.symm.trans ht5)
  obtain rfl := Option.some.inj (gPows.symm.trans hg2)
  obtain rfl := Option.some.inj (tPows.symm.trans ht2)
  exact ⟨ranks_of hv5 hd5, pows_of hv2 hd2⟩

end Go.Proofs.YtidgkaephikjaaaDoor
