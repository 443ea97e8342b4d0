/- What the rows' listed variables give the walks: the table of ranks. -/
import Derived.Test.YtfcmmchppcffmaaDoorKB
import Derived.Test.YtfcmmchppcffmaaDoorRows
import Derived.ProofKit
import Derived.LaidMore
import Derived.OpenShut
import Derived.Stop.Joined
import Derived.ChangeSame
namespace Go.Proofs.YtfcmmchppcffmaaDoor
open Go.ChangeShapes Go.WideShapes Go.ChangeAt Go.WideMaps Go.WideElems Go.RowKit

theorem gRanks : Tryd.prog.globalNamed "leapfrog/key.ranks" = some 0 := by kernel_rfl
theorem tRanks : (Tryd.prog.globals[0]?).map (·.type) = some 96 := by kernel_rfl

theorem row_of_trod {H : Type} {enc : TypeId × Value → H} {W : World} {base fuel : Nat} {sp : Nat → Bool} {held : Bool} {a b : Value} {x : DataW H × List MemPlace} {k : Int} {s : List UInt8} (h : DataW.trod enc Tryd.prog W base sp held fuel 95 [a, b] = some x) (hx : x.1 = .agg [.lit (.int .i64 k), .lit (.string s)]) :
    a = .int .i64 k ∧ b = .string ⟨s.toArray⟩ := by
  obtain ⟨y0, y1, n, rfl, -, h0, h1⟩ := trod_struct2 Tryd.underlying95 h
  have c0 : Tryd.prog.cellsOf 23 = 1 := by kernel_rfl
  have c1 : Tryd.prog.cellsOf 9 = 1 := by kernel_rfl
  simp only [c0, c1] at h0 h1
  obtain ⟨n0, e0, rfl, -⟩ := DataW.trod_int Tryd.underlying23 h0
  obtain ⟨s1, e1, rfl, -⟩ := DataW.trod_string Tryd.underlying9 h1
  simp at e0 e1 hx
  obtain ⟨rfl, rfl⟩ := hx
  subst e0 e1
  exact ⟨rfl, by simp⟩

theorem ranks_of {H : Type} {enc : TypeId × Value → H} {W : World} {base fuel : Nat} {sp : Nat → Bool} {held : Bool} {cs : Array Value} {p : List MemPlace} (hv : W.var? Tryd.prog "leapfrog/key.ranks" = some cs)
    (hd : DataW.trod enc Tryd.prog W base sp held fuel 96 cs.toList = some (Rows.laid_leapfrog_key_ranks, p)) : Ranks W := by
  obtain ⟨xs, m, -, hx, hl, hn, hel⟩ := DataW.trod_array Tryd.underlying96 hd
  have c52 : Tryd.prog.cellsOf 95 = 2 := by kernel_rfl
  have c53 : Tryd.prog.cellsOf 96 = 6 := by kernel_rfl
  rw [c53] at hl
  rw [c52] at hel
  have hc := World.var?_cell gRanks hv
  obtain ⟨l⟩ := cs
  simp only [] at hl hel
  match l, hl with
  | [v0, v1, v2, v3, v4, v5], _ =>
    match xs, hn with
    | [x0, x1, x2], _ =>
      simp only [Prod.mk.injEq, Rows.laid_leapfrog_key_ranks, DataW.agg.injEq, List.map_cons, List.map_nil, List.cons.injEq] at hx
      obtain ⟨⟨q0, q1, q2, -⟩, -⟩ := hx
      have r0 := row_of_trod (show DataW.trod enc Tryd.prog W base sp held m 95 [v0, v1] = some x0 from hel 0 (by omega)) q0.symm
      have r1 := row_of_trod (show DataW.trod enc Tryd.prog W base sp held m 95 [v2, v3] = some x1 from hel 1 (by omega)) q1.symm
      have r2 := row_of_trod (show DataW.trod enc Tryd.prog W base sp held m 95 [v4, v5] = some x2 from hel 2 (by omega)) q2.symm
      obtain ⟨rfl, rfl⟩ := r0
      obtain ⟨rfl, rfl⟩ := r1
      obtain ⟨rfl, rfl⟩ := r2
      exact ⟨hc 0, hc 1, hc 2, hc 3, hc 4, hc 5⟩

/-- What the rows list: the ranks. -/
abbrev laid1 : List (String × DataW Unit) := [("leapfrog/key.ranks", Rows.laid_leapfrog_key_ranks)]

theorem door_met1 (os : Os) (args : Array Value) : laidMetH Tryd.prog laid1 ((World.doorLaid Tryd.prog 400 os).forCall (fun _ _ => 0) ⟨#[], args, []⟩).memory :=
  laidMetH_of_parts3 (fuel := 8) (laidMet_of_run' 8 (by kernel_rfl) (by kernel_rfl)) (by kernel_rfl) (by kernel_rfl)

theorem ranks_of_laid1 {W : World} (h : laidMetH Tryd.prog laid1 W) : Ranks W := by
  rw [MakeChecks.laidMetH_plain _ _ _ (by kernel_rfl)] at h
  obtain ⟨ps, ⟨g3, t3, cs3, f3, p3, q3, hg3, ht3, hv3, hd3, _, _⟩, _, _⟩ := h
  obtain rfl := Option.some.inj (gRanks.symm.trans hg3)
  obtain rfl := Option.some.inj (tRanks.symm.trans ht3)
  exact ranks_of hv3 hd3

end Go.Proofs.YtfcmmchppcffmaaDoor

