/- What came in: bytes, a setup. -/
import Derived.Test.YtdogdinkopocaaaDoorPO
import Derived.Test.YtdogdinkopocaaaDoorPB
namespace Go.Proofs.YtdogdinkopocaaaDoor
open Go.ChangeShapes Go.WideShapes Go.ChangeAt Go.RowKit Go.Joins

theorem cellsU8 : Tryd.prog.cellsOf 5 = 1 := by kernel_rfl
theorem cellsBy : Tryd.prog.cellsOf 30 = 1 := by kernel_rfl
theorem cellsSu : Tryd.prog.cellsOf 32 = 8 := by kernel_rfl

theorem list8 {α : Type} {cs : List α} (h : cs.length = 8) : ∃ c0 c1 c2 c3 c4 c5 c6 c7, cs = [c0, c1, c2, c3, c4, c5, c6, c7] := by
  match cs, h with
  | [c0, c1, c2, c3, c4, c5, c6, c7], _ => exact ⟨c0, c1, c2, c3, c4, c5, c6, c7, rfl⟩
section
variable {H : Type} {enc : TypeId × Value → H} {W : World} {base : Nat} {sp : Nat → Bool} {held : Bool}
theorem trod_struct4 {P : Program} {w : World} {spare : Nat → Bool} {t : TypeId} {f0 f1 f2 f3 : Field} {fuel : Nat} {cs : List Value} {x : DataW H × List MemPlace} (ht : P.underlying t = some (.struct #[f0, f1, f2, f3])) (h : DataW.trod enc P w base spare held fuel t cs = some x) :
    ∃ y0 y1 y2 y3 n, cs.length = P.cellsOf t ∧ DataW.trod enc P w base spare held n f0.type ((cs.drop f0.offset).take (P.cellsOf f0.type)) = some y0 ∧ DataW.trod enc P w base spare held n f1.type ((cs.drop f1.offset).take (P.cellsOf f1.type)) = some y1 ∧ DataW.trod enc P w base spare held n f2.type ((cs.drop f2.offset).take (P.cellsOf f2.type)) = some y2 ∧ DataW.trod enc P w base spare held n f3.type ((cs.drop f3.offset).take (P.cellsOf f3.type)) = some y3 := by
  obtain ⟨xs, n, _, rfl, hl, hlen, hf⟩ := DataW.trod_struct ht h
  match xs, hlen with
  | [y0, y1, y2, y3], _ => exact ⟨y0, y1, y2, y3, n, hl, by simpa using hf 0 f0 rfl, by simpa using hf 1 f1 rfl, by simpa using hf 2 f2 rfl, by simpa using hf 3 f3 rfl⟩
theorem open_bytes {n : Nat} {cs : List Value} {x : DataW H × List MemPlace} (h : DataW.trod enc Tryd.prog W base sp held n 30 cs = some x) :
    ∃ a len cap, cs = [.slice a len cap] ∧ len ≤ cap ∧ (a = none → len = 0 ∧ cap = 0) ∧ ∃ us : List UInt8, us.length = len ∧ Rd8 W a (us.map fun u => (u.toNat : Int)) := by
  rcases Deep.open_slice Tryd.underlying30 h with ⟨hcs, -⟩ | ⟨a, len, cap, m, nn, D, Pl, hcs, -, hl, hmx, hm, -, hel⟩
  · exact ⟨none, 0, 0, hcs, Nat.le_refl _, fun _ => ⟨rfl, rfl⟩, [], rfl, Or.inl ⟨rfl, rfl⟩⟩
  · refine ⟨some a, len, cap, hcs, hl, fun h => (by cases h), ?_⟩
    rw [cellsU8] at hel
    have hlm : len ≤ m := by rw [hm]; split <;> omega
    have key : ∀ i, i < len → ∃ u : UInt8, W.cell? (a.add i) = some (.int .u8 (u.toNat : Int)) := by
      intro i hi
      obtain ⟨cs', h1, h2⟩ := hel i (by omega)
      obtain ⟨y, ey, -, wy⟩ := DataW.trod_int Tryd.underlying5 h2
      obtain ⟨-, hl', hc⟩ := World.cells?_some h1
      have h3 := hc 0 (by omega)
      have e0 : (a.add (i * 1)).add 0 = a.add i := by rw [Nat.mul_one]; unfold Addr.add; split <;> simp_all
      rw [e0, ey] at h3
      have hb := bounds_u8 wy
      refine ⟨UInt8.ofNat y.toNat, ?_⟩
      have e1 : ((UInt8.ofNat y.toNat).toNat : Int) = y := by
        rw [UInt8.toNat_ofNat']
        omega
      rw [e1]
      simpa using h3
    obtain ⟨f, hf⟩ := Deep.choose_lt key
    refine ⟨(List.range len).map f, by simp, Or.inr ⟨a, rfl, fun j hj => ?_⟩⟩
    simp at hj ⊢
    exact hf j hj

/-- A setup's cells. -/
theorem open_setup {n : Nat} {cs : List Value} {y : DataW H × List MemPlace} (h : DataW.trod enc Tryd.prog W base sp held n 32 cs = some y) : ∃ (en ht : Int) (x : Rf) (a : Option Addr) (cap : Nat) (bl : List Int), cs = [.int .i64 en, .int .i64 ht, .int .i64 x.1, .int .i64 x.2.1, .int .u64 x.2.2.1, .int .i64 x.2.2.2.1, .int .u64 x.2.2.2.2, .slice a bl.length cap] ∧ okR x ∧ (a = none → cap = 0) ∧ bl.length ≤ cap ∧ Rd8 W a bl := by
  obtain ⟨y0, y1, y2, y3, n2, hl, g0, g1, g2, g3⟩ := trod_struct4 Tryd.underlying32 h
  rw [cellsSu] at hl
  obtain ⟨c0, c1, c2, c3, c4, c5, c6, c7, rfl⟩ := list8 hl
  simp only [cellsIn, cellsRf, cellsBy, List.drop_succ_cons, List.drop_zero, List.take_succ_cons, List.take_zero] at g0 g1 g2 g3
  obtain ⟨i, e0, -, -⟩ := DataW.trod_int Tryd.underlying3 g0
  obtain ⟨k, e1, -, -⟩ := DataW.trod_int Tryd.underlying3 g1
  obtain ⟨x, e2, hx⟩ := open_ref g2
  obtain ⟨a, len, cap, e3, h4, h5, us, h6, h7⟩ := open_bytes g3
  simp at e0 e1 e2 e3
  refine ⟨i, k, x, a, cap, us.map fun u => (u.toNat : Int), ?_, hx, fun q => (h5 q).2, by simp [h6, h4], h7⟩
  simp [e0, e1, e2, e3, h6]
end

end Go.Proofs.YtdogdinkopocaaaDoor
