/- What an act that came in looks like. -/
import Derived.Test.YtoinjmddmahpkaaNN
import Derived.ProofKit
import Derived.OpenShut
import Derived.ShutString
import Derived.ChangeOld
import Derived.Below
import Derived.Lib.SmallJoins
import Derived.Deep.Slices
namespace Go.Proofs.Ytoinjmddmahpkaa
open Go.ChangeShapes Go.WideShapes Go.ChangeAt Go.RowKit Go.Joins

theorem Try.ownKnob0 : ownKnob Try.prog.godebug = none := by kernel_rfl
theorem Try.laidOut0 : laidOutB Try.prog = true := by kernel_rfl
theorem cellsOp : Try.prog.cellsOf 37 = 8 := by kernel_rfl
theorem cellsPa : Try.prog.cellsOf 35 = 5 := by kernel_rfl
theorem cellsAd : Try.prog.cellsOf 32 = 2 := by kernel_rfl
theorem cellsIn : Try.prog.cellsOf 3 = 1 := by kernel_rfl
theorem cellsBo : Try.prog.cellsOf 4 = 1 := by kernel_rfl
theorem cellsSl : Try.prog.cellsOf 33 = 1 := by kernel_rfl
theorem cellsU8 : Try.prog.cellsOf 5 = 1 := by kernel_rfl

theorem list8 {α : Type} {cs : List α} (h : cs.length = 8) : ∃ c0 c1 c2 c3 c4 c5 c6 c7, cs = [c0, c1, c2, c3, c4, c5, c6, c7] := by
  match cs, h with
  | [c0, c1, c2, c3, c4, c5, c6, c7], _ => exact ⟨c0, c1, c2, c3, c4, c5, c6, c7, rfl⟩

section
variable {H : Type} {enc : TypeId × Value → H} {W : World} {base : Nat} {sp : Nat → Bool} {held : Bool}

/-- The bytes of a slice that came in can be read. -/
theorem open_bytes {n : Nat} {cs : List Value} {x : DataW H × List MemPlace} (h : DataW.trod enc Try.prog W base sp held n 33 cs = some x) :
    ∃ a len cap, cs = [.slice a len cap] ∧ len ≤ cap ∧ (a = none → len = 0 ∧ cap = 0) ∧ ∃ us : List UInt8, us.length = len ∧ Rd8 W a (us.map fun u => (u.toNat : Int)) := by
  rcases Deep.open_slice Try.underlying33 h with ⟨hcs, -⟩ | ⟨a, len, cap, m, nn, D, Pl, hcs, -, hl, hmx, hm, -, hel⟩
  · exact ⟨none, 0, 0, hcs, Nat.le_refl _, fun _ => ⟨rfl, rfl⟩, [], rfl, Or.inl ⟨rfl, rfl⟩⟩
  · refine ⟨some a, len, cap, hcs, hl, fun h => (by cases h), ?_⟩
    rw [cellsU8] at hel
    have hlm : len ≤ m := by rw [hm]; split <;> omega
    have key : ∀ i, i < len → ∃ u : UInt8, W.cell? (a.add i) = some (.int .u8 (u.toNat : Int)) := by
      intro i hi
      obtain ⟨cs', h1, h2⟩ := hel i (by omega)
      obtain ⟨y, ey, -, wy⟩ := DataW.trod_int Try.underlying5 h2
      obtain ⟨-, hl', hc⟩ := World.cells?_some h1
      have h3 := hc 0 (by omega)
      have e0 : (a.add (i * 1)).add 0 = a.add i := by rw [Nat.mul_one]; unfold Addr.add; split <;> simp_all
      rw [e0, ey] at h3
      have hb := bounds_u8 wy
      refine ⟨UInt8.ofNat y.toNat, ?_⟩
      have e1 : ((UInt8.ofNat y.toNat).toNat : Int) = y := by
        rw [UInt8.toNat_ofNat']
        omega
      rw [e1]
      simpa using h3
    obtain ⟨f, hf⟩ := Deep.choose_lt key
    refine ⟨(List.range len).map f, by simp, Or.inr ⟨a, rfl, fun j hj => ?_⟩⟩
    simp at hj ⊢
    exact hf j hj

/-- An act's eight cells, as they are read. -/
theorem open_op {n : Nat} {cs : List Value} {x : DataW H × List MemPlace} (h : DataW.trod enc Try.prog W base sp held n 37 cs = some x) :
    ∃ kd fa fn ta tn a len cap I K, cs = [.int .i64 kd, .bool fa, .int .i64 fn, .bool ta, .int .i64 tn, .slice a len cap, .int .i64 I, .int .i64 K] ∧ len ≤ cap ∧ (a = none → len = 0 ∧ cap = 0) ∧ (∃ us : List UInt8, us.length = len ∧ Rd8 W a (us.map fun u => (u.toNat : Int))) := by
  obtain ⟨y0, y1, y2, y3, n1, -, hl, h0, h1, h2, h3⟩ := trod_struct4 Try.underlying37 h
  rw [cellsOp] at hl
  obtain ⟨c0, c1, c2, c3, c4, c5, c6, c7, rfl⟩ := list8 hl
  simp only [cellsIn, cellsPa, List.drop_succ_cons, List.drop_zero, List.take_succ_cons, List.take_zero] at h0 h1 h2 h3
  obtain ⟨kd, e0, -, -⟩ := DataW.trod_int Try.underlying3 h0
  obtain ⟨I, e2, -, -⟩ := DataW.trod_int Try.underlying3 h2
  obtain ⟨K, e3, -, -⟩ := DataW.trod_int Try.underlying3 h3
  obtain ⟨z0, z1, z2, n2, -, -, g0, g1, g2⟩ := Deep.trod_struct3 Try.underlying35 h1
  simp only [cellsAd, cellsSl, List.drop_succ_cons, List.drop_zero, List.take_succ_cons, List.take_zero] at g0 g1 g2
  obtain ⟨u0, u1, n3, -, -, k0, k1⟩ := trod_struct2 Try.underlying32 g0
  obtain ⟨t0, t1, n4, -, -, l0, l1⟩ := trod_struct2 Try.underlying32 g1
  simp only [cellsIn, cellsBo, List.drop_succ_cons, List.drop_zero, List.take_succ_cons, List.take_zero] at k0 k1 l0 l1
  obtain ⟨fa, e4, -⟩ := DataW.trod_bool Try.underlying4 k0
  obtain ⟨fn, e5, -, -⟩ := DataW.trod_int Try.underlying3 k1
  obtain ⟨ta, e6, -⟩ := DataW.trod_bool Try.underlying4 l0
  obtain ⟨tn, e7, -, -⟩ := DataW.trod_int Try.underlying3 l1
  obtain ⟨a, len, cap, e8, h9, h10, h11⟩ := open_bytes g2
  simp at e0 e2 e3 e4 e5 e6 e7 e8
  subst e0 e2 e3 e4 e5 e6 e7 e8
  exact ⟨kd, fa, fn, ta, tn, a, len, cap, I, K, rfl, h9, h10, h11⟩
end

end Go.Proofs.Ytoinjmddmahpkaa
