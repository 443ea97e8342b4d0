/- A result that came in. -/
import Derived.Test.YtfnpapaibgbjpaaYK
import Derived.Test.YtfnpapaibgbjpaaZU
import Derived.Deep.Strs
namespace Go.Proofs.Ytfnpapaibgbjpaa
open Go.ChangeShapes Go.WideShapes Go.ChangeAt Go.RowKit Go.Joins

theorem cellsRs : Try.prog.cellsOf 46 = 15 := by kernel_rfl
theorem cellsEr : Try.prog.cellsOf 31 = 1 := by kernel_rfl
theorem cellsIts : Try.prog.cellsOf 22 = 1 := by kernel_rfl
theorem cellsRf : Try.prog.cellsOf 44 = 5 := by kernel_rfl
theorem cellsKy : Try.prog.cellsOf 40 = 2 := by kernel_rfl
theorem cellsVc : Try.prog.cellsOf 42 = 2 := by kernel_rfl
theorem cellsIn : Try.prog.cellsOf 3 = 1 := by kernel_rfl
theorem cellsRk : Try.prog.cellsOf 38 = 1 := by kernel_rfl
theorem cellsBo : Try.prog.cellsOf 4 = 1 := by kernel_rfl
theorem list15 {α : Type} {cs : List α} (h : cs.length = 15) : ∃ c0 c1 c2 c3 c4 c5 c6 c7 c8 c9 c10 c11 c12 c13 c14, cs = [c0, c1, c2, c3, c4, c5, c6, c7, c8, c9, c10, c11, c12, c13, c14] := by
  match cs, h with
  | [c0, c1, c2, c3, c4, c5, c6, c7, c8, c9, c10, c11, c12, c13, c14], _ => exact ⟨c0, c1, c2, c3, c4, c5, c6, c7, c8, c9, c10, c11, c12, c13, c14, rfl⟩
/-- The results that came in: their cells. -/
def riC (e k : Int) (va : Option Addr) (vn vc : Nat) (ia : Option Addr) (inn ic : Nat) (p0 p1 p2 p3 p4 r0 r1 r2 r3 r4 : Int) (f : Bool) : Array Value := #[.int .i64 e, .int .u64 k, .slice va vn vc, .slice ia inn ic, .int .i64 p0, .int .i64 p1, .int .u64 p2, .int .i64 p3, .int .u64 p4, .int .i64 r0, .int .i64 r1, .int .u64 r2, .int .i64 r3, .int .u64 r4, .bool f]

section
variable {H : Type} {enc : TypeId × Value → H} {W : World} {base : Nat} {sp : Nat → Bool} {held : Bool}
theorem trod_struct7 {P : Program} {w : World} {spare : Nat → Bool} {t : TypeId} {f0 f1 f2 f3 f4 f5 f6 : Field} {fuel : Nat} {cs : List Value} {x : DataW H × List MemPlace} (ht : P.underlying t = some (.struct #[f0, f1, f2, f3, f4, f5, f6])) (h : DataW.trod enc P w base spare held fuel t cs = some x) :
    ∃ y0 y1 y2 y3 y4 y5 y6 n, cs.length = P.cellsOf t ∧ DataW.trod enc P w base spare held n f0.type ((cs.drop f0.offset).take (P.cellsOf f0.type)) = some y0 ∧ DataW.trod enc P w base spare held n f1.type ((cs.drop f1.offset).take (P.cellsOf f1.type)) = some y1 ∧ DataW.trod enc P w base spare held n f2.type ((cs.drop f2.offset).take (P.cellsOf f2.type)) = some y2 ∧ DataW.trod enc P w base spare held n f3.type ((cs.drop f3.offset).take (P.cellsOf f3.type)) = some y3 ∧ DataW.trod enc P w base spare held n f4.type ((cs.drop f4.offset).take (P.cellsOf f4.type)) = some y4 ∧ DataW.trod enc P w base spare held n f5.type ((cs.drop f5.offset).take (P.cellsOf f5.type)) = some y5 ∧ DataW.trod enc P w base spare held n f6.type ((cs.drop f6.offset).take (P.cellsOf f6.type)) = some y6 := by
  obtain ⟨xs, n, _, rfl, hl, hlen, hf⟩ := DataW.trod_struct ht h
  match xs, hlen with
  | [y0, y1, y2, y3, y4, y5, y6], _ => exact ⟨y0, y1, y2, y3, y4, y5, y6, n, hl, by simpa using hf 0 f0 rfl, by simpa using hf 1 f1 rfl, by simpa using hf 2 f2 rfl, by simpa using hf 3 f3 rfl, by simpa using hf 4 f4 rfl, by simpa using hf 5 f5 rfl, by simpa using hf 6 f6 rfl⟩
theorem open_ref {n : Nat} {c0 c1 c2 c3 c4 : Value} {x : DataW H × List MemPlace} (h : DataW.trod enc Try.prog W base sp held n 44 [c0, c1, c2, c3, c4] = some x) : ∃ p0 p1 p2 p3 p4 : Int, c0 = .int .i64 p0 ∧ c1 = .int .i64 p1 ∧ c2 = .int .u64 p2 ∧ c3 = .int .i64 p3 ∧ c4 = .int .u64 p4 := by
  obtain ⟨z0, z1, z2, n2, -, -, g0, g1, g2⟩ := Deep.trod_struct3 Try.underlying44 h
  simp only [cellsIn, cellsVc, cellsKy, List.drop_succ_cons, List.drop_zero, List.take_succ_cons, List.take_zero] at g0 g1 g2
  obtain ⟨s0, s1, n5, -, -, p0, p1⟩ := trod_struct2 Try.underlying40 g1
  obtain ⟨q0, q1, n6, -, -, o0, o1⟩ := trod_struct2 Try.underlying42 g2
  simp only [cellsU6, cellsIn, cellsRk, List.drop_succ_cons, List.drop_zero, List.take_succ_cons, List.take_zero] at p0 p1 o0 o1
  obtain ⟨f0, e0, -, -⟩ := DataW.trod_int Try.underlying3 g0
  obtain ⟨f1, e1, -, -⟩ := DataW.trod_int Try.underlying38 p0
  obtain ⟨f2, e2, -, -⟩ := DataW.trod_int Try.underlying24 p1
  obtain ⟨f3, e3, -, -⟩ := DataW.trod_int Try.underlying3 o0
  obtain ⟨f4, e4, -, -⟩ := DataW.trod_int Try.underlying24 o1
  simp at e0 e1 e2 e3 e4
  exact ⟨f0, f1, f2, f3, f4, e0, e1, e2, e3, e4⟩
theorem open_itemsX {n : Nat} {c0 : Value} {x : DataW H × List MemPlace} (h : DataW.trod enc Try.prog W base sp held n 22 [c0] = some x) : ∃ a c, ∃ l : List It, c0 = .slice a l.length c ∧ SlX W a c l := by
  rcases Deep.open_slice Try.underlying22 h with ⟨hcs, -⟩ | ⟨ad, len, cap, m, nn, D, Pl, hcs, -, hl, hmx, hm, hx, hel⟩
  · simp at hcs
    exact ⟨none, 0, [], hcs, Or.inr rfl⟩
  · simp at hcs
    subst hcs
    rcases Nat.eq_zero_or_pos len with h0 | h0
    · subst h0
      exact ⟨some ad, cap, [], rfl, Or.inr rfl⟩
    · have hlm : len ≤ m := by rw [hm]; split <;> omega
      rw [cellsIt] at hel
      obtain ⟨cs', h5, h6⟩ := hel 0 (by omega)
      obtain ⟨-, hl', hc⟩ := World.cells?_some h5
      have h7 := hc 0 (by omega)
      have ea : (ad.add (0 * 2)).add 0 = ad := by simp [Addr.add]
      rw [ea, List.getElem?_eq_getElem (by omega)] at h7
      have hsp : ad.spot = none := World.cell?_spot h7
      obtain ⟨l, hll, hS, -⟩ := open_items h (fun a' he => by
        injection he with he
        subst he
        exact ⟨hl, by unfold maxLen at hmx; omega, hsp, lt_of_cell h7⟩)
      exact ⟨some ad, cap, l, by rw [hll], Or.inl (by rw [hll]; exact hS)⟩
theorem open_result {n : Nat} {cs : List Value} {x : DataW H × List MemPlace} (h : DataW.trod enc Try.prog W base sp held n 46 cs = some x) : ∃ (e k : Int) (va : Option Addr) (vc : Nat) (vb : List UInt8) (ia : Option Addr) (ic : Nat) (il : List It) (p0 p1 p2 p3 p4 r0 r1 r2 r3 r4 : Int) (f : Bool), cs = (riC e k va vb.length vc ia il.length ic p0 p1 p2 p3 p4 r0 r1 r2 r3 r4 f).toList ∧ Rd8 W va vb ∧ (va = none → vc = 0) ∧ SlX W ia ic il := by
  obtain ⟨y0, y1, y2, y3, y4, y5, y6, n1, hl, h0, h1, h2, h3, h4, h5, h6⟩ := trod_struct7 Try.underlying46 h
  rw [cellsRs] at hl
  obtain ⟨c0, c1, c2, c3, c4, c5, c6, c7, c8, c9, c10, c11, c12, c13, c14, rfl⟩ := list15 hl
  simp only [cellsEr, cellsU6, cellsBy, cellsIts, cellsRf, cellsBo, List.drop_succ_cons, List.drop_zero, List.take_succ_cons, List.take_zero] at h0 h1 h2 h3 h4 h5 h6
  obtain ⟨e, e0, -, -⟩ := DataW.trod_int Try.underlying31 h0
  obtain ⟨k, e1, -, -⟩ := DataW.trod_int Try.underlying24 h1
  obtain ⟨va, len, vc, e2, -, g5, vb, g6, g7, -⟩ := open_bytes h2
  obtain ⟨ia, ic, il, e3, gi⟩ := open_itemsX h3
  obtain ⟨p0, p1, p2, p3, p4, rfl, rfl, rfl, rfl, rfl⟩ := open_ref h4
  obtain ⟨r0, r1, r2, r3, r4, rfl, rfl, rfl, rfl, rfl⟩ := open_ref h5
  obtain ⟨f, e6, -⟩ := DataW.trod_bool Try.underlying4 h6
  simp at e0 e1 e2 e6
  subst e0 e1 e2 e3 e6 g6
  exact ⟨e, k, va, vc, vb, ia, ic, il, p0, p1, p2, p3, p4, r0, r1, r2, r3, r4, f, rfl, g7, fun q => (g5 q).2, gi⟩
end

end Go.Proofs.Ytfnpapaibgbjpaa
