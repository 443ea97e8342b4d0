/- What came in: vectors, keys, references. -/
import Derived.Test.YtfcmmchppcffmaaDoorGA
import Derived.ProofKit
import Derived.OpenShut
import Derived.ShutString
import Derived.ChangeOld
import Derived.Below
import Derived.Lib.SmallJoins
import Derived.Deep.Slices
import Derived.Deep.Strs
namespace Go.Proofs.YtfcmmchppcffmaaDoor
open Go.ChangeShapes Go.WideShapes Go.ChangeAt Go.RowKit Go.Joins

theorem cellsIn : Tryd.prog.cellsOf 3 = 1 := by kernel_rfl
theorem cellsU6 : Tryd.prog.cellsOf 24 = 1 := by kernel_rfl
theorem cellsRk : Tryd.prog.cellsOf 23 = 1 := by kernel_rfl
theorem cellsVc : Tryd.prog.cellsOf 28 = 2 := by kernel_rfl
theorem cellsKy : Tryd.prog.cellsOf 26 = 2 := by kernel_rfl
theorem cellsRf : Tryd.prog.cellsOf 30 = 5 := by kernel_rfl
theorem list2 {α : Type} {cs : List α} (h : cs.length = 2) : ∃ c0 c1, cs = [c0, c1] := by
  match cs, h with
  | [c0, c1], _ => exact ⟨c0, c1, rfl⟩
theorem list5 {α : Type} {cs : List α} (h : cs.length = 5) : ∃ c0 c1 c2 c3 c4, cs = [c0, c1, c2, c3, c4] := by
  match cs, h with
  | [c0, c1, c2, c3, c4], _ => exact ⟨c0, c1, c2, c3, c4, rfl⟩
theorem cell_has {P : Program} {e t : TypeId} (ht : P.underlying t = some (.slice e)) {W : World} {base : Nat} {ad : Addr} {len cap : Nat} (h : Cell.ok P W .any base t (.slice (some ad) len cap)) : len ≤ cap ∧ (cap : Int) ≤ IntKind.i64.max ∧ W.has P .any base ad e cap := by
  unfold Cell.ok at h
  rw [ht] at h
  exact h
theorem okWide_has {P : Program} {e t : TypeId} (ht : P.underlying t = some (.slice e)) {W : World} {base : Nat} {ad : Addr} {len cap : Nat} (h : Value.okWide P W .any base t (.slice (some ad) len cap)) : len ≤ cap ∧ cap ≤ 9223372036854775807 ∧ ad.spot = none ∧ ad.block < W.heap.size := by
  have h0 : Cell.ok P W .any base t (.slice (some ad) len cap) := by
    unfold Value.okWide at h
    rw [ht] at h
    unfold Cell.okWide at h
    rw [ht] at h
    exact h
  obtain ⟨h1, h2, -, h3, row, cells, h4, -⟩ := cell_has ht h0
  refine ⟨h1, ?_, h3, ?_⟩
  · have h2' : (cap : Int) ≤ 9223372036854775807 := h2
    omega
  · unfold World.shape? at h4
    rcases Nat.lt_or_ge ad.block W.heap.size with h5 | h5
    · exact h5
    · rw [Array.getElem?_eq_none h5] at h4; cases h4

section
variable {H : Type} {enc : TypeId × Value → H} {W : World} {base : Nat} {sp : Nat → Bool} {held : Bool}
theorem open_vec {n : Nat} {cs : List Value} {x : DataW H × List MemPlace} (h : DataW.trod enc Tryd.prog W base sp held n 28 cs = some x) : ∃ a b : Int, cs = [.int .i64 a, .int .u64 b] ∧ 0 ≤ b := by
  obtain ⟨u0, u1, n3, -, hl, k0, k1⟩ := trod_struct2 Tryd.underlying28 h
  rw [cellsVc] at hl
  obtain ⟨c0, c1, rfl⟩ := list2 hl
  simp only [cellsIn, cellsU6, List.drop_succ_cons, List.drop_zero, List.take_succ_cons, List.take_zero] at k0 k1
  obtain ⟨a, e4, -, w4⟩ := DataW.trod_int Tryd.underlying3 k0
  obtain ⟨o, e5, -, w5⟩ := DataW.trod_int Tryd.underlying24 k1
  simp at e4 e5
  subst e4 e5
  exact ⟨a, o, rfl, (bounds_u64 w5).1⟩
theorem open_key {n : Nat} {cs : List Value} {x : DataW H × List MemPlace} (h : DataW.trod enc Tryd.prog W base sp held n 26 cs = some x) : ∃ a b : Int, cs = [.int .i64 a, .int .u64 b] ∧ 0 ≤ b := by
  obtain ⟨u0, u1, n3, -, hl, k0, k1⟩ := trod_struct2 Tryd.underlying26 h
  rw [cellsKy] at hl
  obtain ⟨c0, c1, rfl⟩ := list2 hl
  simp only [cellsRk, cellsU6, List.drop_succ_cons, List.drop_zero, List.take_succ_cons, List.take_zero] at k0 k1
  obtain ⟨a, e4, -, -⟩ := DataW.trod_int Tryd.underlying23 k0
  obtain ⟨o, e5, -, w5⟩ := DataW.trod_int Tryd.underlying24 k1
  simp at e4 e5
  subst e4 e5
  exact ⟨a, o, rfl, (bounds_u64 w5).1⟩
theorem open_ref {n : Nat} {cs : List Value} {x : DataW H × List MemPlace} (h : DataW.trod enc Tryd.prog W base sp held n 30 cs = some x) : ∃ r : Rf, cs = rfs [r] ∧ 0 ≤ r.bt := by
  obtain ⟨z0, z1, z2, n2, -, hl, g0, g1, g2⟩ := Deep.trod_struct3 Tryd.underlying30 h
  rw [cellsRf] at hl
  obtain ⟨c0, c1, c2, c3, c4, rfl⟩ := list5 hl
  simp only [cellsIn, cellsVc, cellsKy, List.drop_succ_cons, List.drop_zero, List.take_succ_cons, List.take_zero] at g0 g1 g2
  obtain ⟨f0, e0, -, -⟩ := DataW.trod_int Tryd.underlying3 g0
  obtain ⟨f1, f2, e1, -⟩ := open_key g1
  obtain ⟨f3, f4, e3, h4⟩ := open_vec g2
  simp at e0 e1 e3
  obtain ⟨rfl, rfl⟩ := e1
  obtain ⟨rfl, rfl⟩ := e3
  subst e0
  exact ⟨⟨f0, f1, f2, f3, f4⟩, rfl, h4⟩
theorem rfs_flat (l : List Rf) : rfs l = l.flatMap fun r => rfs [r] := by
  induction l with
  | nil => rfl
  | cons a l ih =>
    rw [List.flatMap_cons, ← ih]
    rfl
/-- A cell of a row of elements of k cells. -/
theorem flat_cell {α : Type} {W : World} {g k : Nat} {enc : α → List Value} (hk : ∀ x, (enc x).length = k) : ∀ (l : List α) (o : Nat), (∀ j (hj : j < l.length) c, c < k → W.cell? ⟨g, o + j * k + c, none⟩ = (enc l[j])[c]?) → ∀ j u, (l.flatMap enc)[j]? = some u → W.cell? ⟨g, o + j, none⟩ = some u
  | [], o, _, j, u, hu => by simp at hu
  | a :: l, o, h, j, u, hu => by
    rw [List.flatMap_cons] at hu
    by_cases hj : j < k
    · rw [List.getElem?_append_left (by rw [hk]; exact hj)] at hu
      have := h 0 (by simp) j hj
      simp at this
      rw [this]; exact hu
    · rw [List.getElem?_append_right (by rw [hk]; omega), hk] at hu
      have := flat_cell (g := g) hk l (o + k) (fun q hq c hc => by
        have := h (q + 1) (by simpa using hq) c hc
        rw [show o + k + q * k + c = o + (q + 1) * k + c by rw [Nat.add_mul]; omega]
        simpa using this) (j - k) u hu
      rw [show o + k + (j - k) = o + j by omega] at this
      exact this
theorem add_none (g o j : Nat) : (⟨g, o, none⟩ : Addr).add j = ⟨g, o + j, none⟩ := by unfold Addr.add; split <;> simp_all
theorem open_refs {n : Nat} {a : Option Addr} {len cap : Nat} {x : DataW H × List MemPlace} (h : DataW.trod enc Tryd.prog W base sp held n 22 [.slice a len cap] = some x) (hv : ∀ ad, a = some ad → len ≤ cap ∧ cap ≤ 9223372036854775807 ∧ ad.spot = none ∧ ad.block < W.heap.size) :
    ∃ l : List Rf, RSl W (.slice a len cap) l ∧ ∀ r ∈ l, 0 ≤ r.bt := by
  rcases Deep.open_slice Tryd.underlying22 h with ⟨hcs, -⟩ | ⟨ad, len', cap', m, nn, D, Pl, hcs, -, hl, hmx, hm, hx, hel⟩
  · simp at hcs
    obtain ⟨rfl, rfl, rfl⟩ := hcs
    exact ⟨[], RSl.nil _, by simp⟩
  · simp at hcs
    obtain ⟨rfl, rfl, rfl⟩ := hcs
    rw [cellsRf] at hel
    have hlm : len ≤ m := by rw [hm]; split <;> omega
    obtain ⟨h1, h2, h3, h4⟩ := hv ad rfl
    obtain ⟨g, o, spot⟩ := ad
    simp only [] at h3 h4
    subst h3
    have key : ∀ j, j < len → ∃ r : Rf, (∀ c, c < 5 → W.cell? ⟨g, o + j * 5 + c, none⟩ = (rfs [r])[c]?) ∧ 0 ≤ r.bt := fun j hj => by
      obtain ⟨cs', h5, h6⟩ := hel j (by omega)
      obtain ⟨-, hl', hc⟩ := World.cells?_some h5
      obtain ⟨r, rfl, hr⟩ := open_ref h6
      refine ⟨r, fun c hc2 => ?_, hr⟩
      have h7 := hc c (by omega)
      rw [add_none, add_none] at h7
      exact h7
    haveI : Inhabited Rf := ⟨zr⟩
    obtain ⟨f, hf⟩ := Deep.choose_lt key
    refine ⟨(List.range len).map f, Or.inr ⟨g, o, cap, by simp, by simpa using h1, by unfold maxLen; omega, h4, ?_⟩, fun r hr => ?_⟩
    · rw [rfs_flat]
      refine flat_cell (k := 5) (fun _ => rfl) _ o (fun j hj c hc => ?_)
      simp at hj
      simpa using (hf j hj).1 c hc
    · obtain ⟨j, hj, rfl⟩ := List.mem_map.1 hr
      exact (hf j (by simpa using hj)).2
end

end Go.Proofs.YtfcmmchppcffmaaDoor
