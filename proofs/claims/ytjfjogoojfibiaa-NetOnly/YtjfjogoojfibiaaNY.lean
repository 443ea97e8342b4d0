/- How many bytes an act of a script that came in may have. -/
import Derived.Test.YtjfjogoojfibiaaNU
import Derived.SizedLaws
namespace Go.Proofs.Ytjfjogoojfibiaa
open Go.ChangeShapes Go.WideShapes Go.ChangeAt Go.RowKit Go.Joins

theorem weightsAll_in {H : Type} {P : Program} {e : TypeId} : ∀ {l : List (DataW H)} {d : DataW H}, d ∈ l → ∀ n ∈ d.weights P e, n ∈ DataW.weightsAll P e l
  | d' :: r, d, hd, n, hn => by
    simp only [DataW.weightsAll, List.mem_append]
    rcases List.mem_cons.1 hd with rfl | h
    · exact Or.inl hn
    · exact Or.inr (weightsAll_in h n hn)
theorem bytesU8 : Try.prog.bytesOf 5 = 1 := by kernel_rfl

theorem sized_script {H : Type} {enc : TypeId × Value → H} {W : World} {base : Nat} {sp : Nat → Bool} {held : Bool} {n : Nat} {x : DataW H × List MemPlace} {sa : Option Addr} {len cap : Nat} (h : DataW.trod enc Try.prog W base sp held n 22 [.slice sa len cap] = some x)
    (hw : ∀ y ∈ x.1.weights Try.prog 22, y ≤ reachBytes) : ∀ g o j X, sa = some ⟨g, o, none⟩ → j < len → OpAt W g (o + j * 8) X → X.len ≤ 140737488351232 := by
  intro g o j X hsa hj hX
  rcases Deep.open_slice Try.underlying22 h with ⟨hcs, -⟩ | ⟨a, len', cap', m, nn, D, Pl, hcs, -, hl, hmx, hm, hx, hel⟩
  · simp at hcs
    omega
  · simp at hcs
    obtain ⟨rfl, rfl, rfl⟩ := hcs
    have ha := Option.some.inj hsa
    subst ha
    rw [cellsOp] at hel
    have hlm : len ≤ m := by rw [hm]; split <;> omega
    obtain ⟨cs', h1, h2⟩ := hel j (by omega)
    obtain ⟨-, -, hc⟩ := World.cells?_some h1
    obtain ⟨y0, y1, y2, y3, n1, hD, hl8, -, k1, -, -⟩ := trod_struct4 Try.underlying37 h2
    rw [cellsOp] at hl8
    obtain ⟨c0, c1, c2, c3, c4, c5, c6, c7, rfl⟩ := list8 hl8
    simp only [cellsPa, List.drop_succ_cons, List.drop_zero, List.take_succ_cons, List.take_zero] at k1
    obtain ⟨z0, z1, z2, n2, hY, -, -, -, g2⟩ := Deep.trod_struct3 Try.underlying35 k1
    simp only [cellsSl, List.drop_succ_cons, List.drop_zero, List.take_succ_cons, List.take_zero] at g2
    have hcell := hX.cell 5 (by omega)
    have h5 := hc 5 (by omega)
    rw [add_none, add_none] at h5
    rw [h5] at hcell
    simp [OpV.cs] at hcell
    subst hcell
    rcases Deep.open_slice Try.underlying33 g2 with ⟨hcs2, -⟩ | ⟨a2, len2, cap2, m2, nn2, D2, Pl2, hcs2, -, hl2, -, hm2, hx2, -⟩
    · simp at hcs2
      omega
    · simp at hcs2
      obtain ⟨-, e2, -⟩ := hcs2
      rw [e2]
      have hm3 : len2 ≤ m2 := by rw [hm2]; split <;> omega
      have w1 : m2 * 1 ∈ z2.1.weights Try.prog 33 := by
        rw [hx2]
        simp only [DataW.weights, Try.underlying33, bytesU8, List.length_map, List.length_range, List.mem_cons]
        exact Or.inl (by omega)
      have w2 : m2 * 1 ∈ y1.1.weights Try.prog 35 := by
        rw [hY]
        simp only [DataW.weights, Try.underlying35]
        exact DataW.weights_mem_each (j := 2) (t := 33) rfl rfl _ w1
      have w3 : m2 * 1 ∈ (D j).weights Try.prog 37 := by
        have : D j = .agg [y0.1, y1.1, y2.1, y3.1] := (Prod.mk.inj hD).1
        rw [this]
        simp only [DataW.weights, Try.underlying37]
        exact DataW.weights_mem_each (j := 1) (t := 35) rfl rfl _ w2
      have w4 : m2 * 1 ∈ x.1.weights Try.prog 22 := by
        rw [hx]
        simp only [DataW.weights, Try.underlying22, List.mem_cons, List.mem_append]
        exact Or.inr (Or.inl (weightsAll_in (List.mem_map.2 ⟨j, List.mem_range.2 hj, rfl⟩) _ w3))
      have h9 := hw _ w4
      have e9 : reachBytes = 140737488351232 := rfl
      omega

end Go.Proofs.Ytjfjogoojfibiaa
