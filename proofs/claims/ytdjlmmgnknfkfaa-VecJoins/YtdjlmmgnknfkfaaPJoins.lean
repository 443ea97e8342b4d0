/- VecJoins: the statement: for every slice of vectors that can be read the law returns true, and it reads as it did before. -/
import Derived.Test.YtdjlmmgnknfkfaaRows
import Derived.Test.YtdjlmmgnknfkfaaLJoins
import Derived.ProofKit
import Derived.OpenShut
import Derived.ShutString
import Derived.ChangeOld
import Derived.Below
import Derived.Lib.SmallJoins
import Derived.Deep.Slices
namespace Go.Proofs.Ytdjlmmgnknfkfaa
open Go.ChangeShapes Go.WideShapes Go.ChangeAt Go.RowKit Go.Joins

theorem ownVecJoins : ownKnob Try.prog.godebug = none := by kernel_rfl
theorem laidOutVecJoins : laidOutB Try.prog = true := by kernel_rfl
theorem cellsVecVecJoins : Try.prog.cellsOf 24 = 2 := by kernel_rfl
theorem cellsInt : Try.prog.cellsOf 3 = 1 := by kernel_rfl
theorem cellsU64 : Try.prog.cellsOf 22 = 1 := by kernel_rfl

/-- A vector's two cells, as they are read. -/
theorem open_vec {H : Type} {enc : TypeId × Value → H} {W : World} {base : Nat} {sp : Nat → Bool} {held : Bool} {n : Nat} {cs : List Value} {x : DataW H × List MemPlace} (h : DataW.trod enc Try.prog W base sp held n 24 cs = some x) :
    ∃ a b : Int, cs = [.int .i64 a, .int .u64 b] ∧ 0 ≤ b := by
  obtain ⟨y0, y1, m, -, hl, h0, h1⟩ := trod_struct2 Try.underlying24 h
  obtain ⟨a, ea, -, -⟩ := DataW.trod_int Try.underlying3 h0
  obtain ⟨b, eb, -, wb⟩ := DataW.trod_int Try.underlying22 h1
  rw [cellsVecVecJoins] at hl
  rw [cellsInt] at ea
  rw [cellsU64] at eb
  match cs, hl with
  | [u, v], _ =>
    simp at ea eb
    exact ⟨a, b, by rw [ea, eb], (bounds_u64 wb).1⟩

theorem add_none (g o j : Nat) : (⟨g, o, none⟩ : Addr).add j = ⟨g, o + j, none⟩ := by
  unfold Addr.add; split <;> simp_all

/-- What the walk is told of a slice of vectors that came in. -/
theorem joins_of {H : Type} {enc : TypeId × Value → H} {W : World} {base : Nat} {sp : Nat → Bool} {held : Bool} {nf : Nat} {D : Nat → DataW H} {Pl : Nat → List MemPlace} (a : Addr) (len m k cap : Nat) (hk : k ≤ len) (hlm : len ≤ m) (h12 : k ≤ 12)
    (hel : ∀ i, i < m → ∃ cs', W.cells? base (a.add (i * 2)) 2 = some cs' ∧ DataW.trod enc Try.prog W base sp held nf 24 cs' = some (D i, Pl i)) :
    Joins (.slice (some a) k cap) W := by
  by_cases h0 : k = 0
  · subst h0; exact joins_none _ _ _
  · have hf : ∀ i, i < k → ∃ v : Int × Int, W.cell? (a.add (i * 2)) = some (.int .i64 v.1) ∧ W.cell? ((a.add (i * 2)).add 1) = some (.int .u64 v.2) ∧ 0 ≤ v.2 := by
      intro i hi
      obtain ⟨cs', h1, h2⟩ := hel i (by omega)
      obtain ⟨x, y, rfl, hy⟩ := open_vec h2
      obtain ⟨-, -, hc⟩ := World.cells?_some h1
      refine ⟨(x, y), ?_, ?_, hy⟩
      · have := hc 0 (by omega)
        have e : (a.add (i * 2)).add 0 = a.add (i * 2) := by unfold Addr.add; split <;> simp_all
        rw [e] at this
        exact this
      · exact hc 1 (by omega)
    obtain ⟨f, hf⟩ := Deep.choose_lt hf
    obtain ⟨g, o, spot⟩ := a
    have hspot : spot = none := by
      have h1 := (hf 0 (by omega)).1
      have := World.cell?_spot h1
      cases spot with
      | none => rfl
      | some s => simp [Addr.add] at this
    subst hspot
    have hc : ∀ i, i < k → W.cell? ⟨g, o + i * 2, none⟩ = some (.int .i64 (f i).1) ∧ W.cell? ⟨g, o + i * 2 + 1, none⟩ = some (.int .u64 (f i).2) ∧ 0 ≤ (f i).2 := by
      intro i hi
      obtain ⟨h1, h2, h3⟩ := hf i hi
      rw [add_none] at h1 h2
      rw [add_none] at h2
      exact ⟨h1, h2, h3⟩
    refine joins_some g o k cap ((List.range k).map f) W (by simp) (by omega) ?_ ?_ ?_
    · exact World.block_lt_of_cell? W ⟨g, o + 0 * 2, none⟩ (hc 0 (by omega)).1
    · intro j hj
      simp only [List.length_map, List.length_range] at hj
      have e : ((List.range k).map f).getD j (0, 0) = f j := by simp [hj]
      rw [e]
      exact ⟨(hc j hj).1, (hc j hj).2.1⟩
    · intro v hv
      obtain ⟨i, hi, rfl⟩ := List.mem_map.1 hv
      exact (hc i (by simpa using hi)).2.2

set_option maxRecDepth 100000 in
theorem liftedVecJoins (os : Os) (started : os.Started) (H : Type) (enc : TypeId × Value → H) :
    ReturnsInHanded {} Try.checked os 4 .any (Rows.vecJoinsSpec.pre6 enc Try.prog Try.f4 Rows.vecJoinsRow.domain false) (Rows.vecJoinsSpec.post enc Try.prog Try.f4 false true false false) := by
  refine returnsInHanded_of_change (C := Try.checked) ownVecJoins started (by kernel_rfl) Try.func4
    (ChangeSpec.witness6 (enc := enc) (C := Try.checked) false ⟨#[], #[.slice none 0 0], []⟩ 8 (by kernel_rfl) (by kernel_rfl) (by kernel_rfl) (by kernel_rfl)) ?_
  intro W base args ds gs before hval0 hW hcnd _
  have hval : ∀ (j : Nat) t v, Try.f4.params[j]? = some t → args[j]? = some v → Value.okWide Try.prog W .any base t v := hval0
  have hW' := hW
  obtain ⟨p, q, hA0, hV, rfl, hfz, hnd⟩ := hW
  have hA : DataW.TrodAll enc Try.prog W 0 (fun _ => true) true Try.f4.params.toList args.toList ds p := hA0
  rw [Try.params4] at hA hval
  obtain ⟨v0, vs0, d0, ds0, p0, q0, hargs, rfl, rfl, h0, r0⟩ := trodAll_cons hA
  obtain ⟨rfl, rfl, rfl⟩ := trodAll_nil r0
  obtain rfl : args = #[v0] := by cases args; simp_all
  obtain ⟨rfl, rfl⟩ := trodVars_none hV
  have k0 := h0
  have lt0 : ∀ x ∈ p0, x.block < W.heap.size := by obtain ⟨m, hm⟩ := k0; exact DataW.trod_lt m _ _ _ hm
  obtain ⟨a0, len0, cap0, rfl⟩ := okWide_slice Try.underlying38 (hval 0 38 v0 rfl rfl)
  have walk : Calls Try.prog 4 #[.slice a0 len0 cap0] W fun e w' => e = .returned (.bool true) ∧ Below W.heap.size W w' := by
    obtain ⟨fuel, hf⟩ := h0
    rcases Deep.open_slice Try.underlying38 hf with ⟨hcs, -⟩ | ⟨a, len, cap, m, nn, D, Pl, hcs, -, hl, hmx, hm, -, hel⟩
    · simp [Value.cells] at hcs
      obtain ⟨rfl, rfl, rfl⟩ := hcs
      exact vecJoins_short none 0 0 (by omega) W (joins_none _ _ _)
    · simp [Value.cells] at hcs
      obtain ⟨rfl, rfl, rfl⟩ := hcs
      rw [cellsVecVecJoins] at hel
      have hlm : len0 ≤ m := by rw [hm]; split <;> omega
      by_cases h12 : len0 ≤ 12
      · exact vecJoins_short (some a) len0 cap0 h12 W (joins_of a len0 m len0 cap0 (Nat.le_refl _) hlm h12 hel)
      · have hj := joins_of a len0 m 12 cap0 (by omega) hlm (by omega) hel
        obtain ⟨g, o, spot⟩ := a
        have hspot : spot = none := by
          obtain ⟨cs', h1, h2⟩ := hel 0 (by omega)
          obtain ⟨x, y, rfl, -⟩ := open_vec h2
          obtain ⟨-, -, hc⟩ := World.cells?_some h1
          have h3 := hc 0 (by omega)
          have := World.cell?_spot h3
          cases spot with
          | none => rfl
          | some s => simp [Addr.add] at this
        subst hspot
        exact vecJoins_long g o len0 cap0 (by omega) hl hmx W hj
  clear hA0 hval0
  refine walk.mono fun e W' ⟨he, bel⟩ => ?_
  subst he
  exact ⟨_, rfl, _, _, _, [], _, [], hW', trodAll_mk1 (shut_bool Try.underlying4 _), (trodAll_cons_mk (Below.trod laidOutVecJoins (by kernel_rfl) (of_decide_eq_true (by kernel_rfl)) k0 bel lt0) trodAll_mk0), rfl, bel.frame _, fun h => by cases h⟩

theorem vecJoins_holds : Rows.VecJoinsSaid :=
  OpenClaim.holds_of_wide 4 Try.f4 rfl rfl rfl rfl rfl rfl rfl ⟨rfl, rfl, rfl, rfl, rfl⟩ rfl rfl rfl rfl rfl (by kernel_rfl) Try.func4 (by kernel_rfl)
    (of_decide_eq_true (by kernel_rfl)) (by unfold Func.isWrapper; first | (rw [if_pos (by decide +kernel)]; kernel_rfl) | (rw [if_neg (by decide +kernel)]; exact ⟨rfl, rfl⟩))
    (fun os started H enc _ => liftedVecJoins os started H enc)

end Go.Proofs.Ytdjlmmgnknfkfaa
