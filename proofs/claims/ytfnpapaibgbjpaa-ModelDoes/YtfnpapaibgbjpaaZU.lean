/- What came in: bytes, items, calls. -/
import Derived.Test.YtfnpapaibgbjpaaZO
import Derived.ProofKit
import Derived.OpenShut
import Derived.ShutString
import Derived.ChangeOld
import Derived.Below
import Derived.Lib.SmallJoins
import Derived.Deep.Slices
namespace Go.Proofs.Ytfnpapaibgbjpaa
open Go.ChangeShapes Go.WideShapes Go.ChangeAt Go.RowKit Go.Joins

theorem Try.ownKnob0 : ownKnob Try.prog.godebug = none := by kernel_rfl
theorem Try.laidOut0 : laidOutB Try.prog = true := by kernel_rfl
theorem cellsIt : Try.prog.cellsOf 61 = 2 := by kernel_rfl
theorem cellsCa : Try.prog.cellsOf 27 = 4 := by kernel_rfl
theorem cellsU6 : Try.prog.cellsOf 24 = 1 := by kernel_rfl
theorem cellsKd : Try.prog.cellsOf 23 = 1 := by kernel_rfl
theorem cellsU8 : Try.prog.cellsOf 5 = 1 := by kernel_rfl
theorem cellsBy : Try.prog.cellsOf 25 = 1 := by kernel_rfl
theorem bytesU8 : Try.prog.bytesOf 5 = 1 := by kernel_rfl
theorem list2 {α : Type} {cs : List α} (h : cs.length = 2) : ∃ c0 c1, cs = [c0, c1] := by
  match cs, h with
  | [c0, c1], _ => exact ⟨c0, c1, rfl⟩
theorem list4 {α : Type} {cs : List α} (h : cs.length = 4) : ∃ c0 c1 c2 c3, cs = [c0, c1, c2, c3] := by
  match cs, h with
  | [c0, c1, c2, c3], _ => exact ⟨c0, c1, c2, c3, rfl⟩

theorem cell_has {P : Program} {e t : TypeId} (ht : P.underlying t = some (.slice e)) {W : World} {base : Nat} {ad : Addr} {len cap : Nat} (h : Cell.ok P W .any base t (.slice (some ad) len cap)) : len ≤ cap ∧ (cap : Int) ≤ IntKind.i64.max ∧ W.has P .any base ad e cap := by
  unfold Cell.ok at h
  rw [ht] at h
  exact h
theorem okWide_has {P : Program} {e t : TypeId} (ht : P.underlying t = some (.slice e)) {W : World} {base : Nat} {ad : Addr} {len cap : Nat} (h : Value.okWide P W .any base t (.slice (some ad) len cap)) : len ≤ cap ∧ cap ≤ 9223372036854775807 ∧ ad.spot = none ∧ ad.block < W.heap.size := by
  have h0 : Cell.ok P W .any base t (.slice (some ad) len cap) := by
    unfold Value.okWide at h
    rw [ht] at h
    unfold Cell.okWide at h
    rw [ht] at h
    exact h
  obtain ⟨h1, h2, -, h3, row, cells, h4, -⟩ := cell_has ht h0
  refine ⟨h1, ?_, h3, ?_⟩
  · have h2' : (cap : Int) ≤ 9223372036854775807 := h2
    omega
  · unfold World.shape? at h4
    rcases Nat.lt_or_ge ad.block W.heap.size with h5 | h5
    · exact h5
    · rw [Array.getElem?_eq_none h5] at h4; cases h4


section
variable {H : Type} {enc : TypeId × Value → H} {W : World} {base : Nat} {sp : Nat → Bool} {held : Bool}
theorem open_bytes {n : Nat} {cs : List Value} {x : DataW H × List MemPlace} (h : DataW.trod enc Try.prog W base sp held n 25 cs = some x) :
    ∃ a len cap, cs = [.slice a len cap] ∧ len ≤ cap ∧ (a = none → len = 0 ∧ cap = 0) ∧ ∃ us : List UInt8, us.length = len ∧ Rd8 W a us ∧ ((∀ z ∈ x.1.weights Try.prog 25, z ≤ reachBytes) → us.length ≤ reachBytes) := by
  rcases Deep.open_slice Try.underlying25 h with ⟨hcs, -⟩ | ⟨a, len, cap, m, nn, D, Pl, hcs, -, hl, hmx, hm, hx, hel⟩
  · exact ⟨none, 0, 0, hcs, Nat.le_refl _, fun _ => ⟨rfl, rfl⟩, [], rfl, Or.inl ⟨rfl, rfl⟩, fun _ => by simp⟩
  · refine ⟨some a, len, cap, hcs, hl, fun h => (by cases h), ?_⟩
    rw [cellsU8] at hel
    have hlm : len ≤ m := by rw [hm]; split <;> omega
    have key : ∀ i, i < len → ∃ u : UInt8, W.cell? (a.add i) = some (.int .u8 (u.toNat : Int)) := by
      intro i hi
      obtain ⟨cs', h1, h2⟩ := hel i (by omega)
      obtain ⟨y, ey, -, wy⟩ := DataW.trod_int Try.underlying5 h2
      obtain ⟨-, hl', hc⟩ := World.cells?_some h1
      have h3 := hc 0 (by omega)
      have e0 : (a.add (i * 1)).add 0 = a.add i := by rw [Nat.mul_one]; unfold Addr.add; split <;> simp_all
      rw [e0, ey] at h3
      have hb := bounds_u8 wy
      refine ⟨UInt8.ofNat y.toNat, ?_⟩
      have e1 : ((UInt8.ofNat y.toNat).toNat : Int) = y := by
        rw [UInt8.toNat_ofNat']
        omega
      rw [e1]
      simpa using h3
    obtain ⟨f, hf⟩ := Deep.choose_lt key
    refine ⟨(List.range len).map f, by simp, Or.inr ⟨a, rfl, fun j hj => ?_⟩, fun hz => ?_⟩
    · simp at hj ⊢
      exact hf j hj
    · have := hz ((((List.range len).map D).length + ((List.range (m - len)).map fun j => D (len + j)).length) * Try.prog.bytesOf 5) (by rw [hx]; simp [DataW.weights, Try.underlying25])
      rw [bytesU8] at this
      simp at this ⊢
      omega

theorem weights_all {P : Program} {e : TypeId} : ∀ {l : List (DataW H)} {d : DataW H}, d ∈ l → ∀ z ∈ d.weights P e, z ∈ DataW.weightsAll P e l
  | a :: l, d, hd, z, hz => by
    rw [DataW.weightsAll]
    rcases List.mem_cons.1 hd with rfl | hd
    · exact List.mem_append_left _ hz
    · exact List.mem_append_right _ (weights_all hd z hz)
theorem open_item {n : Nat} {cs : List Value} {x : DataW H × List MemPlace} (h : DataW.trod enc Try.prog W base sp held n 61 cs = some x) : ∃ it : It, cs = its [it] ∧ RdI W it ∧ ((∀ z ∈ x.1.weights Try.prog 61, z ≤ reachBytes) → it.bs.length ≤ reachBytes) := by
  obtain ⟨u0, u1, n3, hx, hl, k0, k1⟩ := trod_struct2 Try.underlying61 h
  rw [cellsIt] at hl
  obtain ⟨c0, c1, rfl⟩ := list2 hl
  simp only [cellsU6, cellsBy, List.drop_succ_cons, List.drop_zero, List.take_succ_cons, List.take_zero] at k0 k1
  obtain ⟨k, e0, -, -⟩ := DataW.trod_int Try.underlying24 k0
  obtain ⟨a, len, cap, e1, -, h5, us, h6, h7, h8⟩ := open_bytes k1
  simp at e0 e1
  subst e0 e1 h6
  refine ⟨⟨k, a, cap, us⟩, rfl, ⟨h7, fun q => (h5 q).2⟩, fun hz => h8 fun z hm => hz z ?_⟩
  rw [hx]
  simp only [DataW.weights, Try.underlying61]
  simp [DataW.weightsEach, hm]
theorem open_call {n : Nat} {cs : List Value} {x : DataW H × List MemPlace} (h : DataW.trod enc Try.prog W base sp held n 27 cs = some x) : ∃ c : Ca, cs = c.cells.toList ∧ RdC W c := by
  obtain ⟨z0, z1, z2, z3, n2, -, hl, g0, g1, g2, g3⟩ := trod_struct4 Try.underlying27 h
  rw [cellsCa] at hl
  obtain ⟨c0, c1, c2, c3, rfl⟩ := list4 hl
  simp only [cellsU6, cellsBy, cellsKd, List.drop_succ_cons, List.drop_zero, List.take_succ_cons, List.take_zero] at g0 g1 g2 g3
  obtain ⟨kd, e0, -, -⟩ := DataW.trod_int Try.underlying23 g0
  obtain ⟨key, e1, -, -⟩ := DataW.trod_int Try.underlying24 g1
  obtain ⟨high, e2, -, -⟩ := DataW.trod_int Try.underlying24 g2
  obtain ⟨a, len, cap, e3, -, h5, us, h6, h7, -⟩ := open_bytes g3
  simp at e0 e1 e2 e3
  subst e0 e1 e2 e3 h6
  exact ⟨⟨kd, key, high, a, cap, us⟩, rfl, h7, fun q => (h5 q).2⟩
theorem its_flat (l : List It) : its l = l.flatMap fun it => its [it] := by
  induction l with
  | nil => rfl
  | cons a l ih =>
    rw [List.flatMap_cons, ← ih]
    rfl
theorem cas_flat (l : List Ca) : cas l = l.flatMap fun c => c.cells.toList := by
  induction l with
  | nil => rfl
  | cons a l ih =>
    rw [List.flatMap_cons, ← ih]
    rfl
/-- A cell of a row of elements of k cells. -/
theorem flat_cell {α : Type} {W : World} {g k : Nat} {enc : α → List Value} (hk : ∀ x, (enc x).length = k) : ∀ (l : List α) (o : Nat), (∀ j (hj : j < l.length) c, c < k → W.cell? ⟨g, o + j * k + c, none⟩ = (enc l[j])[c]?) → ∀ j u, (l.flatMap enc)[j]? = some u → W.cell? ⟨g, o + j, none⟩ = some u
  | [], o, _, j, u, hu => by simp at hu
  | a :: l, o, h, j, u, hu => by
    rw [List.flatMap_cons] at hu
    by_cases hj : j < k
    · rw [List.getElem?_append_left (by rw [hk]; exact hj)] at hu
      have := h 0 (by simp) j hj
      simp at this
      rw [this]; exact hu
    · rw [List.getElem?_append_right (by rw [hk]; omega), hk] at hu
      have := flat_cell (g := g) hk l (o + k) (fun q hq c hc => by
        have := h (q + 1) (by simpa using hq) c hc
        rw [show o + k + q * k + c = o + (q + 1) * k + c by rw [Nat.add_mul]; omega]
        simpa using this) (j - k) u hu
      rw [show o + k + (j - k) = o + j by omega] at this
      exact this
theorem open_items {n : Nat} {a : Option Addr} {len cap : Nat} {x : DataW H × List MemPlace} (h : DataW.trod enc Try.prog W base sp held n 22 [.slice a len cap] = some x) (hv : ∀ ad, a = some ad → len ≤ cap ∧ cap ≤ 9223372036854775807 ∧ ad.spot = none ∧ ad.block < W.heap.size) :
    ∃ l : List It, l.length = len ∧ Sl W (.slice a len cap) l ∧ ((∀ z ∈ x.1.weights Try.prog 22, z ≤ reachBytes) → ∀ it ∈ l, it.bs.length ≤ reachBytes) := by
  rcases Deep.open_slice Try.underlying22 h with ⟨hcs, -⟩ | ⟨ad, len', cap', m, nn, D, Pl, hcs, -, hl, hmx, hm, hx, hel⟩
  · simp at hcs
    obtain ⟨rfl, rfl, rfl⟩ := hcs
    exact ⟨[], rfl, Sl.nil _, fun _ => by simp⟩
  · simp at hcs
    obtain ⟨rfl, rfl, rfl⟩ := hcs
    rw [cellsIt] at hel
    have hlm : len ≤ m := by rw [hm]; split <;> omega
    obtain ⟨h1, h2, h3, h4⟩ := hv ad rfl
    obtain ⟨g, o, spot⟩ := ad
    simp only [] at h3 h4
    subst h3
    have key : ∀ j, j < len → ∃ it : It, (∀ c, c < 2 → W.cell? ⟨g, o + j * 2 + c, none⟩ = (its [it])[c]?) ∧ RdI W it ∧ ((∀ z ∈ (D j).weights Try.prog 61, z ≤ reachBytes) → it.bs.length ≤ reachBytes) := fun j hj => by
      obtain ⟨cs', h5, h6⟩ := hel j (by omega)
      obtain ⟨-, hl', hc⟩ := World.cells?_some h5
      obtain ⟨it, rfl, hr, hz⟩ := open_item h6
      refine ⟨it, fun c hc2 => ?_, hr, hz⟩
      have h7 := hc c (by omega)
      rw [add_none, add_none] at h7
      exact h7
    haveI : Inhabited It := ⟨⟨0, none, 0, []⟩⟩
    obtain ⟨f, hf⟩ := Deep.choose_lt key
    refine ⟨(List.range len).map f, by simp, ⟨Or.inr ⟨g, o, cap, by simp, by simpa using h1, by unfold maxLen; omega, h4, ?_⟩, fun it hi => ?_⟩, fun hz it hi => ?_⟩
    · rw [its_flat]
      refine flat_cell (k := 2) (fun _ => rfl) _ o (fun j hj c hc => ?_)
      simp at hj
      simpa using (hf j hj).1 c hc
    · obtain ⟨j, hj, rfl⟩ := List.mem_map.1 hi
      exact (hf j (by simpa using hj)).2.1
    · obtain ⟨j, hj, rfl⟩ := List.mem_map.1 hi
      refine (hf j (by simpa using hj)).2.2 fun z hm' => hz z ?_
      rw [hx]
      simp only [DataW.weights, Try.underlying22]
      refine List.mem_cons_of_mem _ (List.mem_append_left _ (weights_all ?_ z hm'))
      exact List.mem_map.2 ⟨j, hj, rfl⟩
theorem open_calls {n : Nat} {a : Option Addr} {len cap : Nat} {x : DataW H × List MemPlace} (h : DataW.trod enc Try.prog W base sp held n 51 [.slice a len cap] = some x) (hv : ∀ ad, a = some ad → len ≤ cap ∧ cap ≤ 9223372036854775807 ∧ ad.spot = none ∧ ad.block < W.heap.size) :
    ∃ l : List Ca, l.length = len ∧ Cs W (.slice a len cap) l := by
  rcases Deep.open_slice Try.underlying51 h with ⟨hcs, -⟩ | ⟨ad, len', cap', m, nn, D, Pl, hcs, -, hl, hmx, hm, -, hel⟩
  · simp at hcs
    obtain ⟨rfl, rfl, rfl⟩ := hcs
    exact ⟨[], rfl, ⟨none, 0, rfl, Nat.le_refl _, by unfold maxLen; omega, fun j hj => by simp at hj⟩, by simp⟩
  · simp at hcs
    obtain ⟨rfl, rfl, rfl⟩ := hcs
    rw [cellsCa] at hel
    have hlm : len ≤ m := by rw [hm]; split <;> omega
    obtain ⟨h1, h2, h3, h4⟩ := hv ad rfl
    obtain ⟨g, o, spot⟩ := ad
    simp only [] at h3 h4
    subst h3
    have key : ∀ j, j < len → ∃ c : Ca, (∀ q, q < 4 → W.cell? ⟨g, o + j * 4 + q, none⟩ = (c.cells.toList)[q]?) ∧ RdC W c := fun j hj => by
      obtain ⟨cs', h5, h6⟩ := hel j (by omega)
      obtain ⟨-, hl', hc⟩ := World.cells?_some h5
      obtain ⟨c, rfl, hr⟩ := open_call h6
      refine ⟨c, fun q hq => ?_, hr⟩
      have h7 := hc q (by omega)
      rw [add_none, add_none] at h7
      exact h7
    haveI : Inhabited Ca := ⟨⟨0, 0, 0, none, 0, []⟩⟩
    obtain ⟨f, hf⟩ := Deep.choose_lt key
    refine ⟨(List.range len).map f, by simp, ⟨some ⟨g, o, none⟩, cap, by simp, by simpa using h1, by unfold maxLen; omega, fun _ _ => ⟨g, o, rfl, ?_⟩⟩, fun c hc => ?_⟩
    · rw [cas_flat]
      refine flat_cell (k := 4) (fun _ => rfl) _ o (fun j hj c hc => ?_)
      simp at hj
      simpa using (hf j hj).1 c hc
    · obtain ⟨j, hj, rfl⟩ := List.mem_map.1 hc
      exact (hf j (by simpa using hj)).2
end

end Go.Proofs.Ytfnpapaibgbjpaa
