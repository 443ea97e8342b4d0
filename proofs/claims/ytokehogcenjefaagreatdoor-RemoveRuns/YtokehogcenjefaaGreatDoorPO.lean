/- What came in: settings, answers. -/
import Derived.Test.YtokehogcenjefaaGreatDoorAL
import Derived.Test.YtokehogcenjefaaGreatDoorSW
import Derived.ProofKit
import Derived.OpenShut
import Derived.ShutString
import Derived.ChangeOld
import Derived.Below
import Derived.Lib.SmallJoins
import Derived.Deep.Slices
import Derived.Deep.Strs
namespace Go.Proofs.YtokehogcenjefaaGreatDoor
open Go.ChangeShapes Go.WideShapes Go.ChangeAt Go.RowKit Go.Joins

theorem cellsIn : Tryz.prog.cellsOf 3 = 1 := by kernel_rfl
theorem cellsU6 : Tryz.prog.cellsOf 23 = 1 := by kernel_rfl
theorem cellsRk : Tryz.prog.cellsOf 22 = 1 := by kernel_rfl
theorem cellsVc : Tryz.prog.cellsOf 27 = 2 := by kernel_rfl
theorem cellsKy : Tryz.prog.cellsOf 25 = 2 := by kernel_rfl
theorem cellsRf : Tryz.prog.cellsOf 29 = 5 := by kernel_rfl
theorem list2 {α : Type} {cs : List α} (h : cs.length = 2) : ∃ c0 c1, cs = [c0, c1] := by
 match cs, h with
 | [c0, c1], _ => exact ⟨c0, c1, rfl⟩
theorem list5 {α : Type} {cs : List α} (h : cs.length = 5) : ∃ c0 c1 c2 c3 c4, cs = [c0, c1, c2, c3, c4] := by
 match cs, h with
 | [c0, c1, c2, c3, c4], _ => exact ⟨c0, c1, c2, c3, c4, rfl⟩
theorem cell_has {P : Program} {e t : TypeId} (ht : P.underlying t = some (.slice e)) {W : World} {base : Nat} {ad : Addr} {len cap : Nat} (h : Cell.ok P W .any base t (.slice (some ad) len cap)) : len ≤ cap ∧ (cap : Int) ≤ IntKind.i64.max ∧ W.has P .any base ad e cap := by
 unfold Cell.ok at h
 rw [ht] at h
 exact h
theorem okWide_has {P : Program} {e t : TypeId} (ht : P.underlying t = some (.slice e)) {W : World} {base : Nat} {ad : Addr} {len cap : Nat} (h : Value.okWide P W .any base t (.slice (some ad) len cap)) : len ≤ cap ∧ cap ≤ 9223372036854775807 ∧ ad.spot = none ∧ ad.block < W.heap.size := by
 have h0 : Cell.ok P W .any base t (.slice (some ad) len cap) := by
   unfold Value.okWide at h
   rw [ht] at h
   unfold Cell.okWide at h
   rw [ht] at h
   exact h
 obtain ⟨h1, h2, -, h3, row, cells, h4, -⟩ := cell_has ht h0
 refine ⟨h1, ?_, h3, ?_⟩
 · have h2' : (cap : Int) ≤ 9223372036854775807 := h2
   omega
 · unfold World.shape? at h4
   rcases Nat.lt_or_ge ad.block W.heap.size with h5 | h5
   · exact h5
   · rw [Array.getElem?_eq_none h5] at h4; cases h4

section
variable {H : Type} {enc : TypeId × Value → H} {W : World} {base : Nat} {sp : Nat → Bool} {held : Bool}
theorem open_vec {n : Nat} {cs : List Value} {x : DataW H × List MemPlace} (h : DataW.trod enc Tryz.prog W base sp held n 27 cs = some x) : ∃ a b : Int, cs = [.int .i64 a, .int .u64 b] ∧ 0 ≤ b := by
 obtain ⟨u0, u1, n3, -, hl, k0, k1⟩ := trod_struct2 Tryz.underlying27 h
 rw [cellsVc] at hl
 obtain ⟨c0, c1, rfl⟩ := list2 hl
 simp only [cellsIn, cellsU6, List.drop_succ_cons, List.drop_zero, List.take_succ_cons, List.take_zero] at k0 k1
 obtain ⟨a, e4, -, w4⟩ := DataW.trod_int Tryz.underlying3 k0
 obtain ⟨o, e5, -, w5⟩ := DataW.trod_int Tryz.underlying23 k1
 simp at e4 e5
 subst e4 e5
 exact ⟨a, o, rfl, (bounds_u64 w5).1⟩
theorem open_key {n : Nat} {cs : List Value} {x : DataW H × List MemPlace} (h : DataW.trod enc Tryz.prog W base sp held n 25 cs = some x) : ∃ a b : Int, cs = [.int .i64 a, .int .u64 b] ∧ 0 ≤ b := by
 obtain ⟨u0, u1, n3, -, hl, k0, k1⟩ := trod_struct2 Tryz.underlying25 h
 rw [cellsKy] at hl
 obtain ⟨c0, c1, rfl⟩ := list2 hl
 simp only [cellsRk, cellsU6, List.drop_succ_cons, List.drop_zero, List.take_succ_cons, List.take_zero] at k0 k1
 obtain ⟨a, e4, -, -⟩ := DataW.trod_int Tryz.underlying22 k0
 obtain ⟨o, e5, -, w5⟩ := DataW.trod_int Tryz.underlying23 k1
 simp at e4 e5
 subst e4 e5
 exact ⟨a, o, rfl, (bounds_u64 w5).1⟩
theorem open_ref {n : Nat} {cs : List Value} {x : DataW H × List MemPlace} (h : DataW.trod enc Tryz.prog W base sp held n 29 cs = some x) : ∃ r : Rf, cs = rfs [r] ∧ 0 ≤ r.bt ∧ (Lit.int .i64 r.id).wf = true := by
 obtain ⟨z0, z1, z2, n2, -, hl, g0, g1, g2⟩ := Deep.trod_struct3 Tryz.underlying29 h
 rw [cellsRf] at hl
 obtain ⟨c0, c1, c2, c3, c4, rfl⟩ := list5 hl
 simp only [cellsIn, cellsVc, cellsKy, List.drop_succ_cons, List.drop_zero, List.take_succ_cons, List.take_zero] at g0 g1 g2
 obtain ⟨f0, e0, -, w0⟩ := DataW.trod_int Tryz.underlying3 g0
 obtain ⟨f1, f2, e1, -⟩ := open_key g1
 obtain ⟨f3, f4, e3, h4⟩ := open_vec g2
 simp at e0 e1 e3
 obtain ⟨rfl, rfl⟩ := e1
 obtain ⟨rfl, rfl⟩ := e3
 subst e0
 exact ⟨⟨f0, f1, f2, f3, f4⟩, rfl, h4, w0⟩
theorem rfs_flat (l : List Rf) : rfs l = l.flatMap fun r => rfs [r] := by
 induction l with
 | nil => rfl
 | cons a l ih =>
   rw [List.flatMap_cons, ← ih]
   rfl
/-- A cell of a row of elements of k cells. -/
theorem flat_cell {α : Type} {W : World} {g k : Nat} {enc : α → List Value} (hk : ∀ x, (enc x).length = k) : ∀ (l : List α) (o : Nat), (∀ j (hj : j < l.length) c, c < k → W.cell? ⟨g, o + j * k + c, none⟩ = (enc l[j])[c]?) → ∀ j u, (l.flatMap enc)[j]? = some u → W.cell? ⟨g, o + j, none⟩ = some u
 | [], o, _, j, u, hu => by simp at hu
 | a :: l, o, h, j, u, hu => by
   rw [List.flatMap_cons] at hu
   by_cases hj : j < k
   · rw [List.getElem?_append_left (by rw [hk]; exact hj)] at hu
     have := h 0 (by simp) j hj
     simp at this
     rw [this]; exact hu
   · rw [List.getElem?_append_right (by rw [hk]; omega), hk] at hu
     have := flat_cell (g := g) hk l (o + k) (fun q hq c hc => by
       have := h (q + 1) (by simpa using hq) c hc
       rw [show o + k + q * k + c = o + (q + 1) * k + c by rw [Nat.add_mul]; omega]
       simpa using this) (j - k) u hu
     rw [show o + k + (j - k) = o + j by omega] at this
     exact this
theorem add_none (g o j : Nat) : (⟨g, o, none⟩ : Addr).add j = ⟨g, o + j, none⟩ := by unfold Addr.add; split <;> simp_all
theorem cellsRc : Tryz.prog.cellsOf 33 = 9 := by kernel_rfl
theorem cellsOw : Tryz.prog.cellsOf 31 = 2 := by kernel_rfl
theorem cellsU64 : Tryz.prog.cellsOf 23 = 1 := by kernel_rfl
theorem list9 {α : Type} {cs : List α} (h : cs.length = 9) : ∃ c0 c1 c2 c3 c4 c5 c6 c7 c8, cs = [c0, c1, c2, c3, c4, c5, c6, c7, c8] := by
 match cs, h with
 | [c0, c1, c2, c3, c4, c5, c6, c7, c8], _ => exact ⟨c0, c1, c2, c3, c4, c5, c6, c7, c8, rfl⟩
theorem open_owner {n : Nat} {cs : List Value} {x : DataW H × List MemPlace} (h : DataW.trod enc Tryz.prog W base sp held n 31 cs = some x) : ∃ (a o : Int), cs = [.int .i64 a, .int .i64 o] := by
 obtain ⟨z0, z1, n2, -, hl, g0, g1⟩ := trod_struct2 Tryz.underlying31 h
 rw [cellsOw] at hl
 obtain ⟨c0, c1, rfl⟩ := list2 hl
 simp only [cellsIn, List.drop_succ_cons, List.drop_zero, List.take_succ_cons, List.take_zero] at g0 g1
 obtain ⟨f0, e0, -, -⟩ := DataW.trod_int Tryz.underlying3 g0
 obtain ⟨f1, e1, -, -⟩ := DataW.trod_int Tryz.underlying3 g1
 simp at e0 e1
 subst e0 e1
 exact ⟨f0, f1, rfl⟩
theorem open_conf {n : Nat} {cs : List Value} {x : DataW H × List MemPlace} (h : DataW.trod enc Tryz.prog W base sp held n 33 cs = some x) : ∃ (hh : Int) (s : Rf) (k oa oo : Int), cs = rcL hh s k oa oo ∧ 0 ≤ s.bt ∧ (Lit.int .i64 s.id).wf = true := by
 obtain ⟨z0, z1, z2, z3, n2, -, hl, g0, g1, g2, g3⟩ := trod_struct4 Tryz.underlying33 h
 rw [cellsRc] at hl
 obtain ⟨c0, c1, c2, c3, c4, c5, c6, c7, c8, rfl⟩ := list9 hl
 simp only [cellsIn, cellsRf, cellsU64, cellsOw, List.drop_succ_cons, List.drop_zero, List.take_succ_cons, List.take_zero] at g0 g1 g2 g3
 obtain ⟨f0, e0, -, -⟩ := DataW.trod_int Tryz.underlying3 g0
 obtain ⟨r, e1, h1, h2⟩ := open_ref g1
 obtain ⟨f2, e2, -, -⟩ := DataW.trod_int Tryz.underlying23 g2
 obtain ⟨oa, oo, e3⟩ := open_owner g3
 simp [rfs] at e0 e1 e2 e3
 obtain ⟨rfl, rfl, rfl, rfl, rfl⟩ := e1
 obtain ⟨rfl, rfl⟩ := e3
 subst e0 e2
 exact ⟨f0, r, f2, oa, oo, rfl, h1, h2⟩

theorem cellsAn : Tryz.prog.cellsOf 62 = 13 := by kernel_rfl
theorem cellsAk : Tryz.prog.cellsOf 60 = 1 := by kernel_rfl
theorem cellsBo : Tryz.prog.cellsOf 4 = 1 := by kernel_rfl
theorem cellsBy : Tryz.prog.cellsOf 48 = 1 := by kernel_rfl
theorem list13 {α : Type} {cs : List α} (h : cs.length = 13) : ∃ c0 c1 c2 c3 c4 c5 c6 c7 c8 c9 c10 c11 c12, cs = [c0, c1, c2, c3, c4, c5, c6, c7, c8, c9, c10, c11, c12] := by
 match cs, h with
 | [c0, c1, c2, c3, c4, c5, c6, c7, c8, c9, c10, c11, c12], _ => exact ⟨c0, c1, c2, c3, c4, c5, c6, c7, c8, c9, c10, c11, c12, rfl⟩
theorem trod_struct5 {P : Program} {w : World} {spare : Nat → Bool} {t : TypeId} {f0 f1 f2 f3 f4 : Field} {fuel : Nat} {cs : List Value} {x : DataW H × List MemPlace} (ht : P.underlying t = some (.struct #[f0, f1, f2, f3, f4])) (h : DataW.trod enc P w base spare held fuel t cs = some x) :
   ∃ y0 y1 y2 y3 y4 n, cs.length = P.cellsOf t ∧ DataW.trod enc P w base spare held n f0.type ((cs.drop f0.offset).take (P.cellsOf f0.type)) = some y0 ∧ DataW.trod enc P w base spare held n f1.type ((cs.drop f1.offset).take (P.cellsOf f1.type)) = some y1 ∧ DataW.trod enc P w base spare held n f2.type ((cs.drop f2.offset).take (P.cellsOf f2.type)) = some y2 ∧ DataW.trod enc P w base spare held n f3.type ((cs.drop f3.offset).take (P.cellsOf f3.type)) = some y3 ∧ DataW.trod enc P w base spare held n f4.type ((cs.drop f4.offset).take (P.cellsOf f4.type)) = some y4 := by
 obtain ⟨xs, n, _, rfl, hl, hlen, hf⟩ := DataW.trod_struct ht h
 match xs, hlen with
 | [y0, y1, y2, y3, y4], _ => exact ⟨y0, y1, y2, y3, y4, n, hl, by simpa using hf 0 f0 rfl, by simpa using hf 1 f1 rfl, by simpa using hf 2 f2 rfl, by simpa using hf 3 f3 rfl, by simpa using hf 4 f4 rfl⟩
theorem open_ans {n : Nat} {cs : List Value} {x : DataW H × List MemPlace} (h : DataW.trod enc Tryz.prog W base sp held n 62 cs = some x) : ∃ a : An, cs = anL a ∧ AOk a ∧ ABt a := by
 obtain ⟨z0, z1, z2, z3, z4, n2, hl, g0, g1, g2, g3, g4⟩ := trod_struct5 Tryz.underlying62 h
 rw [cellsAn] at hl
 obtain ⟨c0, c1, c2, c3, c4, c5, c6, c7, c8, c9, c10, c11, c12, rfl⟩ := list13 hl
 simp only [cellsAk, cellsBo, cellsRf, cellsBy, List.drop_succ_cons, List.drop_zero, List.take_succ_cons, List.take_zero] at g0 g1 g2 g3 g4
 obtain ⟨f0, e0, -, -⟩ := DataW.trod_int Tryz.underlying60 g0
 obtain ⟨f1, e1, -⟩ := DataW.trod_bool Tryz.underlying4 g1
 obtain ⟨l, e2, h1, h2⟩ := open_ref g2
 obtain ⟨r, e3, h3, h4⟩ := open_ref g3
 have e4 : ∃ va vn vc, [c12] = [Value.slice va vn vc] := by
   rcases Deep.open_slice Tryz.underlying48 g4 with ⟨hcs, -⟩ | ⟨ad, len', cap', m, nn, D, Pl, hcs, -⟩
   · exact ⟨none, 0, 0, hcs⟩
   · exact ⟨_, _, _, hcs⟩
 obtain ⟨va, vn, vc, e4⟩ := e4
 simp [rfs] at e0 e1 e2 e3 e4
 obtain ⟨rfl, rfl, rfl, rfl, rfl⟩ := e2
 obtain ⟨rfl, rfl, rfl, rfl, rfl⟩ := e3
 subst e0 e1 e4
 exact ⟨⟨f0, f1, l, r, va, vn, vc⟩, rfl, ⟨h2, h4⟩, ⟨h1, h3⟩⟩
theorem open_answers {n : Nat} {a : Option Addr} {len cap : Nat} {x : DataW H × List MemPlace} (h : DataW.trod enc Tryz.prog W base sp held n 34 [.slice a len cap] = some x) (hv : ∀ ad, a = some ad → len ≤ cap ∧ cap ≤ 9223372036854775807 ∧ ad.spot = none ∧ ad.block < W.heap.size) :
   ∃ l, AnSl W (.slice a len cap) l ∧ ∀ q ∈ l, AOk q ∧ ABt q := by
 rcases Deep.open_slice Tryz.underlying34 h with ⟨hcs, -⟩ | ⟨ad, len', cap', m, nn, D, Pl, hcs, -, hl, hmx, hm, hx, hel⟩
 · simp at hcs
   obtain ⟨rfl, rfl, rfl⟩ := hcs
   exact ⟨[], Or.inl ⟨rfl, rfl⟩, by simp⟩
 · simp at hcs
   obtain ⟨rfl, rfl, rfl⟩ := hcs
   rw [cellsAn] at hel
   have hlm : len ≤ m := by rw [hm]; split <;> omega
   obtain ⟨h1, h2, h3, h4⟩ := hv ad rfl
   obtain ⟨g, o, spot⟩ := ad
   simp only [] at h3 h4
   subst h3
   have key : ∀ j, j < len → ∃ p : An, (AOk p ∧ ABt p) ∧ ∀ c, c < 13 → W.cell? ⟨g, o + j * 13 + c, none⟩ = (anL p)[c]? := fun j hj => by
     obtain ⟨cs', h5, h6⟩ := hel j (by omega)
     obtain ⟨-, hl', hc⟩ := World.cells?_some h5
     obtain ⟨p, rfl, ok1, ok2⟩ := open_ans h6
     refine ⟨p, ⟨ok1, ok2⟩, fun c hc2 => ?_⟩
     have h7 := hc c (by omega)
     rw [add_none, add_none] at h7
     exact h7
   haveI : Inhabited An := ⟨⟨0, false, zr, zr, none, 0, 0⟩⟩
   obtain ⟨f, hf⟩ := Deep.choose_lt key
   refine ⟨(List.range len).map f, Or.inr ⟨g, o, cap, by simp, by simpa using h1, by unfold maxLen; omega, h4, fun j hj c hc => ?_⟩, fun q hq => ?_⟩
   · simp at hj
     simpa using (hf j hj).2 c hc
   · obtain ⟨j, hj, rfl⟩ := List.mem_map.mp hq
     exact (hf j (List.mem_range.mp hj)).1
end

end Go.Proofs.YtokehogcenjefaaGreatDoor
