/- PackBack: the tied card: for every input that can be read the law returns true, and each argument reads as it did before; the table of ranks (and the tables of the library that the row lists) as the text of the program lays them. -/
import Derived.Test.YtmhcmlegdoapdaaDoorWM
import Derived.Test.YtmhcmlegdoapdaaDoorPA
import Derived.ProofKit
import Derived.OpenShut
import Derived.ShutString
import Derived.ChangeOld
import Derived.Below
import Derived.Lib.SmallJoins
import Derived.Deep.Slices
import Derived.Test.YtmhcmlegdoapdaaDoorRows
import Derived.Test.YtmhcmlegdoapdaaDoorCards
import Derived.Test.YtmhcmlegdoapdaaDoorTie
import Derived.Test.YtmhcmlegdoapdaaDoorWP
import Derived.SevenTiedAt
/- Fields that are handed in, as they are read. -/
namespace Go.Proofs.YtmhcmlegdoapdaaDoor
open Go.ChangeShapes Go.WideShapes Go.ChangeAt Go.RowKit Go.Joins

theorem cellsFd : Tryd.prog.cellsOf 34 = 14 := by kernel_rfl
theorem cellsVc : Tryd.prog.cellsOf 27 = 2 := by kernel_rfl
theorem cellsKy : Tryd.prog.cellsOf 30 = 2 := by kernel_rfl
theorem cellsRf : Tryd.prog.cellsOf 32 = 5 := by kernel_rfl
theorem cellsIn : Tryd.prog.cellsOf 3 = 1 := by kernel_rfl
theorem cellsU6 : Tryd.prog.cellsOf 24 = 1 := by kernel_rfl
theorem cellsBo : Tryd.prog.cellsOf 4 = 1 := by kernel_rfl
theorem cellsRk : Tryd.prog.cellsOf 28 = 1 := by kernel_rfl
theorem cellsFk : Tryd.prog.cellsOf 23 = 1 := by kernel_rfl
theorem cellsSl : Tryd.prog.cellsOf 25 = 1 := by kernel_rfl
theorem cellsU8 : Tryd.prog.cellsOf 5 = 1 := by kernel_rfl

theorem list14 {α : Type} {cs : List α} (h : cs.length = 14) : ∃ c0 c1 c2 c3 c4 c5 c6 c7 c8 c9 c10 c11 c12 c13, cs = [c0, c1, c2, c3, c4, c5, c6, c7, c8, c9, c10, c11, c12, c13] := by
  match cs, h with
  | [c0, c1, c2, c3, c4, c5, c6, c7, c8, c9, c10, c11, c12, c13], _ => exact ⟨c0, c1, c2, c3, c4, c5, c6, c7, c8, c9, c10, c11, c12, c13, rfl⟩

section
variable {H : Type} {enc : TypeId × Value → H} {W : World} {base : Nat} {held : Bool}

/-- The bytes of a slice that came in can be read. -/
theorem open_row {n : Nat} {cs : List Value} {x : DataW H × List MemPlace} (h : DataW.trod enc Tryd.prog W base (fun _ => true) held n 25 cs = some x) :
    ∃ a len cap, cs = [.slice a len cap] ∧ len ≤ cap ∧ (a = none → cap = 0) ∧ ∃ L : List UInt8, L.length = len ∧ (L = [] ∨ ∃ b o, a = some ⟨b, o, none⟩ ∧ b < W.heap.size ∧ ∀ i (hi : i < L.length), W.cell? ⟨b, o + i, none⟩ = some (.int .u8 (L[i].toNat : Int))) := by
  rcases Deep.open_slice Tryd.underlying25 h with ⟨hcs, -⟩ | ⟨a, len, cap, m, nn, D, Pl, hcs, -, hl, hmx, hm, -, hel⟩
  · exact ⟨none, 0, 0, hcs, Nat.le_refl _, fun _ => rfl, [], rfl, Or.inl rfl⟩
  · refine ⟨some a, len, cap, hcs, hl, fun h => (by cases h), ?_⟩
    rw [cellsU8] at hel
    have hlm : len ≤ m := by rw [hm]; split <;> omega
    have key : ∀ i, i < len → ∃ u : UInt8, W.cell? (a.add i) = some (.int .u8 (u.toNat : Int)) := by
      intro i hi
      obtain ⟨cs', h1, h2⟩ := hel i (by omega)
      obtain ⟨y, ey, -, wy⟩ := DataW.trod_int Tryd.underlying5 h2
      obtain ⟨-, hl', hc⟩ := World.cells?_some h1
      have h3 := hc 0 (by omega)
      have e0 : (a.add (i * 1)).add 0 = a.add i := by rw [Nat.mul_one]; unfold Addr.add; split <;> simp_all
      rw [e0, ey] at h3
      have hb := bounds_u8 wy
      refine ⟨UInt8.ofNat y.toNat, ?_⟩
      have e1 : ((UInt8.ofNat y.toNat).toNat : Int) = y := by
        rw [UInt8.toNat_ofNat']
        omega
      rw [e1]
      simpa using h3
    obtain ⟨f, hf⟩ := Deep.choose_lt key
    refine ⟨(List.range len).map f, by simp, ?_⟩
    rcases Nat.eq_zero_or_pos len with h0 | h0
    · subst h0; exact Or.inl rfl
    · right
      obtain ⟨b, o, spot⟩ := a
      have hspot : spot = none := by simpa [Addr.add] using World.cell?_spot (hf 0 h0)
      subst hspot
      refine ⟨b, o, rfl, lt_of_cell (hf 0 h0), fun i hi => ?_⟩
      simp at hi ⊢
      have := hf i hi
      rw [Lib.add_plain] at this
      exact this

theorem trod_struct8 {P : Program} {w : World} {spare : Nat → Bool} {t : TypeId} {f0 f1 f2 f3 f4 f5 f6 f7 : Field} {fuel : Nat} {cs : List Value} {x : DataW H × List MemPlace} (ht : P.underlying t = some (.struct #[f0, f1, f2, f3, f4, f5, f6, f7])) (h : DataW.trod enc P w base spare held fuel t cs = some x) :
    ∃ y0 y1 y2 y3 y4 y5 y6 y7 n, cs.length = P.cellsOf t ∧ DataW.trod enc P w base spare held n f0.type ((cs.drop f0.offset).take (P.cellsOf f0.type)) = some y0 ∧ DataW.trod enc P w base spare held n f1.type ((cs.drop f1.offset).take (P.cellsOf f1.type)) = some y1 ∧ DataW.trod enc P w base spare held n f2.type ((cs.drop f2.offset).take (P.cellsOf f2.type)) = some y2 ∧ DataW.trod enc P w base spare held n f3.type ((cs.drop f3.offset).take (P.cellsOf f3.type)) = some y3 ∧ DataW.trod enc P w base spare held n f4.type ((cs.drop f4.offset).take (P.cellsOf f4.type)) = some y4 ∧ DataW.trod enc P w base spare held n f5.type ((cs.drop f5.offset).take (P.cellsOf f5.type)) = some y5 ∧ DataW.trod enc P w base spare held n f6.type ((cs.drop f6.offset).take (P.cellsOf f6.type)) = some y6 ∧ DataW.trod enc P w base spare held n f7.type ((cs.drop f7.offset).take (P.cellsOf f7.type)) = some y7 := by
  obtain ⟨xs, n, _, rfl, hl, hlen, hf⟩ := DataW.trod_struct ht h
  match xs, hlen with
  | [y0, y1, y2, y3, y4, y5, y6, y7], _ => exact ⟨y0, y1, y2, y3, y4, y5, y6, y7, n, hl, by simpa using hf 0 f0 rfl, by simpa using hf 1 f1 rfl, by simpa using hf 2 f2 rfl, by simpa using hf 3 f3 rfl, by simpa using hf 4 f4 rfl, by simpa using hf 5 f5 rfl, by simpa using hf 6 f6 rfl, by simpa using hf 7 f7 rfl⟩

/-- A field's fourteen cells, as they are read. -/
theorem open_field {n : Nat} {cs : List Value} {x : DataW H × List MemPlace} (h : DataW.trod enc Tryd.prog W base (fun _ => true) held n 34 cs = some x) :
    ∃ (g : Fd) (L : List UInt8), cs = g.cs.toList ∧ InF W g L ∧ (0 ≤ g.f10 ∧ g.f10 < 18446744073709551616) ∧ (0 ≤ g.f13 ∧ g.f13 < 18446744073709551616) := by
  obtain ⟨y0, y1, y2, y3, y4, y5, y6, y7, n1, hl, h0, h1, h2, h3, h4, h5, h6, h7⟩ := trod_struct8 Tryd.underlying34 h
  rw [cellsFd] at hl
  obtain ⟨c0, c1, c2, c3, c4, c5, c6, c7, c8, c9, c10, c11, c12, c13, rfl⟩ := list14 hl
  simp only [cellsFk, cellsU6, cellsIn, cellsBo, cellsSl, cellsVc, cellsKy, cellsRf, List.drop_succ_cons, List.drop_zero, List.take_succ_cons, List.take_zero] at h0 h1 h2 h3 h4 h5 h6 h7
  obtain ⟨f0, e0, -, -⟩ := DataW.trod_int Tryd.underlying23 h0
  obtain ⟨f1, e1, -, w1⟩ := DataW.trod_int Tryd.underlying24 h1
  obtain ⟨f2, e2, -, w2⟩ := DataW.trod_int Tryd.underlying3 h2
  obtain ⟨f3, e3, -⟩ := DataW.trod_bool Tryd.underlying4 h3
  obtain ⟨f4, f5, f6, e4, r1, r2, L, r3, r4⟩ := open_row h4
  obtain ⟨u0, u1, n3, -, -, k0, k1⟩ := trod_struct2 Tryd.underlying27 h5
  obtain ⟨t0, t1, n4, -, -, l0, l1⟩ := trod_struct2 Tryd.underlying30 h6
  obtain ⟨z0, z1, z2, n2, -, -, g0, g1, g2⟩ := Deep.trod_struct3 Tryd.underlying32 h7
  simp only [cellsU6, cellsIn, cellsRk, cellsVc, cellsKy, List.drop_succ_cons, List.drop_zero, List.take_succ_cons, List.take_zero] at k0 k1 l0 l1 g0 g1 g2
  obtain ⟨s0, s1, n5, -, -, p0, p1⟩ := trod_struct2 Tryd.underlying30 g1
  obtain ⟨q0, q1, n6, -, -, o0, o1⟩ := trod_struct2 Tryd.underlying27 g2
  simp only [cellsU6, cellsIn, cellsRk, List.drop_succ_cons, List.drop_zero, List.take_succ_cons, List.take_zero] at p0 p1 o0 o1
  obtain ⟨f7, e7, -, -⟩ := DataW.trod_int Tryd.underlying3 k0
  obtain ⟨f8, e8, -, w8⟩ := DataW.trod_int Tryd.underlying24 k1
  obtain ⟨f9, e9, -, -⟩ := DataW.trod_int Tryd.underlying28 l0
  obtain ⟨f10, e10, -, w10⟩ := DataW.trod_int Tryd.underlying24 l1
  obtain ⟨f11, e11, -, w11⟩ := DataW.trod_int Tryd.underlying3 g0
  obtain ⟨f12, e12, -, -⟩ := DataW.trod_int Tryd.underlying28 p0
  obtain ⟨f13, e13, -, w13⟩ := DataW.trod_int Tryd.underlying24 p1
  obtain ⟨f14, e14, -, -⟩ := DataW.trod_int Tryd.underlying3 o0
  obtain ⟨f15, e15, -, w15⟩ := DataW.trod_int Tryd.underlying24 o1
  simp at e0 e1 e2 e3 e4 e7 e8 e9 e10 e11 e12 e13 e14 e15
  subst e0 e1 e2 e3 e4 e7 e8 e9 e10 e11 e12 e13 e14 e15
  have b1 := bounds_u64 w1
  have b2 := bounds_i64 w2
  have b8 := bounds_u64 w8
  have b10 := bounds_u64 w10
  have b11 := bounds_i64 w11
  have b13 := bounds_u64 w13
  have b15 := bounds_u64 w15
  exact ⟨⟨f0, f1, f2, f3, f4, f5, f6, f7, f8, f9, f10, f11, f12, f13, f14, f15⟩, L, rfl, ⟨r3, r1, r2, r4, by simp only []; omega, by simp only []; omega, by simp only []; omega, by simp only []; omega, by simp only []; omega⟩, by simp only []; omega, by simp only []; omega⟩

/-- A row of fields, as it is read. -/
theorem open_fields {n : Nat} {cs : List Value} {x : DataW H × List MemPlace} (h : DataW.trod enc Tryd.prog W base (fun _ => true) held n 22 cs = some x) :
    ∃ a len cap, cs = [.slice a len cap] ∧ ∃ xs : List (Fd × List UInt8), xs.length = len ∧ FIn W a xs ∧ ∀ p ∈ xs, (0 ≤ p.1.f10 ∧ p.1.f10 < 18446744073709551616) ∧ (0 ≤ p.1.f13 ∧ p.1.f13 < 18446744073709551616) := by
  rcases Deep.open_slice Tryd.underlying22 h with ⟨hcs, -⟩ | ⟨a, len, cap, m, nn, D, Pl, hcs, -, hl, hmx, hm, -, hel⟩
  · exact ⟨none, 0, 0, hcs, [], rfl, fun j p h => by simp at h, by simp⟩
  · refine ⟨some a, len, cap, hcs, ?_⟩
    rw [cellsFd] at hel
    have hlm : len ≤ m := by rw [hm]; split <;> omega
    have key : ∀ i, i < len → ∃ p : Fd × List UInt8, (∀ c, c < 14 → W.cell? ((a.add (i * 14)).add c) = p.1.cs[c]?) ∧ InF W p.1 p.2 ∧ (0 ≤ p.1.f10 ∧ p.1.f10 < 18446744073709551616) ∧ (0 ≤ p.1.f13 ∧ p.1.f13 < 18446744073709551616) := by
      intro i hi
      obtain ⟨cs', h1, h2⟩ := hel i (by omega)
      obtain ⟨-, hl', hc⟩ := World.cells?_some h1
      obtain ⟨g, L, rfl, hI, h10, h13⟩ := open_field h2
      refine ⟨(g, L), fun c hc14 => ?_, hI, h10, h13⟩
      have h3 := hc c (by omega)
      rw [h3]
      simp
    haveI : Inhabited (Fd × List UInt8) := ⟨(⟨0, 0, 0, false, none, 0, 0, 0, 0, 0, 0, 0, 0, 0, 0, 0⟩, [])⟩
    obtain ⟨f, hf⟩ := Deep.choose_lt key
    refine ⟨(List.range len).map f, by simp, fun j p hj => ?_, fun p hp => ?_⟩
    · rw [List.getElem?_map] at hj
      obtain ⟨i, hi, rfl⟩ := Option.map_eq_some_iff.1 hj
      obtain ⟨hjl, rfl⟩ := List.getElem?_eq_some_iff.1 hi
      simp at hjl ⊢
      obtain ⟨h1, h2, -⟩ := hf j hjl
      refine ⟨?_, h2⟩
      obtain ⟨b, o, spot⟩ := a
      have hc0 : ∃ u, (f j).1.cs[0]? = some u := by cases (f j).1; exact ⟨_, rfl⟩
      obtain ⟨u, hu⟩ := hc0
      have h00 := h1 0 (by omega)
      rw [hu] at h00
      have hbl : b < W.heap.size := by
        have hblk : ∀ (a : Addr) (n : Nat), (a.add n).block = a.block := fun a n => by unfold Addr.add; split <;> rfl
        have := lt_of_cell h00
        rw [hblk, hblk] at this
        exact this
      have hspot : spot = none := by
        rcases Nat.eq_zero_or_pos j with hj0 | hj0
        · subst hj0
          simpa [Addr.add] using World.cell?_spot h00
        · obtain ⟨h1', -⟩ := hf 0 (by omega)
          have hc0' : ∃ u, (f 0).1.cs[0]? = some u := by cases (f 0).1; exact ⟨_, rfl⟩
          obtain ⟨u', hu'⟩ := hc0'
          have h0' := h1' 0 (by omega)
          rw [hu'] at h0'
          simpa [Addr.add] using World.cell?_spot h0'
      subst hspot
      refine ⟨b, o, rfl, hbl, fun i hi => ?_⟩
      have := h1 i hi
      rw [Lib.add_plain, Lib.add_plain] at this
      exact this
    · obtain ⟨i, hi, rfl⟩ := List.mem_map.1 hp
      have := hf i (by simpa using hi)
      exact this.2.2
end

end Go.Proofs.YtmhcmlegdoapdaaDoor

namespace Go.Proofs.YtmhcmlegdoapdaaDoor
open Go.ChangeShapes Go.WideShapes Go.ChangeAt Go.RowKit Go.Joins
open Go.ChangeMaps (open_string shut_string)

theorem ownPackBack : ownKnob Tryd.prog.godebug = none := by kernel_rfl
theorem laidOutPackBack : laidOutB Tryd.prog = true := by kernel_rfl
theorem cellsU8PackBack : Tryd.prog.cellsOf 5 = 1 := by kernel_rfl
theorem cellsFKPackBack : Tryd.prog.cellsOf 23 = 1 := by kernel_rfl

set_option maxRecDepth 100000 in
theorem liftedPackBack (os : Os) (started : os.Started) (H : Type) (enc : TypeId × Value → H) :
    ReturnsInHanded {} Tryd.checked os 6 .any (fun w args => (Rows.packBackSpec.pre enc Tryd.prog Tryd.f6 [] false w args ∧ laidMetH Tryd.prog laid1 w) ∧ sizedMet enc Tryd.prog Tryd.f6 (OpenSpec.ofChange Rows.packBackSpec) false w args) (Rows.packBackSpec.post enc Tryd.prog Tryd.f6 false true false false) := by
  refine returnsInHanded_of_change_and (C := Tryd.checked) (X := fun w _ => laidMetH Tryd.prog laid1 w) (fun _ _ _ hh h => h.of_heap hh) ownPackBack started (by kernel_rfl) Tryd.func6
    (ChangeSpec.witness_shaped (enc := enc) (C := Tryd.checked) (os := os) (X := fun w _ => laidMetH Tryd.prog laid1 w) false (World.doorLaid Tryd.prog 400 os) #[.slice none 0 0, .slice none 0 0, .slice none 0 0] 8 rfl (World.shaped_of_RefB (by kernel_rfl) (by kernel_rfl)) (by kernel_rfl) (by kernel_rfl) (by kernel_rfl) (door_met1 os _)) ?_
  intro W base args ds gs before hval0 hW _ _ hL _
  have hRk := ranks_of_laid1 hL
  have hval : ∀ (j : Nat) t v, Tryd.f6.params[j]? = some t → args[j]? = some v → Value.okWide Tryd.prog W .any base t v := hval0
  have hW' := hW
  obtain ⟨p, q, hA0, hV, rfl, hfz, hnd⟩ := hW
  have hA : DataW.TrodAll enc Tryd.prog W 0 (fun _ => true) true Tryd.f6.params.toList args.toList ds p := hA0
  rw [Tryd.params6] at hA hval
  obtain ⟨v0, vs0, d0, ds0, p0, q0, hargs, rfl, rfl, h0, r0⟩ := trodAll_cons hA
  obtain ⟨v1, vs1, d1, ds1, p1, q1, rfl, rfl, rfl, h1, r1⟩ := trodAll_cons r0
  obtain ⟨v2, vs2, d2, ds2, p2, q2, rfl, rfl, rfl, h2, r2⟩ := trodAll_cons r1
  obtain ⟨rfl, rfl, rfl⟩ := trodAll_nil r2
  obtain rfl : args = #[v0, v1, v2] := by cases args; simp_all
  obtain ⟨rfl, rfl⟩ := trodVars_none hV
  have k0 := h0
  have lt0 : ∀ x ∈ p0, x.block < W.heap.size := by obtain ⟨m, hm⟩ := k0; exact DataW.trod_lt m _ _ _ hm
  have k1 := h1
  have lt1 : ∀ x ∈ p1, x.block < W.heap.size := by obtain ⟨m, hm⟩ := k1; exact DataW.trod_lt m _ _ _ hm
  have k2 := h2
  have lt2 : ∀ x ∈ p2, x.block < W.heap.size := by obtain ⟨m, hm⟩ := k2; exact DataW.trod_lt m _ _ _ hm
  obtain ⟨la, nx, lc, rfl⟩ := okWide_slice Tryd.underlying22 (hval 0 22 v0 rfl rfl)
  have hfx : ∃ xs : List (Fd × List UInt8), xs.length = nx ∧ FIn W la xs ∧ ∀ p ∈ xs, (0 ≤ p.1.f10 ∧ p.1.f10 < 18446744073709551616) ∧ (0 ≤ p.1.f13 ∧ p.1.f13 < 18446744073709551616) := by
    obtain ⟨fuel, hf⟩ := h0
    obtain ⟨a, len, cap, hcs, hS⟩ := open_fields hf
    simp [Value.cells] at hcs
    obtain ⟨rfl, rfl, rfl⟩ := hcs
    exact hS
  obtain ⟨xs, x1, x2, x3⟩ := hfx
  obtain ⟨al, len, cap, rfl⟩ := okWide_slice Tryd.underlying25 (hval 1 25 v1 rfl rfl)
  obtain ⟨ka, m, kc, rfl⟩ := okWide_slice Tryd.underlying53 (hval 2 53 v2 rfl rfl)
  have hsl : ∃ (L : List UInt8) (sb : Nat), L.length = len ∧ len ≤ cap ∧ cap ≤ 9223372036854775807 ∧ sb < W.heap.size ∧ ((al = none ∧ L = [] ∧ cap = 0) ∨ ∃ o, al = some ⟨sb, o, none⟩ ∧ ∀ j (hj : j < L.length), W.cell? ⟨sb, o + j, none⟩ = some (.int .u8 (L[j].toNat : Int))) := by
    obtain ⟨fuel, hf⟩ := h1
    rcases open_ints Tryd.underlying25 Tryd.underlying5 cellsU8PackBack hf with ⟨hcs, -⟩ | ⟨a, len', cap', zs, hcs, -, hl, hm, hz, -, hcell, hwz⟩
    · simp [Value.cells] at hcs
      obtain ⟨rfl, rfl, rfl⟩ := hcs
      exact ⟨[], 0, rfl, by omega, by omega, lt_of_cell hRk.1, Or.inl ⟨rfl, rfl, rfl⟩⟩
    · simp [Value.cells] at hcs
      obtain ⟨rfl, rfl, rfl⟩ := hcs
      obtain ⟨h1, h2, h3, h4⟩ := okWide_has Tryd.underlying25 (hval 1 25 _ rfl rfl)
      obtain ⟨blk, off, spot⟩ := a
      simp only [] at h3 h4
      subst h3
      have hzl : zs.length = cap := by simpa using hz
      have hb := range_u8 hwz
      obtain ⟨L, hL⟩ := ints_of (zs.take len) (fun c hc => by
        obtain ⟨j, hj, rfl⟩ := List.getElem_of_mem hc
        rw [List.length_take] at hj
        have := hb j
        rw [List.getElem?_eq_getElem (by omega)] at this
        rw [List.getElem_take]
        simp only [Option.getD_some] at this
        omega)
      have hLl : L.length = len := by
        have := congrArg List.length hL
        rw [ints_len, List.length_take] at this
        omega
      refine ⟨L, blk, hLl, h1, h2, h4, Or.inr ⟨off, rfl, fun j hj => ?_⟩⟩
      have hc := hcell j (by omega)
      rw [Lib.add_plain] at hc
      rw [hc, ← ints_get L j hj]
      have e : (ints L)[j]'(by rw [ints_len]; exact hj) = (zs.take len)[j]'(by rw [List.length_take]; omega) := by simp only [hL]
      rw [e, List.getElem_take, List.getD_eq_getElem?_getD, List.getElem?_eq_getElem (by omega)]
      rfl
  have hks : ∃ ks : List Int, ks.length = m ∧ m ≤ kc ∧ kc ≤ 9223372036854775807 ∧ (ka = none → m = 0) ∧ Kds W ka ks := by
    obtain ⟨fuel, hf⟩ := h2
    rcases open_ints Tryd.underlying53 Tryd.underlying23 cellsFKPackBack hf with ⟨hcs, -⟩ | ⟨a, len', cap', zs, hcs, -, hl, hm, hz, -, hcell, hwz⟩
    · simp [Value.cells] at hcs
      obtain ⟨rfl, rfl, rfl⟩ := hcs
      exact ⟨[], rfl, by omega, by omega, fun _ => rfl, fun j k h => by simp at h⟩
    · simp [Value.cells] at hcs
      obtain ⟨rfl, rfl, rfl⟩ := hcs
      obtain ⟨h1, h2, h3, h4⟩ := okWide_has Tryd.underlying53 (hval 2 53 _ rfl rfl)
      obtain ⟨blk, off, spot⟩ := a
      simp only [] at h3 h4
      subst h3
      have hzl : zs.length = kc := by simpa using hz
      refine ⟨zs.take m, by rw [List.length_take]; omega, h1, h2, (fun h => by cases h), fun j k hj => ⟨blk, off, rfl, ?_⟩⟩
      rw [List.getElem?_take] at hj
      split at hj
      · have hc := hcell j (by omega)
        rw [Lib.add_plain] at hc
        rw [hc, List.getD_eq_getElem?_getD, hj]
        rfl
      · cases hj
  obtain ⟨L, sb, e1, e2, e3, e4, e5⟩ := hsl
  obtain ⟨ks, g1, g2, g3, g4, g5⟩ := hks
  clear hA0 hval0
  refine (packBack_any xs la nx lc x1 L ks sb al len cap ka m kc W hRk e1 g1 e2 e3 e4 e5 g2 g3 g4 g5 x2 x3).mono fun e W' ⟨he, bel⟩ => ?_
  subst he
  exact ⟨_, rfl, _, _, _, [], _, [], hW', trodAll_mk1 (shut_bool Tryd.underlying4 _), (trodAll_cons_mk (Below.trod laidOutPackBack (by kernel_rfl) (of_decide_eq_true (by kernel_rfl)) k0 bel lt0) (trodAll_cons_mk (Below.trod laidOutPackBack (by kernel_rfl) (of_decide_eq_true (by kernel_rfl)) k1 bel lt1) (trodAll_cons_mk (Below.trod laidOutPackBack (by kernel_rfl) (of_decide_eq_true (by kernel_rfl)) k2 bel lt2) trodAll_mk0))), rfl, bel.frame _, fun h => by cases h⟩

theorem packBack_row : Rows.PackBackSaid :=
  OpenClaim.holds_of_wide 6 Tryd.f6 rfl rfl rfl rfl rfl rfl rfl ⟨rfl, rfl, rfl, rfl, rfl⟩ rfl rfl rfl rfl rfl (by kernel_rfl) Tryd.func6 (by kernel_rfl)
    (of_decide_eq_true (by kernel_rfl)) (by unfold Func.isWrapper; first | (rw [if_pos (by decide +kernel)]; kernel_rfl) | (rw [if_neg (by decide +kernel)]; exact ⟨rfl, rfl⟩))
    (fun os started H enc _ => liftedPackBack os started H enc)

theorem packBack_holds : Rows.PackBackCardSaid :=
  Claim7.holds_tied_plain_at .later [] [.data] true (true, "3806e39a975fd2ee82441e85c28a561ed34a6b0f65a65bfaad6c413782b3eec0") true
    packBack_row (fun _ h => by cases h) (by kernel_rfl) (fun _ h => by cases h) packBack_row_tie rfl ⟨rfl, rfl⟩ (by kernel_rfl) rfl
    (fun f fn hf hfn => by
      obtain rfl : f = 6 := Option.some.inj ((show Tryd.prog.funcNamed Rows.packBackRow.func = some 6 by kernel_rfl).symm.trans hf) |>.symm
      obtain rfl : fn = Tryd.f6 := (Option.some.inj (Tryd.func6.symm.trans hfn)).symm
      exact ⟨by kernel_rfl, fun j t ht => by
        rw [Tryd.params6] at ht
        rcases j with _ | _ | _ | j
        · obtain rfl : t = 22 := by simpa using ht.symm
          exact (show Tryd.prog.wantsStandIn 22 = false by kernel_rfl)
        · obtain rfl : t = 25 := by simpa using ht.symm
          exact (show Tryd.prog.wantsStandIn 25 = false by kernel_rfl)
        · obtain rfl : t = 53 := by simpa using ht.symm
          exact (show Tryd.prog.wantsStandIn 53 = false by kernel_rfl)
        · simp at ht⟩)
    (by kernel_rfl)

end Go.Proofs.YtmhcmlegdoapdaaDoor
