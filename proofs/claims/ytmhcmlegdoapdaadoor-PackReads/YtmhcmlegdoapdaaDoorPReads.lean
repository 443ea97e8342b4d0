/- PackReads: the tied card: for every input that can be read the law returns true, and each argument reads as it did before; the table of ranks (and the tables of the library that the row lists) as the text of the program lays them. -/
import Derived.Test.YtmhcmlegdoapdaaDoorRows
import Derived.Test.YtmhcmlegdoapdaaDoorCards
import Derived.Test.YtmhcmlegdoapdaaDoorTie
import Derived.Test.YtmhcmlegdoapdaaDoorWE
import Derived.Test.YtmhcmlegdoapdaaDoorPA
import Derived.ShutString
import Derived.ChangeOld
import Derived.Below
import Derived.Lib.SmallJoins
import Derived.SevenTiedAt
namespace Go.Proofs.YtmhcmlegdoapdaaDoor
open Go.ChangeShapes Go.WideShapes Go.ChangeAt Go.RowKit Go.Joins
open Go.ChangeMaps (open_string shut_string)

theorem ownPackReads : ownKnob Tryd.prog.godebug = none := by kernel_rfl
theorem laidOutPackReads : laidOutB Tryd.prog = true := by kernel_rfl
theorem cellsU8PackReads : Tryd.prog.cellsOf 5 = 1 := by kernel_rfl
theorem cellsFKPackReads : Tryd.prog.cellsOf 23 = 1 := by kernel_rfl

set_option maxRecDepth 100000 in
theorem liftedPackReads (os : Os) (started : os.Started) (H : Type) (enc : TypeId × Value → H) :
    ReturnsInHanded {} Tryd.checked os 5 .any (fun w args => (Rows.packReadsSpec.pre enc Tryd.prog Tryd.f5 [] false w args ∧ laidMetH Tryd.prog laid1 w) ∧ sizedMet enc Tryd.prog Tryd.f5 (OpenSpec.ofChange Rows.packReadsSpec) false w args) (Rows.packReadsSpec.post enc Tryd.prog Tryd.f5 false true false false) := by
  refine returnsInHanded_of_change_and (C := Tryd.checked) (X := fun w _ => laidMetH Tryd.prog laid1 w) (fun _ _ _ hh h => h.of_heap hh) ownPackReads started (by kernel_rfl) Tryd.func5
    (ChangeSpec.witness_shaped (enc := enc) (C := Tryd.checked) (os := os) (X := fun w _ => laidMetH Tryd.prog laid1 w) false (World.doorLaid Tryd.prog 400 os) #[.slice none 0 0, .slice none 0 0] 8 rfl (World.shaped_of_RefB (by kernel_rfl) (by kernel_rfl)) (by kernel_rfl) (by kernel_rfl) (by kernel_rfl) (door_met1 os _)) ?_
  intro W base args ds gs before hval0 hW _ _ hL _
  have hRk := ranks_of_laid1 hL
  have hval : ∀ (j : Nat) t v, Tryd.f5.params[j]? = some t → args[j]? = some v → Value.okWide Tryd.prog W .any base t v := hval0
  have hW' := hW
  obtain ⟨p, q, hA0, hV, rfl, hfz, hnd⟩ := hW
  have hA : DataW.TrodAll enc Tryd.prog W 0 (fun _ => true) true Tryd.f5.params.toList args.toList ds p := hA0
  rw [Tryd.params5] at hA hval
  obtain ⟨v0, vs0, d0, ds0, p0, q0, hargs, rfl, rfl, h0, r0⟩ := trodAll_cons hA
  obtain ⟨v1, vs1, d1, ds1, p1, q1, rfl, rfl, rfl, h1, r1⟩ := trodAll_cons r0
  obtain ⟨rfl, rfl, rfl⟩ := trodAll_nil r1
  obtain rfl : args = #[v0, v1] := by cases args; simp_all
  obtain ⟨rfl, rfl⟩ := trodVars_none hV
  have k0 := h0
  have lt0 : ∀ x ∈ p0, x.block < W.heap.size := by obtain ⟨m, hm⟩ := k0; exact DataW.trod_lt m _ _ _ hm
  have k1 := h1
  have lt1 : ∀ x ∈ p1, x.block < W.heap.size := by obtain ⟨m, hm⟩ := k1; exact DataW.trod_lt m _ _ _ hm
  obtain ⟨al, len, cap, rfl⟩ := okWide_slice Tryd.underlying25 (hval 0 25 v0 rfl rfl)
  obtain ⟨ka, m, kc, rfl⟩ := okWide_slice Tryd.underlying53 (hval 1 53 v1 rfl rfl)
  have hsl : ∃ (L : List UInt8) (sb : Nat), L.length = len ∧ len ≤ cap ∧ cap ≤ 9223372036854775807 ∧ sb < W.heap.size ∧ ((al = none ∧ L = [] ∧ cap = 0) ∨ ∃ o, al = some ⟨sb, o, none⟩ ∧ ∀ j (hj : j < L.length), W.cell? ⟨sb, o + j, none⟩ = some (.int .u8 (L[j].toNat : Int))) := by
    obtain ⟨fuel, hf⟩ := h0
    rcases open_ints Tryd.underlying25 Tryd.underlying5 cellsU8PackReads hf with ⟨hcs, -⟩ | ⟨a, len', cap', zs, hcs, -, hl, hm, hz, -, hcell, hwz⟩
    · simp [Value.cells] at hcs
      obtain ⟨rfl, rfl, rfl⟩ := hcs
      exact ⟨[], 0, rfl, by omega, by omega, lt_of_cell hRk.1, Or.inl ⟨rfl, rfl, rfl⟩⟩
    · simp [Value.cells] at hcs
      obtain ⟨rfl, rfl, rfl⟩ := hcs
      obtain ⟨h1, h2, h3, h4⟩ := okWide_has Tryd.underlying25 (hval 0 25 _ rfl rfl)
      obtain ⟨blk, off, spot⟩ := a
      simp only [] at h3 h4
      subst h3
      have hzl : zs.length = cap := by simpa using hz
      have hb := range_u8 hwz
      obtain ⟨L, hL⟩ := ints_of (zs.take len) (fun c hc => by
        obtain ⟨j, hj, rfl⟩ := List.getElem_of_mem hc
        rw [List.length_take] at hj
        have := hb j
        rw [List.getElem?_eq_getElem (by omega)] at this
        rw [List.getElem_take]
        simp only [Option.getD_some] at this
        omega)
      have hLl : L.length = len := by
        have := congrArg List.length hL
        rw [ints_len, List.length_take] at this
        omega
      refine ⟨L, blk, hLl, h1, h2, h4, Or.inr ⟨off, rfl, fun j hj => ?_⟩⟩
      have hc := hcell j (by omega)
      rw [Lib.add_plain] at hc
      rw [hc, ← ints_get L j hj]
      have e : (ints L)[j]'(by rw [ints_len]; exact hj) = (zs.take len)[j]'(by rw [List.length_take]; omega) := by simp only [hL]
      rw [e, List.getElem_take, List.getD_eq_getElem?_getD, List.getElem?_eq_getElem (by omega)]
      rfl
  have hks : ∃ ks : List Int, ks.length = m ∧ m ≤ kc ∧ kc ≤ 9223372036854775807 ∧ (ka = none → m = 0) ∧ Kds W ka ks := by
    obtain ⟨fuel, hf⟩ := h1
    rcases open_ints Tryd.underlying53 Tryd.underlying23 cellsFKPackReads hf with ⟨hcs, -⟩ | ⟨a, len', cap', zs, hcs, -, hl, hm, hz, -, hcell, hwz⟩
    · simp [Value.cells] at hcs
      obtain ⟨rfl, rfl, rfl⟩ := hcs
      exact ⟨[], rfl, by omega, by omega, fun _ => rfl, fun j k h => by simp at h⟩
    · simp [Value.cells] at hcs
      obtain ⟨rfl, rfl, rfl⟩ := hcs
      obtain ⟨h1, h2, h3, h4⟩ := okWide_has Tryd.underlying53 (hval 1 53 _ rfl rfl)
      obtain ⟨blk, off, spot⟩ := a
      simp only [] at h3 h4
      subst h3
      have hzl : zs.length = kc := by simpa using hz
      refine ⟨zs.take m, by rw [List.length_take]; omega, h1, h2, (fun h => by cases h), fun j k hj => ⟨blk, off, rfl, ?_⟩⟩
      rw [List.getElem?_take] at hj
      split at hj
      · have hc := hcell j (by omega)
        rw [Lib.add_plain] at hc
        rw [hc, List.getD_eq_getElem?_getD, hj]
        rfl
      · cases hj
  obtain ⟨L, sb, e1, e2, e3, e4, e5⟩ := hsl
  obtain ⟨ks, g1, g2, g3, g4, g5⟩ := hks
  clear hA0 hval0
  refine (packReads_any L ks sb al len cap ka m kc W hRk e1 g1 e2 e3 e4 e5 g2 g3 g4 g5).mono fun e W' ⟨he, bel⟩ => ?_
  subst he
  exact ⟨_, rfl, _, _, _, [], _, [], hW', trodAll_mk1 (shut_bool Tryd.underlying4 _), (trodAll_cons_mk (Below.trod laidOutPackReads (by kernel_rfl) (of_decide_eq_true (by kernel_rfl)) k0 bel lt0) (trodAll_cons_mk (Below.trod laidOutPackReads (by kernel_rfl) (of_decide_eq_true (by kernel_rfl)) k1 bel lt1) trodAll_mk0)), rfl, bel.frame _, fun h => by cases h⟩

theorem packReads_row : Rows.PackReadsSaid :=
  OpenClaim.holds_of_wide 5 Tryd.f5 rfl rfl rfl rfl rfl rfl rfl ⟨rfl, rfl, rfl, rfl, rfl⟩ rfl rfl rfl rfl rfl (by kernel_rfl) Tryd.func5 (by kernel_rfl)
    (of_decide_eq_true (by kernel_rfl)) (by unfold Func.isWrapper; first | (rw [if_pos (by decide +kernel)]; kernel_rfl) | (rw [if_neg (by decide +kernel)]; exact ⟨rfl, rfl⟩))
    (fun os started H enc _ => liftedPackReads os started H enc)

theorem packReads_holds : Rows.PackReadsCardSaid :=
  Claim7.holds_tied_plain_at .later [] [.data] true (true, "3806e39a975fd2ee82441e85c28a561ed34a6b0f65a65bfaad6c413782b3eec0") true
    packReads_row (fun _ h => by cases h) (by kernel_rfl) (fun _ h => by cases h) packReads_row_tie rfl ⟨rfl, rfl⟩ (by kernel_rfl) rfl
    (fun f fn hf hfn => by
      obtain rfl : f = 5 := Option.some.inj ((show Tryd.prog.funcNamed Rows.packReadsRow.func = some 5 by kernel_rfl).symm.trans hf) |>.symm
      obtain rfl : fn = Tryd.f5 := (Option.some.inj (Tryd.func5.symm.trans hfn)).symm
      exact ⟨by kernel_rfl, fun j t ht => by
        rw [Tryd.params5] at ht
        rcases j with _ | _ | j
        · obtain rfl : t = 25 := by simpa using ht.symm
          exact (show Tryd.prog.wantsStandIn 25 = false by kernel_rfl)
        · obtain rfl : t = 53 := by simpa using ht.symm
          exact (show Tryd.prog.wantsStandIn 53 = false by kernel_rfl)
        · simp at ht⟩)
    (by kernel_rfl)

end Go.Proofs.YtmhcmlegdoapdaaDoor
