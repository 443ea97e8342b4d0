/- PackOrder: the tied card: for every input that can be read the law returns true, and each argument reads as it did before; the table of ranks (and the tables of the library that the row lists) as the text of the program lays them. -/
import Derived.Test.YtcjkgeanofggdaaDoorRows
import Derived.Test.YtcjkgeanofggdaaDoorCards
import Derived.Test.YtcjkgeanofggdaaDoorTie
import Derived.Test.YtcjkgeanofggdaaDoorQS
import Derived.Test.YtcjkgeanofggdaaDoorPA
import Derived.ShutString
import Derived.ChangeOld
import Derived.Below
import Derived.Lib.SmallJoins
import Derived.SevenTiedAt
namespace Go.Proofs.YtcjkgeanofggdaaDoor
open Go.ChangeShapes Go.WideShapes Go.ChangeAt Go.RowKit Go.Joins
open Go.ChangeMaps (open_string shut_string)

theorem ownPackOrder : ownKnob Tryd.prog.godebug = none := by kernel_rfl
theorem laidOutPackOrder : laidOutB Tryd.prog = true := by kernel_rfl
theorem cellsKeyPackOrder : Tryd.prog.cellsOf 30 = 2 := by kernel_rfl

set_option maxRecDepth 100000 in
theorem liftedPackOrder (os : Os) (started : os.Started) (H : Type) (enc : TypeId × Value → H) :
    ReturnsInHanded {} Tryd.checked os 7 .any (fun w args => (Rows.packOrderSpec.pre enc Tryd.prog Tryd.f7 [] false w args ∧ laidMetH Tryd.prog laid1 w) ∧ sizedMet enc Tryd.prog Tryd.f7 (OpenSpec.ofChange Rows.packOrderSpec) false w args) (Rows.packOrderSpec.post enc Tryd.prog Tryd.f7 false true false false) := by
  refine returnsInHanded_of_change_and (C := Tryd.checked) (X := fun w _ => laidMetH Tryd.prog laid1 w) (fun _ _ _ hh h => h.of_heap hh) ownPackOrder started (by kernel_rfl) Tryd.func7
    (ChangeSpec.witness_shaped (enc := enc) (C := Tryd.checked) (os := os) (X := fun w _ => laidMetH Tryd.prog laid1 w) false (World.doorLaid Tryd.prog 400 os) #[(.agg #[.int .i64 (0), .int .u64 (0)]), (.agg #[.int .i64 (0), .int .u64 (0)])] 8 rfl (World.shaped_of_RefB (by kernel_rfl) (by kernel_rfl)) (by kernel_rfl) (by kernel_rfl) (by kernel_rfl) (door_met1 os _)) ?_
  intro W base args ds gs before hval0 hW _ _ hL _
  have hRk := ranks_of_laid1 hL
  have hval : ∀ (j : Nat) t v, Tryd.f7.params[j]? = some t → args[j]? = some v → Value.okWide Tryd.prog W .any base t v := hval0
  have hW' := hW
  obtain ⟨p, q, hA0, hV, rfl, hfz, hnd⟩ := hW
  have hA : DataW.TrodAll enc Tryd.prog W 0 (fun _ => true) true Tryd.f7.params.toList args.toList ds p := hA0
  rw [Tryd.params7] at hA hval
  obtain ⟨v0, vs0, d0, ds0, p0, q0, hargs, rfl, rfl, h0, r0⟩ := trodAll_cons hA
  obtain ⟨v1, vs1, d1, ds1, p1, q1, rfl, rfl, rfl, h1, r1⟩ := trodAll_cons r0
  obtain ⟨rfl, rfl, rfl⟩ := trodAll_nil r1
  obtain rfl : args = #[v0, v1] := by cases args; simp_all
  obtain ⟨rfl, rfl⟩ := trodVars_none hV
  have k0 := h0
  have lt0 : ∀ x ∈ p0, x.block < W.heap.size := by obtain ⟨m, hm⟩ := k0; exact DataW.trod_lt m _ _ _ hm
  have k1 := h1
  have lt1 : ∀ x ∈ p1, x.block < W.heap.size := by obtain ⟨m, hm⟩ := k1; exact DataW.trod_lt m _ _ _ hm
  obtain ⟨ca0, cb0, ya0, yb0, ma0, rfl, ed0, rfl, hya0, hyb0⟩ := open_agg2 Tryd.underlying30 (by kernel_rfl) cellsKeyPackOrder (hval 0 30 v0 rfl rfl) h0
  obtain ⟨n0, ea0, -, wn0⟩ := DataW.trod_int Tryd.underlying28 hya0
  obtain ⟨b0, eb0, -, wb0⟩ := DataW.trod_int Tryd.underlying24 hyb0
  simp at ea0 eb0
  subst ea0 eb0
  have bb0 := bounds_u64 wb0
  obtain ⟨ca1, cb1, ya1, yb1, ma1, rfl, ed1, rfl, hya1, hyb1⟩ := open_agg2 Tryd.underlying30 (by kernel_rfl) cellsKeyPackOrder (hval 1 30 v1 rfl rfl) h1
  obtain ⟨n1, ea1, -, wn1⟩ := DataW.trod_int Tryd.underlying28 hya1
  obtain ⟨b1, eb1, -, wb1⟩ := DataW.trod_int Tryd.underlying24 hyb1
  simp at ea1 eb1
  subst ea1 eb1
  have bb1 := bounds_u64 wb1
  clear hA0 hval0
  refine (packOrder_any n0 b0 n1 b1 (by omega) (by omega) (by omega) (by omega) W hRk).mono fun e W' ⟨he, bel⟩ => ?_
  subst he
  exact ⟨_, rfl, _, _, _, [], _, [], hW', trodAll_mk1 (shut_bool Tryd.underlying4 _), (trodAll_cons_mk (Below.trod laidOutPackOrder (by kernel_rfl) (of_decide_eq_true (by kernel_rfl)) k0 bel lt0) (trodAll_cons_mk (Below.trod laidOutPackOrder (by kernel_rfl) (of_decide_eq_true (by kernel_rfl)) k1 bel lt1) trodAll_mk0)), rfl, bel.frame _, fun h => by cases h⟩

theorem packOrder_row : Rows.PackOrderSaid :=
  OpenClaim.holds_of_wide 7 Tryd.f7 rfl rfl rfl rfl rfl rfl rfl ⟨rfl, rfl, rfl, rfl, rfl⟩ rfl rfl rfl rfl rfl (by kernel_rfl) Tryd.func7 (by kernel_rfl)
    (of_decide_eq_true (by kernel_rfl)) (by unfold Func.isWrapper; first | (rw [if_pos (by decide +kernel)]; kernel_rfl) | (rw [if_neg (by decide +kernel)]; exact ⟨rfl, rfl⟩))
    (fun os started H enc _ => liftedPackOrder os started H enc)

theorem packOrder_holds : Rows.PackOrderCardSaid :=
  Claim7.holds_tied_plain_at .later [] [.data] true (true, "3806e39a975fd2ee82441e85c28a561ed34a6b0f65a65bfaad6c413782b3eec0") true
    packOrder_row (fun _ h => by cases h) (by kernel_rfl) (fun _ h => by cases h) packOrder_row_tie rfl ⟨rfl, rfl⟩ (by kernel_rfl) rfl
    (fun f fn hf hfn => by
      obtain rfl : f = 7 := Option.some.inj ((show Tryd.prog.funcNamed Rows.packOrderRow.func = some 7 by kernel_rfl).symm.trans hf) |>.symm
      obtain rfl : fn = Tryd.f7 := (Option.some.inj (Tryd.func7.symm.trans hfn)).symm
      exact ⟨by kernel_rfl, fun j t ht => by
        rw [Tryd.params7] at ht
        have h3 : t = 30 := by
          rcases j with _ | _ | j
          · simpa using ht.symm
          · simpa using ht.symm
          · simp at ht
        subst h3
        exact (show Tryd.prog.wantsStandIn 30 = false by kernel_rfl)⟩)
    (by kernel_rfl)

end Go.Proofs.YtcjkgeanofggdaaDoor
