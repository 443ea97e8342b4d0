/- VecOrder: the statement: for every input that can be read the law returns true, and each argument reads as it did before. -/
import Derived.Test.YtdjlmmgnknfkfabRows
import Derived.Test.YtdjlmmgnknfkfabLOrder
import Derived.ProofKit
import Derived.OpenShut
import Derived.ShutString
import Derived.ChangeOld
import Derived.Below
import Derived.Lib.SmallJoins
namespace Go.Proofs.Ytdjlmmgnknfkfab
open Go.ChangeShapes Go.WideShapes Go.ChangeAt Go.RowKit Go.Joins
open Go.ChangeMaps (open_string shut_string)

theorem ownVecOrder : ownKnob Try.prog.godebug = none := by kernel_rfl
theorem laidOutVecOrder : laidOutB Try.prog = true := by kernel_rfl
theorem cellsVecVecOrder : Try.prog.cellsOf 24 = 2 := by kernel_rfl

set_option maxRecDepth 100000 in
theorem liftedVecOrder (os : Os) (started : os.Started) (H : Type) (enc : TypeId × Value → H) :
    ReturnsInHanded {} Try.checked os 3 .any (Rows.vecOrderSpec.pre6 enc Try.prog Try.f3 Rows.vecOrderRow.domain false) (Rows.vecOrderSpec.post enc Try.prog Try.f3 false true false false) := by
  refine returnsInHanded_of_change (C := Try.checked) ownVecOrder started (by kernel_rfl) Try.func3
    (ChangeSpec.witness6 (enc := enc) (C := Try.checked) false ⟨#[], #[(.agg #[.int .i64 (0), .int .u64 (0)]), (.agg #[.int .i64 (0), .int .u64 (0)]), (.agg #[.int .i64 (0), .int .u64 (0)])], []⟩ 8 (by kernel_rfl) (by kernel_rfl) (by kernel_rfl) (by kernel_rfl)) ?_
  intro W base args ds gs before hval0 hW hcnd _
  have hval : ∀ (j : Nat) t v, Try.f3.params[j]? = some t → args[j]? = some v → Value.okWide Try.prog W .any base t v := hval0
  have hW' := hW
  obtain ⟨p, q, hA0, hV, rfl, hfz, hnd⟩ := hW
  have hA : DataW.TrodAll enc Try.prog W 0 (fun _ => true) true Try.f3.params.toList args.toList ds p := hA0
  rw [Try.params3] at hA hval
  obtain ⟨v0, vs0, d0, ds0, p0, q0, hargs, rfl, rfl, h0, r0⟩ := trodAll_cons hA
  obtain ⟨v1, vs1, d1, ds1, p1, q1, rfl, rfl, rfl, h1, r1⟩ := trodAll_cons r0
  obtain ⟨v2, vs2, d2, ds2, p2, q2, rfl, rfl, rfl, h2, r2⟩ := trodAll_cons r1
  obtain ⟨rfl, rfl, rfl⟩ := trodAll_nil r2
  obtain rfl : args = #[v0, v1, v2] := by cases args; simp_all
  obtain ⟨rfl, rfl⟩ := trodVars_none hV
  have k0 := h0
  have lt0 : ∀ x ∈ p0, x.block < W.heap.size := by obtain ⟨m, hm⟩ := k0; exact DataW.trod_lt m _ _ _ hm
  have k1 := h1
  have lt1 : ∀ x ∈ p1, x.block < W.heap.size := by obtain ⟨m, hm⟩ := k1; exact DataW.trod_lt m _ _ _ hm
  have k2 := h2
  have lt2 : ∀ x ∈ p2, x.block < W.heap.size := by obtain ⟨m, hm⟩ := k2; exact DataW.trod_lt m _ _ _ hm
  obtain ⟨ca0, cb0, ya0, yb0, ma0, rfl, ed0, rfl, hya0, hyb0⟩ := open_agg2 Try.underlying24 (by kernel_rfl) cellsVecVecOrder (hval 0 24 v0 rfl rfl) h0
  obtain ⟨n0, ea0, -, wn0⟩ := DataW.trod_int Try.underlying3 hya0
  obtain ⟨b0, eb0, -, wb0⟩ := DataW.trod_int Try.underlying22 hyb0
  simp at ea0 eb0
  subst ea0 eb0
  have bb0 := bounds_u64 wb0
  have bn0 := bounds_i64 wn0
  obtain ⟨ca1, cb1, ya1, yb1, ma1, rfl, ed1, rfl, hya1, hyb1⟩ := open_agg2 Try.underlying24 (by kernel_rfl) cellsVecVecOrder (hval 1 24 v1 rfl rfl) h1
  obtain ⟨n1, ea1, -, wn1⟩ := DataW.trod_int Try.underlying3 hya1
  obtain ⟨b1, eb1, -, wb1⟩ := DataW.trod_int Try.underlying22 hyb1
  simp at ea1 eb1
  subst ea1 eb1
  have bb1 := bounds_u64 wb1
  have bn1 := bounds_i64 wn1
  obtain ⟨ca2, cb2, ya2, yb2, ma2, rfl, ed2, rfl, hya2, hyb2⟩ := open_agg2 Try.underlying24 (by kernel_rfl) cellsVecVecOrder (hval 2 24 v2 rfl rfl) h2
  obtain ⟨n2, ea2, -, wn2⟩ := DataW.trod_int Try.underlying3 hya2
  obtain ⟨b2, eb2, -, wb2⟩ := DataW.trod_int Try.underlying22 hyb2
  simp at ea2 eb2
  subst ea2 eb2
  have bb2 := bounds_u64 wb2
  have bn2 := bounds_i64 wn2
  clear hA0 hval0
  refine (vecOrder_any n0 b0 n1 b1 n2 b2 (by omega) (by omega) (by omega) (by omega) (by omega) (by omega) W).mono fun e W' ⟨he, bel⟩ => ?_
  subst he
  exact ⟨_, rfl, _, _, _, [], _, [], hW', trodAll_mk1 (shut_bool Try.underlying4 _), (trodAll_cons_mk (Below.trod laidOutVecOrder (by kernel_rfl) (of_decide_eq_true (by kernel_rfl)) k0 bel lt0) (trodAll_cons_mk (Below.trod laidOutVecOrder (by kernel_rfl) (of_decide_eq_true (by kernel_rfl)) k1 bel lt1) (trodAll_cons_mk (Below.trod laidOutVecOrder (by kernel_rfl) (of_decide_eq_true (by kernel_rfl)) k2 bel lt2) trodAll_mk0))), rfl, bel.frame _, fun h => by cases h⟩

theorem vecOrder_holds : Rows.VecOrderSaid :=
  OpenClaim.holds_of_wide 3 Try.f3 rfl rfl rfl rfl rfl rfl rfl ⟨rfl, rfl, rfl, rfl, rfl⟩ rfl rfl rfl rfl rfl (by kernel_rfl) Try.func3 (by kernel_rfl)
    (of_decide_eq_true (by kernel_rfl)) (by unfold Func.isWrapper; first | (rw [if_pos (by decide +kernel)]; kernel_rfl) | (rw [if_neg (by decide +kernel)]; exact ⟨rfl, rfl⟩))
    (fun os started H enc _ => liftedVecOrder os started H enc)

end Go.Proofs.Ytdjlmmgnknfkfab
