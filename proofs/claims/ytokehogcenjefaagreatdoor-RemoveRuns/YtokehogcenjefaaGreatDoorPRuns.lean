/- RemoveRuns: whatever any machine of any settings is answered, and whenever it is woken, it wants and ends as the document's; for every input; the table key.ranks as the program's text lays it. -/
import Derived.Test.YtokehogcenjefaaGreatDoorRows
import Derived.Test.YtokehogcenjefaaGreatDoorCards
import Derived.Test.YtokehogcenjefaaGreatDoorTie
import Derived.Test.YtokehogcenjefaaGreatDoorPA
import Derived.Test.YtokehogcenjefaaGreatDoorPO
import Derived.Test.YtokehogcenjefaaGreatDoorBG
import Derived.SevenTiedAt
namespace Go.Proofs.YtokehogcenjefaaGreatDoor
open Go.ChangeShapes Go.WideShapes Go.ChangeAt Go.RowKit Go.Joins

theorem ownRemoveRuns : ownKnob Tryz.prog.godebug = none := by kernel_rfl
theorem laidOutRemoveRuns : laidOutB Tryz.prog = true := by kernel_rfl

set_option maxRecDepth 100000 in
theorem liftedRemoveRuns (os : Os) (started : os.Started) (H : Type) (enc : TypeId × Value → H) :
   ReturnsInHanded {} Tryz.checked os 3 .any (fun w args => (Rows.removeRunsSpec.pre enc Tryz.prog Tryz.f3 [] false w args ∧ laidMetH Tryz.prog laid1 w) ∧ sizedMet enc Tryz.prog Tryz.f3 (OpenSpec.ofChange Rows.removeRunsSpec) false w args) (Rows.removeRunsSpec.post enc Tryz.prog Tryz.f3 false true false false) := by
 refine returnsInHanded_of_change_and (C := Tryz.checked) (X := fun w _ => laidMetH Tryz.prog laid1 w) (fun _ _ _ hh h => h.of_heap hh) ownRemoveRuns started (by kernel_rfl) Tryz.func3
   (ChangeSpec.witness_shaped (enc := enc) (C := Tryz.checked) (os := os) (X := fun w _ => laidMetH Tryz.prog laid1 w) false (World.doorLaid Tryz.prog 400 os) #[.agg #[.int .i64 0, .int .i64 0, .int .i64 0, .int .u64 0, .int .i64 0, .int .u64 0, .int .u64 0, .int .i64 0, .int .i64 0], .slice none 0 0, .int .u64 0] 8 rfl (World.shaped_of_RefB (by kernel_rfl) (by kernel_rfl)) (by kernel_rfl) (by kernel_rfl) (by kernel_rfl) (door_met1 os _)) ?_
 intro W base args ds gs before hval0 hW _ _ hL _
 have hRk := ranks_of_laid1 hL
 have hval : ∀ (j : Nat) t v, Tryz.f3.params[j]? = some t → args[j]? = some v → Value.okWide Tryz.prog W .any base t v := hval0
 have hW' := hW
 obtain ⟨p, q, hA0, hV, rfl, hfz, hnd⟩ := hW
 have hA : DataW.TrodAll enc Tryz.prog W 0 (fun _ => true) true Tryz.f3.params.toList args.toList ds p := hA0
 rw [Tryz.params3] at hA hval
 obtain ⟨v0, vs0, d0, ds0, p0, q0, hargs, rfl, rfl, h0, r0⟩ := trodAll_cons hA
 obtain ⟨v1, vs1, d1, ds1, p1, q1, rfl, rfl, rfl, h1, r1⟩ := trodAll_cons r0
 obtain ⟨v2, vs2, d2, ds2, p2, q2, rfl, rfl, rfl, h2, r2⟩ := trodAll_cons r1
 obtain ⟨rfl, rfl, rfl⟩ := trodAll_nil r2
 obtain rfl : args = #[v0, v1, v2] := by cases args; simp_all
 obtain ⟨rfl, rfl⟩ := trodVars_none hV
 have k0 := h0
 have lt0 : ∀ x ∈ p0, x.block < W.heap.size := by obtain ⟨m, hm⟩ := k0; exact DataW.trod_lt m _ _ _ hm
 have k1 := h1
 have lt1 : ∀ x ∈ p1, x.block < W.heap.size := by obtain ⟨m, hm⟩ := k1; exact DataW.trod_lt m _ _ _ hm
 have k2 := h2
 have lt2 : ∀ x ∈ p2, x.block < W.heap.size := by obtain ⟨m, hm⟩ := k2; exact DataW.trod_lt m _ _ _ hm
 obtain ⟨cs0, rfl, hsz0⟩ := okWide_struct Tryz.underlying33 (hval 0 33 v0 rfl rfl)
 obtain ⟨a1, len1, cap1, rfl⟩ := okWide_slice Tryz.underlying34 (hval 1 34 v1 rfl rfl)
 have walk : Calls Tryz.prog 3 #[.agg cs0, .slice a1 len1 cap1, v2] W fun e w' => e = .returned (.bool true) ∧ Below W.heap.size W w' := by
   obtain ⟨fuel0, hf0⟩ := h0
   obtain ⟨x0, s0, k0_, oa0, oo0, hc0, hb0, hi0⟩ := open_conf hf0
   simp only [Value.cells] at hc0
   obtain rfl : cs0 = (rcL x0 s0 k0_ oa0 oo0).toArray := by cases cs0; simp_all
   obtain ⟨fuel1, hf1⟩ := h1
   simp only [Value.cells] at hf1
   obtain ⟨l1, hs1, ho1⟩ := open_answers hf1 (fun ad he => by subst he; exact okWide_has Tryz.underlying34 (hval 1 34 _ rfl rfl))
   obtain ⟨m2, hv2, -, -, hw2⟩ := open_int Tryz.underlying23 (hval 2 23 v2 rfl rfl) h2
   rw [hv2]
   exact rruns_any x0 s0 k0_ oa0 oo0 _ l1 m2 hb0 hi0 ho1 W hRk hs1
 clear hA0 hval0
 refine walk.mono fun e W' ⟨he, bel⟩ => ?_
 subst he
 exact ⟨_, rfl, _, _, _, [], _, [], hW', trodAll_mk1 (shut_bool Tryz.underlying4 _), (trodAll_cons_mk (Below.trod laidOutRemoveRuns (by kernel_rfl) (of_decide_eq_true (by kernel_rfl)) k0 bel lt0) (trodAll_cons_mk (Below.trod laidOutRemoveRuns (by kernel_rfl) (of_decide_eq_true (by kernel_rfl)) k1 bel lt1) (trodAll_cons_mk (Below.trod laidOutRemoveRuns (by kernel_rfl) (of_decide_eq_true (by kernel_rfl)) k2 bel lt2) trodAll_mk0))), rfl, bel.frame _, fun h => by cases h⟩

theorem removeRuns_row : Rows.RemoveRunsSaid :=
 OpenClaim.holds_of_wide 3 Tryz.f3 rfl rfl rfl rfl rfl rfl rfl ⟨rfl, rfl, rfl, rfl, rfl⟩ rfl rfl rfl rfl rfl (by kernel_rfl) Tryz.func3 (by kernel_rfl)
   (of_decide_eq_true (by kernel_rfl)) (by unfold Func.isWrapper; first | (rw [if_pos (by decide +kernel)]; kernel_rfl) | (rw [if_neg (by decide +kernel)]; exact ⟨rfl, rfl⟩))
   (fun os started H enc _ => liftedRemoveRuns os started H enc)

theorem removeRuns_holds : Rows.RemoveRunsCardSaid :=
 Claim7.holds_tied_plain_at .later [] [.data] true (true, "b9aaace8167a18a3ec152f56a872797d019763781ba5ef655f55ffa0350c3d87") false
   removeRuns_row (fun _ h => by cases h) (by kernel_rfl) (fun _ h => by cases h) removeRuns_row_tie rfl ⟨rfl, rfl⟩ (by kernel_rfl) rfl
   (fun f fn hf hfn => by
     obtain rfl : f = 3 := Option.some.inj ((show Tryz.prog.funcNamed Rows.removeRunsRow.func = some 3 by kernel_rfl).symm.trans hf) |>.symm
     obtain rfl : fn = Tryz.f3 := (Option.some.inj (Tryz.func3.symm.trans hfn)).symm
     exact ⟨by kernel_rfl, fun j t ht => by
       rw [Tryz.params3] at ht
       rcases j with _ | _ | _ | j
       · obtain rfl : t = 33 := by simpa using ht.symm
         exact (show Tryz.prog.wantsStandIn 33 = false by kernel_rfl)
       · obtain rfl : t = 34 := by simpa using ht.symm
         exact (show Tryz.prog.wantsStandIn 34 = false by kernel_rfl)
       · obtain rfl : t = 23 := by simpa using ht.symm
         exact (show Tryz.prog.wantsStandIn 23 = false by kernel_rfl)
       · simp at ht⟩)
   (by kernel_rfl)

end Go.Proofs.YtokehogcenjefaaGreatDoor
