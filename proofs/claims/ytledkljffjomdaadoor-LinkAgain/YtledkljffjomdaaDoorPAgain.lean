/- LinkAgain: the tied card: for every peer, row of calls, list, two sides and owner the law returns true (behind Out a record can be put as if there had been none), and each argument reads as it did before; the table of ranks as the text of the program lays it. No other condition. -/
import Derived.Test.YtledkljffjomdaaDoorRows
import Derived.Test.YtledkljffjomdaaDoorCards
import Derived.Test.YtledkljffjomdaaDoorTie
import Derived.Test.YtledkljffjomdaaDoorPA
import Derived.Test.YtledkljffjomdaaDoorPO
import Derived.Test.YtledkljffjomdaaDoorPP
import Derived.Test.YtledkljffjomdaaDoorJI
import Derived.SevenTiedAt
namespace Go.Proofs.YtledkljffjomdaaDoor
open Go.ChangeShapes Go.WideShapes Go.ChangeAt Go.RowKit Go.Joins

theorem ownLinkAgain : ownKnob Tryd.prog.godebug = none := by kernel_rfl
theorem laidOutLinkAgain : laidOutB Tryd.prog = true := by kernel_rfl

set_option maxRecDepth 100000 in
theorem liftedLinkAgain (os : Os) (started : os.Started) (H : Type) (enc : TypeId × Value → H) :
    ReturnsInHanded {} Tryd.checked os 6 .any (fun w args => (Rows.linkAgainSpec.pre enc Tryd.prog Tryd.f6 [] false w args ∧ laidMetH Tryd.prog laid1 w) ∧ sizedMet enc Tryd.prog Tryd.f6 (OpenSpec.ofChange Rows.linkAgainSpec) false w args) (Rows.linkAgainSpec.post enc Tryd.prog Tryd.f6 false true false false) := by
  refine returnsInHanded_of_change_and (C := Tryd.checked) (X := fun w _ => laidMetH Tryd.prog laid1 w) (fun _ _ _ hh h => h.of_heap hh) ownLinkAgain started (by kernel_rfl) Tryd.func6
    (ChangeSpec.witness_shaped (enc := enc) (C := Tryd.checked) (os := os) (X := fun w _ => laidMetH Tryd.prog laid1 w) false (World.doorLaid Tryd.prog 400 os) #[.agg #[.int .i64 0, .int .i64 0, .int .u64 0, .int .i64 0, .int .u64 0], .slice none 0 0, .agg #[.int .i64 0, .int .u64 0], .agg #[.int .i64 0, .int .i64 0, .int .u64 0, .int .i64 0, .int .u64 0], .agg #[.int .i64 0, .int .i64 0, .int .u64 0, .int .i64 0, .int .u64 0], .agg #[.int .i64 0, .int .i64 0]] 8 rfl (World.shaped_of_RefB (by kernel_rfl) (by kernel_rfl)) (by kernel_rfl) (by kernel_rfl) (by kernel_rfl) (door_met1 os _)) ?_
  intro W base args ds gs before hval0 hW _ _ hL _
  have hRk := ranks_of_laid1 hL
  have hval : ∀ (j : Nat) t v, Tryd.f6.params[j]? = some t → args[j]? = some v → Value.okWide Tryd.prog W .any base t v := hval0
  have hW' := hW
  obtain ⟨p, q, hA0, hV, rfl, hfz, hnd⟩ := hW
  have hA : DataW.TrodAll enc Tryd.prog W 0 (fun _ => true) true Tryd.f6.params.toList args.toList ds p := hA0
  rw [Tryd.params6] at hA hval
  obtain ⟨v0, vs0, d0, ds0, p0, q0, hargs, rfl, rfl, h0, r0⟩ := trodAll_cons hA
  obtain ⟨v1, vs1, d1, ds1, p1, q1, rfl, rfl, rfl, h1, r1⟩ := trodAll_cons r0
  obtain ⟨v2, vs2, d2, ds2, p2, q2, rfl, rfl, rfl, h2, r2⟩ := trodAll_cons r1
  obtain ⟨v3, vs3, d3, ds3, p3, q3, rfl, rfl, rfl, h3, r3⟩ := trodAll_cons r2
  obtain ⟨v4, vs4, d4, ds4, p4, q4, rfl, rfl, rfl, h4, r4⟩ := trodAll_cons r3
  obtain ⟨v5, vs5, d5, ds5, p5, q5, rfl, rfl, rfl, h5, r5⟩ := trodAll_cons r4
  obtain ⟨rfl, rfl, rfl⟩ := trodAll_nil r5
  obtain rfl : args = #[v0, v1, v2, v3, v4, v5] := by cases args; simp_all
  obtain ⟨rfl, rfl⟩ := trodVars_none hV
  have k0 := h0
  have lt0 : ∀ x ∈ p0, x.block < W.heap.size := by obtain ⟨m, hm⟩ := k0; exact DataW.trod_lt m _ _ _ hm
  have k1 := h1
  have lt1 : ∀ x ∈ p1, x.block < W.heap.size := by obtain ⟨m, hm⟩ := k1; exact DataW.trod_lt m _ _ _ hm
  have k2 := h2
  have lt2 : ∀ x ∈ p2, x.block < W.heap.size := by obtain ⟨m, hm⟩ := k2; exact DataW.trod_lt m _ _ _ hm
  have k3 := h3
  have lt3 : ∀ x ∈ p3, x.block < W.heap.size := by obtain ⟨m, hm⟩ := k3; exact DataW.trod_lt m _ _ _ hm
  have k4 := h4
  have lt4 : ∀ x ∈ p4, x.block < W.heap.size := by obtain ⟨m, hm⟩ := k4; exact DataW.trod_lt m _ _ _ hm
  have k5 := h5
  have lt5 : ∀ x ∈ p5, x.block < W.heap.size := by obtain ⟨m, hm⟩ := k5; exact DataW.trod_lt m _ _ _ hm
  obtain ⟨cs0, rfl, hsz0⟩ := okWide_struct Tryd.underlying29 (hval 0 29 v0 rfl rfl)
  have hval1 := hval 1 37 v1 rfl rfl
  obtain ⟨cs2, rfl, hsz2⟩ := okWide_struct Tryd.underlying24 (hval 2 24 v2 rfl rfl)
  obtain ⟨cs3, rfl, hsz3⟩ := okWide_struct Tryd.underlying29 (hval 3 29 v3 rfl rfl)
  obtain ⟨cs4, rfl, hsz4⟩ := okWide_struct Tryd.underlying29 (hval 4 29 v4 rfl rfl)
  obtain ⟨cs5, rfl, hsz5⟩ := okWide_struct Tryd.underlying31 (hval 5 31 v5 rfl rfl)
  have walk : Calls Tryd.prog 6 #[.agg cs0, v1, .agg cs2, .agg cs3, .agg cs4, .agg cs5] W fun e w' => e = .returned (.bool true) ∧ Below W.heap.size W w' := by
    obtain ⟨f0, hf0⟩ := h0
    obtain ⟨f1, hf1⟩ := h1
    obtain ⟨me, hcs0, hme⟩ := open_ref hf0
    obtain ⟨v, os, hcs1, hos⟩ := open_ops hf1
    simp only [Value.cells] at hcs0
    have hv1 : v1 = v := by
      have : v1.cells.toList = [v] := hcs1
      obtain ⟨a, len, cap, rfl⟩ := okWide_slice Tryd.underlying37 hval1
      simpa [Value.cells] using this
    subst hv1
    obtain rfl : cs0 = #[.int .i64 me.1, .int .i64 me.2.1, .int .u64 me.2.2.1, .int .i64 me.2.2.2.1, .int .u64 me.2.2.2.2] := by cases cs0; simp_all
    obtain ⟨f2, hf2⟩ := h2
    obtain ⟨f3, hf3⟩ := h3
    obtain ⟨f4, hf4⟩ := h4
    obtain ⟨f5, hf5⟩ := h5
    obtain ⟨u, hcs2, hu⟩ := open_vec hf2
    obtain ⟨a, hcs3, ha⟩ := open_ref hf3
    obtain ⟨b, hcs4, hb⟩ := open_ref hf4
    obtain ⟨o, hcs5⟩ := open_owner hf5
    simp only [Value.cells] at hcs2 hcs3 hcs4 hcs5
    obtain rfl : cs2 = #[.int .i64 u.1, .int .u64 u.2] := by cases cs2; simp_all
    obtain rfl : cs3 = #[.int .i64 a.1, .int .i64 a.2.1, .int .u64 a.2.2.1, .int .i64 a.2.2.2.1, .int .u64 a.2.2.2.2] := by cases cs3; simp_all
    obtain rfl : cs4 = #[.int .i64 b.1, .int .i64 b.2.1, .int .u64 b.2.2.1, .int .i64 b.2.2.2.1, .int .u64 b.2.2.2.2] := by cases cs4; simp_all
    obtain rfl : cs5 = #[.int .i64 o.1, .int .i64 o.2] := by cases cs5; simp_all
    exact linkAgain_walk _ _ _ _ _ v1 os _ _ _ _ _ _ _ _ _ _ _ _ _ _ W hRk hos (okV.pos hme) hu
  clear hA0 hval0
  refine walk.mono fun e W' ⟨he, bel⟩ => ?_
  subst he
  exact ⟨_, rfl, _, _, _, [], _, [], hW', trodAll_mk1 (shut_bool Tryd.underlying4 _), (trodAll_cons_mk (Below.trod laidOutLinkAgain (by kernel_rfl) (of_decide_eq_true (by kernel_rfl)) k0 bel lt0) (trodAll_cons_mk (Below.trod laidOutLinkAgain (by kernel_rfl) (of_decide_eq_true (by kernel_rfl)) k1 bel lt1) (trodAll_cons_mk (Below.trod laidOutLinkAgain (by kernel_rfl) (of_decide_eq_true (by kernel_rfl)) k2 bel lt2) (trodAll_cons_mk (Below.trod laidOutLinkAgain (by kernel_rfl) (of_decide_eq_true (by kernel_rfl)) k3 bel lt3) (trodAll_cons_mk (Below.trod laidOutLinkAgain (by kernel_rfl) (of_decide_eq_true (by kernel_rfl)) k4 bel lt4) (trodAll_cons_mk (Below.trod laidOutLinkAgain (by kernel_rfl) (of_decide_eq_true (by kernel_rfl)) k5 bel lt5) trodAll_mk0)))))), rfl, bel.frame _, fun h => by cases h⟩

theorem linkAgain_row : Rows.LinkAgainSaid :=
  OpenClaim.holds_of_wide 6 Tryd.f6 rfl rfl rfl rfl rfl rfl rfl ⟨rfl, rfl, rfl, rfl, rfl⟩ rfl rfl rfl rfl rfl (by kernel_rfl) Tryd.func6 (by kernel_rfl)
    (of_decide_eq_true (by kernel_rfl)) (by unfold Func.isWrapper; first | (rw [if_pos (by decide +kernel)]; kernel_rfl) | (rw [if_neg (by decide +kernel)]; exact ⟨rfl, rfl⟩))
    (fun os started H enc _ => liftedLinkAgain os started H enc)

theorem linkAgain_holds : Rows.LinkAgainCardSaid :=
  Claim7.holds_tied_plain_at .later [] [.data] true (true, "d1e38381c0acbfec0f1459f95924080efbd0499ccd09dddc510f4ac69d6c6f76") false
    linkAgain_row (fun _ h => by cases h) (by kernel_rfl) (fun _ h => by cases h) linkAgain_row_tie rfl ⟨rfl, rfl⟩ (by kernel_rfl) rfl
    (fun f fn hf hfn => by
      obtain rfl : f = 6 := Option.some.inj ((show Tryd.prog.funcNamed Rows.linkAgainRow.func = some 6 by kernel_rfl).symm.trans hf) |>.symm
      obtain rfl : fn = Tryd.f6 := (Option.some.inj (Tryd.func6.symm.trans hfn)).symm
      exact ⟨by kernel_rfl, fun j t ht => by
        rw [Tryd.params6] at ht
        rcases j with _ | _ | _ | _ | _ | _ | j
        · obtain rfl : t = 29 := by simpa using ht.symm
          exact (show Tryd.prog.wantsStandIn 29 = false by kernel_rfl)
        · obtain rfl : t = 37 := by simpa using ht.symm
          exact (show Tryd.prog.wantsStandIn 37 = false by kernel_rfl)
        · obtain rfl : t = 24 := by simpa using ht.symm
          exact (show Tryd.prog.wantsStandIn 24 = false by kernel_rfl)
        · obtain rfl : t = 29 := by simpa using ht.symm
          exact (show Tryd.prog.wantsStandIn 29 = false by kernel_rfl)
        · obtain rfl : t = 29 := by simpa using ht.symm
          exact (show Tryd.prog.wantsStandIn 29 = false by kernel_rfl)
        · obtain rfl : t = 31 := by simpa using ht.symm
          exact (show Tryd.prog.wantsStandIn 31 = false by kernel_rfl)
        · simp at ht⟩)
    (by kernel_rfl)

end Go.Proofs.YtledkljffjomdaaDoor
