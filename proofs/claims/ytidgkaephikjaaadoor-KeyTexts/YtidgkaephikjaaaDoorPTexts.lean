/- KeyTexts: the tied card: for every input that can be read the law returns true, and each argument reads as it did before; the table of ranks, the tables of the library and the two errors of strconv as the text of the program lays them. -/
import Derived.Test.YtidgkaephikjaaaDoorRows
import Derived.Test.YtidgkaephikjaaaDoorCards
import Derived.Test.YtidgkaephikjaaaDoorTie
import Derived.Test.YtidgkaephikjaaaDoorTH
import Derived.Test.YtidgkaephikjaaaDoorPB
import Derived.ShutString
import Derived.ChangeOld
import Derived.Below
import Derived.Lib.SmallJoins
import Derived.SevenTiedAt
namespace Go.Proofs.YtidgkaephikjaaaDoor
open Go.ChangeShapes Go.WideShapes Go.ChangeAt Go.RowKit Go.Joins
open Go.ChangeMaps (open_string shut_string)

theorem keyTexts_any (r n : Int) (s : ByteArray) (a : Option Addr) (len cap : Nat) (hn0 : 0 ≤ n) (hn : n < 18446744073709551616) (hs : s.size ≤ 9223372036854775807) (hlen : len ≤ cap) (hcap : cap ≤ 9223372036854775807) (w : World)
    (hR : Ranks w ∧ Pows w) (hE : Errs w) (h9 : len = 9 → ∃ g o x, a = some ⟨g, o, none⟩ ∧ Nine w g o x) :
    Calls Tryd.prog 6 #[(.agg #[.int .i64 (r), .int .u64 (n)]), .string s, .slice a len cap] w fun e w' => e = .returned (.bool true) ∧ RowKit.Below w.heap.size w w' := by
  by_cases h : len ≤ 300
  · exact keyTexts_small r n s a len cap hn0 hn hs hlen w hR.1 hR.2 hE h h9
  · exact keyTexts_big r n s a len cap hn0 hn hs hlen hcap w hR.1 hR.2 hE (by omega)

theorem tErrR : (Tryd.prog.globals[3]?).map (·.type) = some 63 := by kernel_rfl
theorem tErrS : (Tryd.prog.globals[2]?).map (·.type) = some 63 := by kernel_rfl
theorem gErrR : Tryd.prog.globalNamed "strconv.ErrRange" = some 3 := by kernel_rfl
theorem gErrS : Tryd.prog.globalNamed "strconv.ErrSyntax" = some 2 := by kernel_rfl

theorem errs_of_laid6 {W : World} (h : laidMetH Tryd.prog laid6 W) : Errs W := by
  rw [MakeChecks.laidMetH_plain _ _ _ (by kernel_rfl)] at h
  obtain ⟨ps, ⟨g0, t0, cs0, f0, p0, q0, hg0, ht0, hv0, hd0, ⟨g1, t1, cs1, f1, p1, q1, hg1, ht1, hv1, hd1, ⟨g2, t2, cs2, f2, p2, q2, hg2, ht2, hv2, hd2, ⟨g3, t3, cs3, f3, p3, q3, hg3, ht3, hv3, hd3, ⟨g4, t4, cs4, f4, p4, q4, hg4, ht4, hv4, hd4, ⟨g5, t5, cs5, f5, p5, q5, hg5, ht5, hv5, hd5, _, _⟩, _⟩, _⟩, _⟩, _⟩, _⟩, _, _⟩ := h
  obtain rfl := Option.some.inj (gErrR.symm.trans hg3)
  obtain rfl := Option.some.inj (tErrR.symm.trans ht3)
  obtain rfl := Option.some.inj (gErrS.symm.trans hg4)
  obtain rfl := Option.some.inj (tErrS.symm.trans ht4)
  have c3 := World.var?_cell gErrR hv3 0
  have c4 := World.var?_cell gErrS hv4 0
  obtain ⟨l3⟩ := cs3
  obtain ⟨l4⟩ := cs4
  obtain ⟨_, u3, v3, e3, -, -⟩ := iface_of_trod Tryd.underlying63 hd3
  obtain ⟨_, u4, v4, e4, -, -⟩ := iface_of_trod Tryd.underlying63 hd4
  simp only [] at e3 e4
  subst e3 e4
  exact ⟨⟨u4, v4, c4⟩, ⟨u3, v3, c3⟩⟩

theorem ownKeyTexts : ownKnob Tryd.prog.godebug = none := by kernel_rfl
theorem laidOutKeyTexts : laidOutB Tryd.prog = true := by kernel_rfl
theorem cellsKeyKeyTexts : Tryd.prog.cellsOf 25 = 2 := by kernel_rfl
theorem cellsU8KeyTexts : Tryd.prog.cellsOf 5 = 1 := by kernel_rfl

set_option maxRecDepth 100000 in
theorem liftedKeyTexts (os : Os) (started : os.Started) (H : Type) (enc : TypeId × Value → H) :
    ReturnsInHanded {} Tryd.checked os 6 .any (fun w args => (Rows.keyTextsSpec.pre enc Tryd.prog Tryd.f6 [] false w args ∧ laidMetH Tryd.prog laid6 w) ∧ sizedMet enc Tryd.prog Tryd.f6 (OpenSpec.ofChange Rows.keyTextsSpec) false w args) (Rows.keyTextsSpec.post enc Tryd.prog Tryd.f6 false true false false) := by
  refine returnsInHanded_of_change_and (C := Tryd.checked) (X := fun w _ => laidMetH Tryd.prog laid6 w) (fun _ _ _ hh h => h.of_heap hh) ownKeyTexts started (by kernel_rfl) Tryd.func6
    (ChangeSpec.witness_shaped (enc := enc) (C := Tryd.checked) (os := os) (X := fun w _ => laidMetH Tryd.prog laid6 w) false (World.doorLaid Tryd.prog 400 os) #[(.agg #[.int .i64 (0), .int .u64 (0)]), .string ⟨#[]⟩, .slice none 0 0] 8 rfl (World.shaped_of_RefB (by kernel_rfl) (by kernel_rfl)) (by kernel_rfl) (by kernel_rfl) (by kernel_rfl) (door_met6 os _)) ?_
  intro W base args ds gs before hval0 hW _ _ hL _
  have hRk := ranks_of_laid6 hL
  have hEr := errs_of_laid6 hL
  have hval : ∀ (j : Nat) t v, Tryd.f6.params[j]? = some t → args[j]? = some v → Value.okWide Tryd.prog W .any base t v := hval0
  have hW' := hW
  obtain ⟨p, q, hA0, hV, rfl, hfz, hnd⟩ := hW
  have hA : DataW.TrodAll enc Tryd.prog W 0 (fun _ => true) true Tryd.f6.params.toList args.toList ds p := hA0
  rw [Tryd.params6] at hA hval
  obtain ⟨v0, vs0, d0, ds0, p0, q0, hargs, rfl, rfl, h0, r0⟩ := trodAll_cons hA
  obtain ⟨v1, vs1, d1, ds1, p1, q1, rfl, rfl, rfl, h1, r1⟩ := trodAll_cons r0
  obtain ⟨v2, vs2, d2, ds2, p2, q2, rfl, rfl, rfl, h2, r2⟩ := trodAll_cons r1
  obtain ⟨rfl, rfl, rfl⟩ := trodAll_nil r2
  obtain rfl : args = #[v0, v1, v2] := by cases args; simp_all
  obtain ⟨rfl, rfl⟩ := trodVars_none hV
  have k0 := h0
  have lt0 : ∀ x ∈ p0, x.block < W.heap.size := by obtain ⟨m, hm⟩ := k0; exact DataW.trod_lt m _ _ _ hm
  have k1 := h1
  have lt1 : ∀ x ∈ p1, x.block < W.heap.size := by obtain ⟨m, hm⟩ := k1; exact DataW.trod_lt m _ _ _ hm
  have k2 := h2
  have lt2 : ∀ x ∈ p2, x.block < W.heap.size := by obtain ⟨m, hm⟩ := k2; exact DataW.trod_lt m _ _ _ hm
  obtain ⟨ca0, cb0, ya0, yb0, ma0, rfl, ed0, rfl, hya0, hyb0⟩ := open_agg2 Tryd.underlying25 (by kernel_rfl) cellsKeyKeyTexts (hval 0 25 v0 rfl rfl) h0
  obtain ⟨n0, ea0, -, wn0⟩ := DataW.trod_int Tryd.underlying22 hya0
  obtain ⟨b0, eb0, -, wb0⟩ := DataW.trod_int Tryd.underlying23 hyb0
  simp at ea0 eb0
  subst ea0 eb0
  have bb0 := bounds_u64 wb0
  obtain ⟨s1, rfl, -, -, hs1⟩ := open_string Tryd.underlying9 (hval 1 9 v1 rfl rfl) h1
  unfold maxLen at hs1
  obtain ⟨al, len, cap, rfl⟩ := okWide_slice Tryd.underlying41 (hval 2 41 v2 rfl rfl)
  have hsl : len ≤ cap ∧ cap ≤ 9223372036854775807 ∧ (len = 9 → ∃ g o x, al = some ⟨g, o, none⟩ ∧ Nine W g o x) := by
    obtain ⟨fuel, hf⟩ := h2
    rcases open_ints Tryd.underlying41 Tryd.underlying5 cellsU8KeyTexts hf with ⟨hcs, -⟩ | ⟨a, len', cap', zs, hcs, -, hl, hm, hz, -, hcell, hwz⟩
    · simp [Value.cells] at hcs
      obtain ⟨rfl, rfl, rfl⟩ := hcs
      exact ⟨by omega, by omega, fun h => by omega⟩
    · simp [Value.cells] at hcs
      obtain ⟨rfl, rfl, rfl⟩ := hcs
      unfold maxLen at hm
      refine ⟨hl, by omega, fun h9 => ?_⟩
      have hzl : zs.length = cap := by simpa using hz
      obtain ⟨b, off, rfl, hc⟩ := ints_at hcell (by omega)
      refine ⟨b, off, fun j => zs.getD j 0, rfl, fun j hj => ⟨hc j (by omega), ?_⟩⟩
      have := range_u8 hwz j
      simp only [List.getD_eq_getElem?_getD]
      omega
  clear hA0 hval0
  refine (keyTexts_any n0 b0 s1 al len cap (by omega) (by omega) (by omega) hsl.1 hsl.2.1 W hRk hEr hsl.2.2).mono fun e W' ⟨he, bel⟩ => ?_
  subst he
  exact ⟨_, rfl, _, _, _, [], _, [], hW', trodAll_mk1 (shut_bool Tryd.underlying4 _), (trodAll_cons_mk (Below.trod laidOutKeyTexts (by kernel_rfl) (of_decide_eq_true (by kernel_rfl)) k0 bel lt0) (trodAll_cons_mk (Below.trod laidOutKeyTexts (by kernel_rfl) (of_decide_eq_true (by kernel_rfl)) k1 bel lt1) (trodAll_cons_mk (Below.trod laidOutKeyTexts (by kernel_rfl) (of_decide_eq_true (by kernel_rfl)) k2 bel lt2) trodAll_mk0))), rfl, bel.frame _, fun h => by cases h⟩

theorem keyTexts_row : Rows.KeyTextsSaid :=
  OpenClaim.holds_of_wide 6 Tryd.f6 rfl rfl rfl rfl rfl rfl rfl ⟨rfl, rfl, rfl, rfl, rfl⟩ rfl rfl rfl rfl rfl (by kernel_rfl) Tryd.func6 (by kernel_rfl)
    (of_decide_eq_true (by kernel_rfl)) (by unfold Func.isWrapper; first | (rw [if_pos (by decide +kernel)]; kernel_rfl) | (rw [if_neg (by decide +kernel)]; exact ⟨rfl, rfl⟩))
    (fun os started H enc _ => liftedKeyTexts os started H enc)

theorem keyTexts_holds : Rows.KeyTextsCardSaid :=
  Claim7.holds_tied_plain_at .later [] [.data, .data, .data, .sentinel, .sentinel, .data] true (true, "3870e5cdb33f646a31d3a581a9945d30416704fcab9d90363a156be40f268ef0") true
    keyTexts_row (fun _ h => by cases h) (by kernel_rfl) (fun _ h => by cases h) keyTexts_row_tie rfl ⟨rfl, rfl⟩ (by kernel_rfl) rfl
    (fun f fn hf hfn => by
      obtain rfl : f = 6 := Option.some.inj ((show Tryd.prog.funcNamed Rows.keyTextsRow.func = some 6 by kernel_rfl).symm.trans hf) |>.symm
      obtain rfl : fn = Tryd.f6 := (Option.some.inj (Tryd.func6.symm.trans hfn)).symm
      exact ⟨by kernel_rfl, fun j t ht => by
        rw [Tryd.params6] at ht
        rcases j with _ | _ | _ | j
        · obtain rfl : t = 25 := by simpa using ht.symm
          exact (show Tryd.prog.wantsStandIn 25 = false by kernel_rfl)
        · obtain rfl : t = 9 := by simpa using ht.symm
          exact (show Tryd.prog.wantsStandIn 9 = false by kernel_rfl)
        · obtain rfl : t = 41 := by simpa using ht.symm
          exact (show Tryd.prog.wantsStandIn 41 = false by kernel_rfl)
        · simp at ht⟩)
    (by kernel_rfl)

end Go.Proofs.YtidgkaephikjaaaDoor
