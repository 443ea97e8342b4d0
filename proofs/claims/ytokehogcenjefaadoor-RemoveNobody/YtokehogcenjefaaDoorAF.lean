/- A removal that nobody made tells nothing. -/
import Derived.Test.YtokehogcenjefaaDoorAE
import Derived.Test.YtokehogcenjefaaDoorST
namespace Go.Proofs.YtokehogcenjefaaDoor
open Go.RowKit Go.Maps Go.ChangeMaps

def rN : Rm := ⟨0, 0, 0, zr, false, 0, 0, 0⟩

set_option maxHeartbeats 8000000 in
set_option maxRecDepth 100000 in
theorem rnobody_any (a : An) (w : World) (hR : Ranks w) : Calls Tryd.prog 4 #[.agg (anL a).toArray] w fun e w' => e = .returned (.bool true) ∧ Below w.heap.size w w' := by
  have b3 := ((gb1 w (.cells (anL a).toArray 55)).trans ((gb1 (w.alloc (.cells (anL a).toArray 55)) (.cells #[.int .i64 0, .int .i64 0, .int .i64 0, .nilIface, .int .i64 0, .int .i64 0, .int .u64 0, .int .i64 0, .int .u64 0, .bool false, .int .i64 0, .int .u64 0, .int .i64 0] 63)).mono (by simp))).trans ((gb1 ((w.alloc (.cells (anL a).toArray 55)).alloc (.cells #[.int .i64 0, .int .i64 0, .int .i64 0, .nilIface, .int .i64 0, .int .i64 0, .int .u64 0, .int .i64 0, .int .u64 0, .bool false, .int .i64 0, .int .u64 0, .int .i64 0] 63)) (.cells #[.pointer none, .pointer (some ⟨w.heap.size + 1, 0, none⟩)] 36)).mono (by simp; omega))
  have IA : Hid (IsB (((w.alloc (.cells (anL a).toArray 55)).alloc (.cells #[.int .i64 0, .int .i64 0, .int .i64 0, .nilIface, .int .i64 0, .int .i64 0, .int .u64 0, .int .i64 0, .int .u64 0, .bool false, .int .i64 0, .int .u64 0, .int .i64 0] 63)).alloc (.cells #[.pointer none, .pointer (some ⟨w.heap.size + 1, 0, none⟩)] 36)) w.heap.size (anL a).toArray 55) := ((IsB.new w _ _).below (gb1 _ _)).below (gb1 _ _)
  have IZ : Hid (IsB (((w.alloc (.cells (anL a).toArray 55)).alloc (.cells #[.int .i64 0, .int .i64 0, .int .i64 0, .nilIface, .int .i64 0, .int .i64 0, .int .u64 0, .int .i64 0, .int .u64 0, .bool false, .int .i64 0, .int .u64 0, .int .i64 0] 63)).alloc (.cells #[.pointer none, .pointer (some ⟨w.heap.size + 1, 0, none⟩)] 36)) (w.heap.size + 1) (rmL rN .nilIface).toArray 63) := by
    have h7 := (IsB.new (w.alloc (.cells (anL a).toArray 55)) (rmL rN .nilIface).toArray 63).below (gb1 _ (.cells #[.pointer none, .pointer (some ⟨w.heap.size + 1, 0, none⟩)] 36))
    rw [World.size_alloc] at h7
    exact h7
  have IG : Hid (IsB (((w.alloc (.cells (anL a).toArray 55)).alloc (.cells #[.int .i64 0, .int .i64 0, .int .i64 0, .nilIface, .int .i64 0, .int .i64 0, .int .u64 0, .int .i64 0, .int .u64 0, .bool false, .int .i64 0, .int .u64 0, .int .i64 0] 63)).alloc (.cells #[.pointer none, .pointer (some ⟨w.heap.size + 1, 0, none⟩)] 36)) (w.heap.size + 1 + 1) #[.pointer none, .pointer (some ⟨w.heap.size + 1, 0, none⟩)] 36) := by
    have h7 := IsB.new ((w.alloc (.cells (anL a).toArray 55)).alloc (.cells #[.int .i64 0, .int .i64 0, .int .i64 0, .nilIface, .int .i64 0, .int .i64 0, .int .u64 0, .int .i64 0, .int .u64 0, .bool false, .int .i64 0, .int .u64 0, .int .i64 0] 63)) #[.pointer none, .pointer (some ⟨w.heap.size + 1, 0, none⟩)] 36
    rw [World.size_alloc, World.size_alloc] at h7
    exact h7
  have HR := hide (hR.below b3)
  have B := hide b3
  clear b3 hR
  go_enter Tryd.func4, Tryd.ntmps4
  go_wp2_with fail
  generalize (((w.alloc (.cells (anL a).toArray 55)).alloc (.cells #[.int .i64 0, .int .i64 0, .int .i64 0, .nilIface, .int .i64 0, .int .i64 0, .int .u64 0, .int .i64 0, .int .u64 0, .bool false, .int .i64 0, .int .u64 0, .int .i64 0] 63)).alloc (.cells #[.pointer none, .pointer (some ⟨w.heap.size + 1, 0, none⟩)] 36)) = WG at *
  obtain ⟨A, hA⟩ : ∃ A, w.heap.size = A := ⟨_, rfl⟩
  rw [hA] at IA IZ IG ⊢
  replace hA := hide hA
  go_loopw [11] (fun v11 wr => ∃ j : Nat, j ≤ 2 ∧ v11 = .int .i64 (j : Int) ∧ Hid (IsB wr A (anL a).toArray 55) ∧ Hid (IsB wr (A + 1) (rmL rN .nilIface).toArray 63) ∧ Hid (IsB wr (A + 1 + 1) #[.pointer none, .pointer (some ⟨A + 1, 0, none⟩)] 36) ∧ Hid (Ranks wr) ∧ Hid (Below w.heap.size w wr)) (fun v11 _ => 2 - (intOf v11).toNat)
  case atStart => exact ⟨0, by omega, rfl, IA, IZ, IG, HR, B⟩
  case round =>
    clear IA IZ IG HR B
    obtain ⟨j, hj, rfl, IA, IZ, IG, HR, B⟩ := hrel
    have hcase : j = 0 ∨ j = 1 ∨ j = 2 := by omega
    rcases hcase with rfl | rfl | rfl
    · have g0 : wr.cell? ⟨A + 1 + 1, 0, none⟩ = some (.pointer none) := IG.out.cell 0
      have LA := hide (ld_ans IA.out)
      go_wp2_with (first | (focus ((with_reducible refine wpList_load_w ?_ 55 (.tmp 1) ?_ ?_ LA.out ?_); rotate_left; rfl; rfl; rotate_left; rfl)))
      refine (rtell_nil a wr).mono ?_
      rintro e w1 ⟨rfl, hb⟩
      replace IA := hide (IA.out.below hb)
      replace IZ := hide (IZ.out.below hb)
      replace IG := hide (IG.out.below hb)
      replace HR := hide (HR.out.below hb)
      replace B := hide (B.out.trans (hb.mono B.out.size))
      clear hb g0 LA
      go_wp2_with fail
      refine (rwake_nil w1).mono ?_
      rintro e w2 ⟨rfl, hw⟩
      rw [hw]
      clear hw w2
      go_wp2_with fail
      refine (rnext_nil w1).mono ?_
      rintro e w3 ⟨rfl, hb⟩
      replace IA := hide (IA.out.below hb)
      replace IZ := hide (IZ.out.below hb)
      replace IG := hide (IG.out.below hb)
      replace HR := hide (HR.out.below hb)
      replace B := hide (B.out.trans (hb.mono B.out.size))
      clear hb
      go_wp2_with fail
      refine (sameStep0 w3).mono ?_
      rintro e w4 ⟨rfl, hb⟩
      replace IA := hide (IA.out.below hb)
      replace IZ := hide (IZ.out.below hb)
      replace IG := hide (IG.out.below hb)
      replace HR := hide (HR.out.below hb)
      replace B := hide (B.out.trans (hb.mono B.out.size))
      clear hb
      go_wp2_with fail
      refine (marked_nil w4).mono ?_
      rintro e w5 ⟨rfl, hw⟩
      rw [hw]
      clear hw w5
      go_wp2
      exact ⟨⟨1, by omega, rfl, IA, IZ, IG, HR, B⟩, by simp [intOf]⟩
    · have g0 : wr.cell? ⟨A + 1 + 1, 1, none⟩ = some (.pointer (some ⟨A + 1, 0, none⟩)) := IG.out.cell 1
      have LA := hide (ld_ans IA.out)
      go_wp2_with (first | (focus ((with_reducible refine wpList_load_w ?_ 55 (.tmp 1) ?_ ?_ LA.out ?_); rotate_left; rfl; rfl; rotate_left; rfl)))
      refine (rtell_idle (A + 1) rN .nilIface a (Or.inl rfl) wr IZ.out).mono ?_
      rintro e w1 ⟨rfl, hb⟩
      replace IA := hide (IA.out.below hb)
      replace IZ := hide (IZ.out.below hb)
      replace IG := hide (IG.out.below hb)
      replace HR := hide (HR.out.below hb)
      replace B := hide (B.out.trans (hb.mono B.out.size))
      clear hb g0 LA
      go_wp2_with fail
      refine (rwake_none (A + 1) rN w1 IZ.out).mono ?_
      rintro e w2 ⟨rfl, hw⟩
      rw [hw]
      clear hw w2
      go_wp2_with fail
      refine (rnext_none (A + 1) rN .nilIface rfl w1 IZ.out).mono ?_
      rintro e w3 ⟨rfl, hb⟩
      replace IA := hide (IA.out.below hb)
      replace IZ := hide (IZ.out.below hb)
      replace IG := hide (IG.out.below hb)
      replace HR := hide (HR.out.below hb)
      replace B := hide (B.out.trans (hb.mono B.out.size))
      clear hb
      go_wp2_with fail
      refine (sameStep0 w3).mono ?_
      rintro e w4 ⟨rfl, hb⟩
      replace IA := hide (IA.out.below hb)
      replace IZ := hide (IZ.out.below hb)
      replace IG := hide (IG.out.below hb)
      replace HR := hide (HR.out.below hb)
      replace B := hide (B.out.trans (hb.mono B.out.size))
      clear hb
      go_wp2_with fail
      refine (marked_any (A + 1) rN .nilIface w4 IZ.out).mono ?_
      rintro e w5 ⟨he5, hw⟩
      have he6 : e = .returned (.bool false) := he5
      subst he6
      clear he5
      rw [hw]
      clear hw w5
      go_wp2
      exact ⟨⟨2, by omega, rfl, IA, IZ, IG, HR, B⟩, by simp [intOf]⟩
    · go_wp2_with fail
      refine (rawake_any wr HR.out).mono ?_
      rintro e w1 ⟨rfl, hb⟩
      have B1 := hide (B.out.trans (hb.mono B.out.size))
      clear hb
      go_wp2
      go_ret
      exact ⟨rfl, hA.out ▸ B1.out⟩

end Go.Proofs.YtokehogcenjefaaDoor
