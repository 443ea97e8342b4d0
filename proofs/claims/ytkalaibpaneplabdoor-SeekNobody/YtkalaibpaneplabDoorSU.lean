/- The law SeekNobody walked. -/
import Derived.Test.YtkalaibpaneplabDoorST
namespace Go.Proofs.YtkalaibpaneplabDoor
open Go.RowKit Go.Maps Go.ChangeMaps

/-- A search that nobody made. -/
def sN : Sk := ⟨zr, 0, 0, zr, 0, 0, zr, false, 0, false, 0, zr, zr, false⟩

set_option maxHeartbeats 8000000 in
set_option maxRecDepth 100000 in
theorem nobody_any (a : An) (w : World) (hR : Ranks w) : Calls Tryd.prog 3 #[.agg (anL a).toArray] w fun e w' => e = .returned (.bool true) ∧ Below w.heap.size w w' := by
  have b3 := (((Below.refl w.heap.size w).alloc (Nat.le_refl _) (.cells (anL a).toArray 33)).alloc (by simp) (.cells #[.int .i64 0, .int .i64 0, .int .u64 0, .int .i64 0, .int .u64 0, .int .i64 0, .int .u64 0, .int .i64 0, .int .i64 0, .int .u64 0, .int .i64 0, .int .u64 0, .int .i64 0, .int .u64 0, .int .i64 0, .int .i64 0, .int .u64 0, .int .i64 0, .int .u64 0, .bool false, .map none, .int .i64 0, .bool false, .int .i64 0, .int .u64 0, .slice none 0 0, .slice none 0 0, .int .i64 0, .int .i64 0, .int .u64 0, .int .i64 0, .int .u64 0, .int .i64 0, .int .i64 0, .int .u64 0, .int .i64 0, .int .u64 0, .bool false] 41)).alloc (by simp; omega) (.cells #[.pointer none, .pointer (some ⟨w.heap.size + 1, 0, none⟩)] 34)
  have IA : Hid (IsB (((w.alloc (.cells (anL a).toArray 33)).alloc (.cells #[.int .i64 0, .int .i64 0, .int .u64 0, .int .i64 0, .int .u64 0, .int .i64 0, .int .u64 0, .int .i64 0, .int .i64 0, .int .u64 0, .int .i64 0, .int .u64 0, .int .i64 0, .int .u64 0, .int .i64 0, .int .i64 0, .int .u64 0, .int .i64 0, .int .u64 0, .bool false, .map none, .int .i64 0, .bool false, .int .i64 0, .int .u64 0, .slice none 0 0, .slice none 0 0, .int .i64 0, .int .i64 0, .int .u64 0, .int .i64 0, .int .u64 0, .int .i64 0, .int .i64 0, .int .u64 0, .int .i64 0, .int .u64 0, .bool false] 41)).alloc (.cells #[.pointer none, .pointer (some ⟨w.heap.size + 1, 0, none⟩)] 34)) w.heap.size (anL a).toArray 33) := (IsB.new w (anL a).toArray 33).below (((Below.refl _ _).alloc (Nat.le_refl _) _).alloc (by simp) _)
  have IZ : Hid (IsB (((w.alloc (.cells (anL a).toArray 33)).alloc (.cells #[.int .i64 0, .int .i64 0, .int .u64 0, .int .i64 0, .int .u64 0, .int .i64 0, .int .u64 0, .int .i64 0, .int .i64 0, .int .u64 0, .int .i64 0, .int .u64 0, .int .i64 0, .int .u64 0, .int .i64 0, .int .i64 0, .int .u64 0, .int .i64 0, .int .u64 0, .bool false, .map none, .int .i64 0, .bool false, .int .i64 0, .int .u64 0, .slice none 0 0, .slice none 0 0, .int .i64 0, .int .i64 0, .int .u64 0, .int .i64 0, .int .u64 0, .int .i64 0, .int .i64 0, .int .u64 0, .int .i64 0, .int .u64 0, .bool false] 41)).alloc (.cells #[.pointer none, .pointer (some ⟨w.heap.size + 1, 0, none⟩)] 34)) (w.heap.size + 1) (skL sN (.map none)).toArray 41) := by
    have := (IsB.new (w.alloc (.cells (anL a).toArray 33)) #[.int .i64 0, .int .i64 0, .int .u64 0, .int .i64 0, .int .u64 0, .int .i64 0, .int .u64 0, .int .i64 0, .int .i64 0, .int .u64 0, .int .i64 0, .int .u64 0, .int .i64 0, .int .u64 0, .int .i64 0, .int .i64 0, .int .u64 0, .int .i64 0, .int .u64 0, .bool false, .map none, .int .i64 0, .bool false, .int .i64 0, .int .u64 0, .slice none 0 0, .slice none 0 0, .int .i64 0, .int .i64 0, .int .u64 0, .int .i64 0, .int .u64 0, .int .i64 0, .int .i64 0, .int .u64 0, .int .i64 0, .int .u64 0, .bool false] 41).below ((Below.refl _ _).alloc (Nat.le_refl _) (.cells #[.pointer none, .pointer (some ⟨w.heap.size + 1, 0, none⟩)] 34))
    rwa [World.size_alloc] at this
  have IG : Hid (IsB (((w.alloc (.cells (anL a).toArray 33)).alloc (.cells #[.int .i64 0, .int .i64 0, .int .u64 0, .int .i64 0, .int .u64 0, .int .i64 0, .int .u64 0, .int .i64 0, .int .i64 0, .int .u64 0, .int .i64 0, .int .u64 0, .int .i64 0, .int .u64 0, .int .i64 0, .int .i64 0, .int .u64 0, .int .i64 0, .int .u64 0, .bool false, .map none, .int .i64 0, .bool false, .int .i64 0, .int .u64 0, .slice none 0 0, .slice none 0 0, .int .i64 0, .int .i64 0, .int .u64 0, .int .i64 0, .int .u64 0, .int .i64 0, .int .i64 0, .int .u64 0, .int .i64 0, .int .u64 0, .bool false] 41)).alloc (.cells #[.pointer none, .pointer (some ⟨w.heap.size + 1, 0, none⟩)] 34)) (w.heap.size + 1 + 1) #[.pointer none, .pointer (some ⟨w.heap.size + 1, 0, none⟩)] 34) := by
    have := IsB.new ((w.alloc (.cells (anL a).toArray 33)).alloc (.cells #[.int .i64 0, .int .i64 0, .int .u64 0, .int .i64 0, .int .u64 0, .int .i64 0, .int .u64 0, .int .i64 0, .int .i64 0, .int .u64 0, .int .i64 0, .int .u64 0, .int .i64 0, .int .u64 0, .int .i64 0, .int .i64 0, .int .u64 0, .int .i64 0, .int .u64 0, .bool false, .map none, .int .i64 0, .bool false, .int .i64 0, .int .u64 0, .slice none 0 0, .slice none 0 0, .int .i64 0, .int .i64 0, .int .u64 0, .int .i64 0, .int .u64 0, .int .i64 0, .int .i64 0, .int .u64 0, .int .i64 0, .int .u64 0, .bool false] 41)) #[.pointer none, .pointer (some ⟨w.heap.size + 1, 0, none⟩)] 34
    rwa [World.size_alloc, World.size_alloc] at this
  have HR := hide (hR.below b3)
  have B := hide b3
  clear b3 hR
  go_enter Tryd.func3, Tryd.ntmps3
  go_wp2_with fail
  generalize (((w.alloc (.cells (anL a).toArray 33)).alloc (.cells #[.int .i64 0, .int .i64 0, .int .u64 0, .int .i64 0, .int .u64 0, .int .i64 0, .int .u64 0, .int .i64 0, .int .i64 0, .int .u64 0, .int .i64 0, .int .u64 0, .int .i64 0, .int .u64 0, .int .i64 0, .int .i64 0, .int .u64 0, .int .i64 0, .int .u64 0, .bool false, .map none, .int .i64 0, .bool false, .int .i64 0, .int .u64 0, .slice none 0 0, .slice none 0 0, .int .i64 0, .int .i64 0, .int .u64 0, .int .i64 0, .int .u64 0, .int .i64 0, .int .i64 0, .int .u64 0, .int .i64 0, .int .u64 0, .bool false] 41)).alloc (.cells #[.pointer none, .pointer (some ⟨w.heap.size + 1, 0, none⟩)] 34)) = W3 at *
  obtain ⟨A, hA⟩ : ∃ A, w.heap.size = A := ⟨_, rfl⟩
  rw [hA] at IA IZ IG ⊢
  replace hA := hide hA
  go_loopw [11] (fun v11 wr => ∃ j : Nat, j ≤ 2 ∧ v11 = .int .i64 (j : Int) ∧ Hid (IsB wr A (anL a).toArray 33) ∧ Hid (IsB wr (A + 1) (skL sN (.map none)).toArray 41) ∧ Hid (IsB wr (A + 1 + 1) #[.pointer none, .pointer (some ⟨A + 1, 0, none⟩)] 34) ∧ Hid (Ranks wr) ∧ Hid (Below w.heap.size w wr)) (fun v11 _ => 2 - (intOf v11).toNat)
  case atStart => exact ⟨0, by omega, rfl, IA, IZ, IG, HR, B⟩
  case round =>
    clear IA IZ IG HR B
    obtain ⟨j, hj, rfl, IA, IZ, IG, HR, B⟩ := hrel
    have hcase : j = 0 ∨ j = 1 ∨ j = 2 := by omega
    rcases hcase with rfl | rfl | rfl
    · have g0 : wr.cell? ⟨A + 1 + 1, 0, none⟩ = some (.pointer none) := IG.out.cell 0
      have LA := hide (ld_ans IA.out)
      go_wp2_with (first | (focus ((with_reducible refine wpList_load_w ?_ 33 (.tmp 1) ?_ ?_ LA.out ?_); rotate_left; rfl; rfl; rotate_left; rfl)))
      refine (tell_nobody (.pointer none) a wr (fun W hW => made_nil W)).mono ?_
      rintro e w1 ⟨rfl, hb⟩
      replace IA := hide (IA.out.below hb)
      replace IZ := hide (IZ.out.below hb)
      replace IG := hide (IG.out.below hb)
      replace HR := hide (HR.out.below hb)
      replace B := hide (B.out.trans (hb.mono B.out.size))
      clear hb g0 LA
      have LA := hide (ld_ans IA.out)
      go_wp2_with (first | (focus ((with_reducible refine wpList_load_w ?_ 33 (.tmp 1) ?_ ?_ LA.out ?_); rotate_left; rfl; rfl; rotate_left; rfl)))
      refine (dead_nobody (.pointer none) a w1 (fun W hW => made_nil W)).mono ?_
      rintro e w2 ⟨rfl, hb⟩
      replace IA := hide (IA.out.below hb)
      replace IZ := hide (IZ.out.below hb)
      replace IG := hide (IG.out.below hb)
      replace HR := hide (HR.out.below hb)
      replace B := hide (B.out.trans (hb.mono B.out.size))
      clear hb LA
      go_wp2_with fail
      refine (wake_any (.pointer none) w2).mono ?_
      rintro e w2' ⟨rfl, hw⟩
      rw [hw]
      clear hw w2'
      go_wp2_with fail
      refine (next_nobody (.pointer none) w2 (fun W hW => made_nil W)).mono ?_
      rintro e w3 ⟨rfl, hb⟩
      replace IA := hide (IA.out.below hb)
      replace IZ := hide (IZ.out.below hb)
      replace IG := hide (IG.out.below hb)
      replace HR := hide (HR.out.below hb)
      replace B := hide (B.out.trans (hb.mono B.out.size))
      clear hb
      go_wp2_with fail
      refine (sameStep0 w3).mono ?_
      rintro e w4 ⟨rfl, hb⟩
      replace IA := hide (IA.out.below hb)
      replace IZ := hide (IZ.out.below hb)
      replace IG := hide (IG.out.below hb)
      replace HR := hide (HR.out.below hb)
      replace B := hide (B.out.trans (hb.mono B.out.size))
      clear hb
      go_wp2_with fail
      refine (tries_nobody (.pointer none) w4 (fun W hW => made_nil W)).mono ?_
      rintro e w4' ⟨rfl, hw⟩
      rw [hw]
      clear hw w4'
      go_wp2
      exact ⟨⟨1, by omega, rfl, IA, IZ, IG, HR, B⟩, by simp [intOf]⟩
    · have g0 : wr.cell? ⟨A + 1 + 1, 1, none⟩ = some (.pointer (some ⟨A + 1, 0, none⟩)) := IG.out.cell 1
      have LA := hide (ld_ans IA.out)
      go_wp2_with (first | (focus ((with_reducible refine wpList_load_w ?_ 33 (.tmp 1) ?_ ?_ LA.out ?_); rotate_left; rfl; rfl; rotate_left; rfl)))
      refine (tell_nobody (.pointer (some ⟨A + 1, 0, none⟩)) a wr (fun W hW => made_zero (A + 1) sN W (IZ.out.below hW))).mono ?_
      rintro e w1 ⟨rfl, hb⟩
      replace IA := hide (IA.out.below hb)
      replace IZ := hide (IZ.out.below hb)
      replace IG := hide (IG.out.below hb)
      replace HR := hide (HR.out.below hb)
      replace B := hide (B.out.trans (hb.mono B.out.size))
      clear hb g0 LA
      have LA := hide (ld_ans IA.out)
      go_wp2_with (first | (focus ((with_reducible refine wpList_load_w ?_ 33 (.tmp 1) ?_ ?_ LA.out ?_); rotate_left; rfl; rfl; rotate_left; rfl)))
      refine (dead_nobody (.pointer (some ⟨A + 1, 0, none⟩)) a w1 (fun W hW => made_zero (A + 1) sN W (IZ.out.below hW))).mono ?_
      rintro e w2 ⟨rfl, hb⟩
      replace IA := hide (IA.out.below hb)
      replace IZ := hide (IZ.out.below hb)
      replace IG := hide (IG.out.below hb)
      replace HR := hide (HR.out.below hb)
      replace B := hide (B.out.trans (hb.mono B.out.size))
      clear hb LA
      go_wp2_with fail
      refine (wake_any (.pointer (some ⟨A + 1, 0, none⟩)) w2).mono ?_
      rintro e w2' ⟨rfl, hw⟩
      rw [hw]
      clear hw w2'
      go_wp2_with fail
      refine (next_nobody (.pointer (some ⟨A + 1, 0, none⟩)) w2 (fun W hW => made_zero (A + 1) sN W (IZ.out.below hW))).mono ?_
      rintro e w3 ⟨rfl, hb⟩
      replace IA := hide (IA.out.below hb)
      replace IZ := hide (IZ.out.below hb)
      replace IG := hide (IG.out.below hb)
      replace HR := hide (HR.out.below hb)
      replace B := hide (B.out.trans (hb.mono B.out.size))
      clear hb
      go_wp2_with fail
      refine (sameStep0 w3).mono ?_
      rintro e w4 ⟨rfl, hb⟩
      replace IA := hide (IA.out.below hb)
      replace IZ := hide (IZ.out.below hb)
      replace IG := hide (IG.out.below hb)
      replace HR := hide (HR.out.below hb)
      replace B := hide (B.out.trans (hb.mono B.out.size))
      clear hb
      go_wp2_with fail
      refine (tries_nobody (.pointer (some ⟨A + 1, 0, none⟩)) w4 (fun W hW => made_zero (A + 1) sN W (IZ.out.below hW))).mono ?_
      rintro e w4' ⟨rfl, hw⟩
      rw [hw]
      clear hw w4'
      go_wp2
      exact ⟨⟨2, by omega, rfl, IA, IZ, IG, HR, B⟩, by simp [intOf]⟩
    · go_wp2_with fail
      refine (awake_any wr HR.out).mono ?_
      rintro e w1 ⟨rfl, hb⟩
      replace B := hide (B.out.trans (hb.mono B.out.size))
      clear hb
      go_wp2
      go_ret
      exact ⟨rfl, B.out⟩

end Go.Proofs.YtkalaibpaneplabDoor
