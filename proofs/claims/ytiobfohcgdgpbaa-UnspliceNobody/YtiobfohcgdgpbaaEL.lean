/- The calls of an unsplice that nobody made; UnspliceNobody walked. -/
import Derived.Test.YtiobfohcgdgpbaaEF
import Derived.Test.YtiobfohcgdgpbaaEK
namespace Go.Proofs.Ytiobfohcgdgpbaa
open Go.RowKit Go.Maps Go.ChangeMaps

theorem ptr_nil (w : World) : (binOp .eql 36 (.pointer none) (.pointer none)).run Try.prog w = .ok (.bool true) w := by kernel_rfl
theorem ptr_nnil (w : World) : (binOp .neq 36 (.pointer none) (.pointer none)).run Try.prog w = .ok (.bool false) w := by kernel_rfl
/-- Nobody's. -/
def sN : Us := ⟨0, 0, zr, 0, 0, 0, zr, zr, 0, 0⟩

set_option maxHeartbeats 2000000 in
set_option maxRecDepth 100000 in
theorem tell_nil (a : An) (w : World) : Calls Try.prog 13 #[.pointer none, .agg (anL a).toArray] w fun e w' => e = .returned (.tuple #[]) ∧ Below w.heap.size w w' := by
  have B := hide ((Below.refl w.heap.size w).alloc (Nat.le_refl _) (.cells (anL a).toArray 58))
  have pe := ptr_nil (w.alloc (.cells (anL a).toArray 58))
  go_enter Try.func13, Try.ntmps13
  go_wp2
  refine bodyPost_ret (results_none rfl _ _ _) rfl ?_
  exact ⟨rfl, B.out⟩

set_option maxHeartbeats 2000000 in
set_option maxRecDepth 100000 in
theorem tell_zero (b : Nat) (a : An) (w : World) (I : UsAt w b sN) : Calls Try.prog 13 #[.pointer (some ⟨b, 0, none⟩), .agg (anL a).toArray] w fun e w' => e = .returned (.tuple #[]) ∧ Below w.heap.size w w' := by
  have B := hide ((Below.refl w.heap.size w).alloc (Nat.le_refl _) (.cells (anL a).toArray 58))
  have pe := ptr_eq ⟨b, 0, none⟩ (w.alloc (.cells (anL a).toArray 58))
  have y9 : (w.alloc (.cells (anL a).toArray 58)).cell? ⟨b, 9, none⟩ = some (.int .i64 0) := cl_at (S := sN) (IsB.below I B.out)
  clear I
  go_enter Try.func13, Try.ntmps13
  go_wp2
  refine bodyPost_end (results_none rfl _ _ _) rfl ?_
  exact ⟨rfl, B.out⟩

set_option maxHeartbeats 2000000 in
set_option maxRecDepth 100000 in
theorem wake_nil (w : World) : Calls Try.prog 15 #[.pointer none] w fun e w' => e = .returned (.tuple #[]) ∧ w' = w := by
  have pn := ptr_nnil w
  go_enter Try.func15, Try.ntmps15
  go_wp2
  refine bodyPost_end (results_none rfl _ _ _) rfl ?_
  exact ⟨rfl, rfl⟩

set_option maxHeartbeats 2000000 in
set_option maxRecDepth 100000 in
theorem wake_zero (b : Nat) (w : World) (I : UsAt w b sN) : Calls Try.prog 15 #[.pointer (some ⟨b, 0, none⟩)] w fun e w' => e = .returned (.tuple #[]) ∧ w' = w := by
  have pn := ptr_ne ⟨b, 0, none⟩ w
  have y9 : w.cell? ⟨b, 9, none⟩ = some (.int .i64 0) := cl_at (S := sN) I
  clear I
  go_enter Try.func15, Try.ntmps15
  go_wp2
  refine bodyPost_end (results_none rfl _ _ _) rfl ?_
  exact ⟨rfl, rfl⟩

set_option maxHeartbeats 2000000 in
set_option maxRecDepth 100000 in
theorem next_nil (w : World) : Calls Try.prog 11 #[.pointer none] w fun e w' => e = .returned (.agg (stL 0 zr 0 0 0 zr zr 0 0 0 zr zr).toArray) ∧ Below w.heap.size w w' := by
  have b1 := (Below.refl w.heap.size w).alloc (Nat.le_refl _) (.cells #[.int .i64 0, .int .i64 0, .int .i64 0, .int .u64 0, .int .i64 0, .int .u64 0, .int .i64 0, .int .i64 0, .int .u64 0, .int .i64 0, .int .i64 0, .int .u64 0, .int .i64 0, .int .u64 0, .int .i64 0, .int .i64 0, .int .u64 0, .int .i64 0, .int .u64 0, .int .i64 0, .int .i64 0, .int .i64 0, .int .u64 0, .slice none 0 0, .slice none 0 0, .int .i64 0, .int .i64 0, .int .u64 0, .int .i64 0, .int .u64 0, .int .i64 0, .int .i64 0, .int .u64 0, .int .i64 0, .int .u64 0, .bool false] 53)
  have P : IsB (w.alloc (.cells #[.int .i64 0, .int .i64 0, .int .i64 0, .int .u64 0, .int .i64 0, .int .u64 0, .int .i64 0, .int .i64 0, .int .u64 0, .int .i64 0, .int .i64 0, .int .u64 0, .int .i64 0, .int .u64 0, .int .i64 0, .int .i64 0, .int .u64 0, .int .i64 0, .int .u64 0, .int .i64 0, .int .i64 0, .int .i64 0, .int .u64 0, .slice none 0 0, .slice none 0 0, .int .i64 0, .int .i64 0, .int .u64 0, .int .i64 0, .int .u64 0, .int .i64 0, .int .i64 0, .int .u64 0, .int .i64 0, .int .u64 0, .bool false] 53)) w.heap.size (stL 0 zr 0 0 0 zr zr 0 0 0 zr zr).toArray 53 := IsB.new w #[.int .i64 0, .int .i64 0, .int .i64 0, .int .u64 0, .int .i64 0, .int .u64 0, .int .i64 0, .int .i64 0, .int .u64 0, .int .i64 0, .int .i64 0, .int .u64 0, .int .i64 0, .int .u64 0, .int .i64 0, .int .i64 0, .int .u64 0, .int .i64 0, .int .u64 0, .int .i64 0, .int .i64 0, .int .i64 0, .int .u64 0, .slice none 0 0, .slice none 0 0, .int .i64 0, .int .i64 0, .int .u64 0, .int .i64 0, .int .u64 0, .int .i64 0, .int .i64 0, .int .u64 0, .int .i64 0, .int .u64 0, .bool false] 53
  obtain ⟨w6, hs6, P6', k6⟩ := st_step P rfl 0 zr 0 0 0 zr zr 0 0 0 zr zr
  have HS6 := hide hs6
  have P6 := hide P6'
  have B6 : Hid (Below w.heap.size w w6) := b1.trans (k6.to_below (by have := b1.size; omega) (by simp))
  have pe := ptr_nil (w.alloc (.cells #[.int .i64 0, .int .i64 0, .int .i64 0, .int .u64 0, .int .i64 0, .int .u64 0, .int .i64 0, .int .i64 0, .int .u64 0, .int .i64 0, .int .i64 0, .int .u64 0, .int .i64 0, .int .u64 0, .int .i64 0, .int .i64 0, .int .u64 0, .int .i64 0, .int .u64 0, .int .i64 0, .int .i64 0, .int .i64 0, .int .u64 0, .slice none 0 0, .slice none 0 0, .int .i64 0, .int .i64 0, .int .u64 0, .int .i64 0, .int .u64 0, .int .i64 0, .int .i64 0, .int .u64 0, .int .i64 0, .int .u64 0, .bool false] 53))
  clear hs6 P6' k6 P b1
  go_enter Try.func11, Try.ntmps11
  go_wp2_with (first | (focus ((with_reducible refine wpList_store_w ?_ 53 (.tmp 2) (.tmp 5) ?_ ?_ ?_ HS6.out ?_); rotate_left; rfl; rfl; rfl; rotate_left; rfl)))
  try simp only [Act.put]
  try go_wp2
  refine ret_step (p := 2) (b := w.heap.size) Try.results11 rfl rfl P6.out ?_
  exact ⟨rfl, B6.out⟩

set_option maxHeartbeats 2000000 in
set_option maxRecDepth 100000 in
theorem next_zero (b : Nat) (w : World) (I : UsAt w b sN) : Calls Try.prog 11 #[.pointer (some ⟨b, 0, none⟩)] w fun e w' => e = .returned (.agg (stL 0 zr 0 0 0 zr zr 0 0 0 zr zr).toArray) ∧ Below w.heap.size w w' := by
  have b1 := (Below.refl w.heap.size w).alloc (Nat.le_refl _) (.cells #[.int .i64 0, .int .i64 0, .int .i64 0, .int .u64 0, .int .i64 0, .int .u64 0, .int .i64 0, .int .i64 0, .int .u64 0, .int .i64 0, .int .i64 0, .int .u64 0, .int .i64 0, .int .u64 0, .int .i64 0, .int .i64 0, .int .u64 0, .int .i64 0, .int .u64 0, .int .i64 0, .int .i64 0, .int .i64 0, .int .u64 0, .slice none 0 0, .slice none 0 0, .int .i64 0, .int .i64 0, .int .u64 0, .int .i64 0, .int .u64 0, .int .i64 0, .int .i64 0, .int .u64 0, .int .i64 0, .int .u64 0, .bool false] 53)
  have P : IsB (w.alloc (.cells #[.int .i64 0, .int .i64 0, .int .i64 0, .int .u64 0, .int .i64 0, .int .u64 0, .int .i64 0, .int .i64 0, .int .u64 0, .int .i64 0, .int .i64 0, .int .u64 0, .int .i64 0, .int .u64 0, .int .i64 0, .int .i64 0, .int .u64 0, .int .i64 0, .int .u64 0, .int .i64 0, .int .i64 0, .int .i64 0, .int .u64 0, .slice none 0 0, .slice none 0 0, .int .i64 0, .int .i64 0, .int .u64 0, .int .i64 0, .int .u64 0, .int .i64 0, .int .i64 0, .int .u64 0, .int .i64 0, .int .u64 0, .bool false] 53)) w.heap.size (stL 0 zr 0 0 0 zr zr 0 0 0 zr zr).toArray 53 := IsB.new w #[.int .i64 0, .int .i64 0, .int .i64 0, .int .u64 0, .int .i64 0, .int .u64 0, .int .i64 0, .int .i64 0, .int .u64 0, .int .i64 0, .int .i64 0, .int .u64 0, .int .i64 0, .int .u64 0, .int .i64 0, .int .i64 0, .int .u64 0, .int .i64 0, .int .u64 0, .int .i64 0, .int .i64 0, .int .i64 0, .int .u64 0, .slice none 0 0, .slice none 0 0, .int .i64 0, .int .i64 0, .int .u64 0, .int .i64 0, .int .u64 0, .int .i64 0, .int .i64 0, .int .u64 0, .int .i64 0, .int .u64 0, .bool false] 53
  obtain ⟨w6, hs6, P6', k6⟩ := st_step P rfl 0 zr 0 0 0 zr zr 0 0 0 zr zr
  have HS6 := hide hs6
  have P6 := hide P6'
  have B6 : Hid (Below w.heap.size w w6) := b1.trans (k6.to_below (by have := b1.size; omega) (by simp))
  have pe := ptr_eq ⟨b, 0, none⟩ (w.alloc (.cells #[.int .i64 0, .int .i64 0, .int .i64 0, .int .u64 0, .int .i64 0, .int .u64 0, .int .i64 0, .int .i64 0, .int .u64 0, .int .i64 0, .int .i64 0, .int .u64 0, .int .i64 0, .int .u64 0, .int .i64 0, .int .i64 0, .int .u64 0, .int .i64 0, .int .u64 0, .int .i64 0, .int .i64 0, .int .i64 0, .int .u64 0, .slice none 0 0, .slice none 0 0, .int .i64 0, .int .i64 0, .int .u64 0, .int .i64 0, .int .u64 0, .int .i64 0, .int .i64 0, .int .u64 0, .int .i64 0, .int .u64 0, .bool false] 53))
  have y9 : (w.alloc (.cells #[.int .i64 0, .int .i64 0, .int .i64 0, .int .u64 0, .int .i64 0, .int .u64 0, .int .i64 0, .int .i64 0, .int .u64 0, .int .i64 0, .int .i64 0, .int .u64 0, .int .i64 0, .int .u64 0, .int .i64 0, .int .i64 0, .int .u64 0, .int .i64 0, .int .u64 0, .int .i64 0, .int .i64 0, .int .i64 0, .int .u64 0, .slice none 0 0, .slice none 0 0, .int .i64 0, .int .i64 0, .int .u64 0, .int .i64 0, .int .u64 0, .int .i64 0, .int .i64 0, .int .u64 0, .int .i64 0, .int .u64 0, .bool false] 53)).cell? ⟨b, 9, none⟩ = some (.int .i64 0) := cl_at (S := sN) (IsB.below I b1)
  clear hs6 P6' k6 P b1 I
  go_enter Try.func11, Try.ntmps11
  go_wp2_with (first | (focus ((with_reducible refine wpList_store_w ?_ 53 (.tmp 2) (.tmp 105) ?_ ?_ ?_ HS6.out ?_); rotate_left; rfl; rfl; rfl; rotate_left; rfl)))
  try simp only [Act.put]
  try go_wp2
  refine ret_step (p := 2) (b := w.heap.size) Try.results11 rfl rfl P6.out ?_
  exact ⟨rfl, B6.out⟩

set_option maxHeartbeats 2000000 in
set_option maxRecDepth 100000 in
theorem nobody_any (a : An) (w : World) : Calls Try.prog 6 #[.agg (anL a).toArray] w fun e w' => e = .returned (.bool true) ∧ Below w.heap.size w w' := by
  have b3 := (((Below.refl w.heap.size w).alloc (Nat.le_refl _) (.cells (anL a).toArray 58)).alloc (by simp) (.cells #[.int .i64 0, .int .u64 0, .int .i64 0, .int .i64 0, .int .u64 0, .int .i64 0, .int .u64 0, .int .i64 0, .int .i64 0, .int .i64 0, .int .i64 0, .int .i64 0, .int .u64 0, .int .i64 0, .int .u64 0, .int .i64 0, .int .i64 0, .int .u64 0, .int .i64 0, .int .u64 0, .int .i64 0, .int .i64 0] 85)).alloc (by simp; omega) (.cells #[.pointer none, .pointer (some ⟨w.heap.size + 1, 0, none⟩)] 36)
  have IA : Hid (IsB (((w.alloc (.cells (anL a).toArray 58)).alloc (.cells #[.int .i64 0, .int .u64 0, .int .i64 0, .int .i64 0, .int .u64 0, .int .i64 0, .int .u64 0, .int .i64 0, .int .i64 0, .int .i64 0, .int .i64 0, .int .i64 0, .int .u64 0, .int .i64 0, .int .u64 0, .int .i64 0, .int .i64 0, .int .u64 0, .int .i64 0, .int .u64 0, .int .i64 0, .int .i64 0] 85)).alloc (.cells #[.pointer none, .pointer (some ⟨w.heap.size + 1, 0, none⟩)] 36)) w.heap.size (anL a).toArray 58) := (IsB.new w (anL a).toArray 58).below (((Below.refl _ _).alloc (Nat.le_refl _) _).alloc (by simp) _)
  have IZ : Hid (UsAt (((w.alloc (.cells (anL a).toArray 58)).alloc (.cells #[.int .i64 0, .int .u64 0, .int .i64 0, .int .i64 0, .int .u64 0, .int .i64 0, .int .u64 0, .int .i64 0, .int .i64 0, .int .i64 0, .int .i64 0, .int .i64 0, .int .u64 0, .int .i64 0, .int .u64 0, .int .i64 0, .int .i64 0, .int .u64 0, .int .i64 0, .int .u64 0, .int .i64 0, .int .i64 0] 85)).alloc (.cells #[.pointer none, .pointer (some ⟨w.heap.size + 1, 0, none⟩)] 36)) (w.heap.size + 1) sN) := by
    have := (IsB.new (w.alloc (.cells (anL a).toArray 58)) #[.int .i64 0, .int .u64 0, .int .i64 0, .int .i64 0, .int .u64 0, .int .i64 0, .int .u64 0, .int .i64 0, .int .i64 0, .int .i64 0, .int .i64 0, .int .i64 0, .int .u64 0, .int .i64 0, .int .u64 0, .int .i64 0, .int .i64 0, .int .u64 0, .int .i64 0, .int .u64 0, .int .i64 0, .int .i64 0] 85).below ((Below.refl _ _).alloc (Nat.le_refl _) (.cells #[.pointer none, .pointer (some ⟨w.heap.size + 1, 0, none⟩)] 36))
    rwa [World.size_alloc] at this
  have IG : Hid (IsB (((w.alloc (.cells (anL a).toArray 58)).alloc (.cells #[.int .i64 0, .int .u64 0, .int .i64 0, .int .i64 0, .int .u64 0, .int .i64 0, .int .u64 0, .int .i64 0, .int .i64 0, .int .i64 0, .int .i64 0, .int .i64 0, .int .u64 0, .int .i64 0, .int .u64 0, .int .i64 0, .int .i64 0, .int .u64 0, .int .i64 0, .int .u64 0, .int .i64 0, .int .i64 0] 85)).alloc (.cells #[.pointer none, .pointer (some ⟨w.heap.size + 1, 0, none⟩)] 36)) (w.heap.size + 1 + 1) #[.pointer none, .pointer (some ⟨w.heap.size + 1, 0, none⟩)] 36) := by
    have := IsB.new ((w.alloc (.cells (anL a).toArray 58)).alloc (.cells #[.int .i64 0, .int .u64 0, .int .i64 0, .int .i64 0, .int .u64 0, .int .i64 0, .int .u64 0, .int .i64 0, .int .i64 0, .int .i64 0, .int .i64 0, .int .i64 0, .int .u64 0, .int .i64 0, .int .u64 0, .int .i64 0, .int .i64 0, .int .u64 0, .int .i64 0, .int .u64 0, .int .i64 0, .int .i64 0] 85)) #[.pointer none, .pointer (some ⟨w.heap.size + 1, 0, none⟩)] 36
    rwa [World.size_alloc, World.size_alloc] at this
  have B := hide b3
  clear b3
  go_enter Try.func6, Try.ntmps6
  go_wp2_with fail
  generalize (((w.alloc (.cells (anL a).toArray 58)).alloc (.cells #[.int .i64 0, .int .u64 0, .int .i64 0, .int .i64 0, .int .u64 0, .int .i64 0, .int .u64 0, .int .i64 0, .int .i64 0, .int .i64 0, .int .i64 0, .int .i64 0, .int .u64 0, .int .i64 0, .int .u64 0, .int .i64 0, .int .i64 0, .int .u64 0, .int .i64 0, .int .u64 0, .int .i64 0, .int .i64 0] 85)).alloc (.cells #[.pointer none, .pointer (some ⟨w.heap.size + 1, 0, none⟩)] 36)) = W3 at *
  obtain ⟨A, hA⟩ : ∃ A, w.heap.size = A := ⟨_, rfl⟩
  rw [hA] at IA IZ IG ⊢
  replace hA := hide hA
  go_loopw [11] (fun v11 wr => ∃ j : Nat, j ≤ 2 ∧ v11 = .int .i64 (j : Int) ∧ Hid (IsB wr A (anL a).toArray 58) ∧ Hid (UsAt wr (A + 1) sN) ∧ Hid (IsB wr (A + 1 + 1) #[.pointer none, .pointer (some ⟨A + 1, 0, none⟩)] 36) ∧ Hid (Below w.heap.size w wr)) (fun v11 _ => 2 - (intOf v11).toNat)
  case atStart => exact ⟨0, by omega, rfl, IA, IZ, IG, B⟩
  case round =>
    clear IA IZ IG B
    obtain ⟨j, hj, rfl, IA, IZ, IG, B⟩ := hrel
    have hcase : j = 0 ∨ j = 1 ∨ j = 2 := by omega
    rcases hcase with rfl | rfl | rfl
    · have g0 : wr.cell? ⟨A + 1 + 1, 0, none⟩ = some (.pointer none) := IG.out.cell 0
      have LA := hide (ld_ans IA.out)
      go_wp2_with (first | (focus ((with_reducible refine wpList_load_w ?_ 58 (.tmp 1) ?_ ?_ LA.out ?_); rotate_left; rfl; rfl; rotate_left; rfl)))
      refine (tell_nil a wr).mono ?_
      rintro e w1 ⟨rfl, hb⟩
      replace IA := hide (IA.out.below hb)
      replace IZ := hide (IZ.out.below hb)
      replace IG := hide (IG.out.below hb)
      replace B := hide (B.out.trans (hb.mono B.out.size))
      clear hb g0 LA
      go_wp2_with fail
      refine (wake_nil w1).mono ?_
      rintro e w1' ⟨rfl, hw⟩
      rw [hw]
      clear hw w1'
      go_wp2_with fail
      refine (next_nil w1).mono ?_
      rintro e w2 ⟨rfl, hb⟩
      replace IA := hide (IA.out.below hb)
      replace IZ := hide (IZ.out.below hb)
      replace IG := hide (IG.out.below hb)
      replace B := hide (B.out.trans (hb.mono B.out.size))
      clear hb
      go_wp2_with fail
      refine (sameStep_any 0 zr 0 0 0 zr zr 0 0 0 zr zr w2).mono ?_
      rintro e w3 ⟨rfl, hb⟩
      replace IA := hide (IA.out.below hb)
      replace IZ := hide (IZ.out.below hb)
      replace IG := hide (IG.out.below hb)
      replace B := hide (B.out.trans (hb.mono B.out.size))
      clear hb
      go_wp2
      exact ⟨⟨1, by omega, rfl, IA, IZ, IG, B⟩, by simp [intOf]⟩
    · have g0 : wr.cell? ⟨A + 1 + 1, 1, none⟩ = some (.pointer (some ⟨A + 1, 0, none⟩)) := IG.out.cell 1
      have LA := hide (ld_ans IA.out)
      go_wp2_with (first | (focus ((with_reducible refine wpList_load_w ?_ 58 (.tmp 1) ?_ ?_ LA.out ?_); rotate_left; rfl; rfl; rotate_left; rfl)))
      refine (tell_zero (A + 1) a wr IZ.out).mono ?_
      rintro e w1 ⟨rfl, hb⟩
      replace IA := hide (IA.out.below hb)
      replace IZ := hide (IZ.out.below hb)
      replace IG := hide (IG.out.below hb)
      replace B := hide (B.out.trans (hb.mono B.out.size))
      clear hb g0 LA
      go_wp2_with fail
      refine (wake_zero (A + 1) w1 IZ.out).mono ?_
      rintro e w1' ⟨rfl, hw⟩
      rw [hw]
      clear hw w1'
      go_wp2_with fail
      refine (next_zero (A + 1) w1 IZ.out).mono ?_
      rintro e w2 ⟨rfl, hb⟩
      replace IA := hide (IA.out.below hb)
      replace IZ := hide (IZ.out.below hb)
      replace IG := hide (IG.out.below hb)
      replace B := hide (B.out.trans (hb.mono B.out.size))
      clear hb
      go_wp2_with fail
      refine (sameStep_any 0 zr 0 0 0 zr zr 0 0 0 zr zr w2).mono ?_
      rintro e w3 ⟨rfl, hb⟩
      replace IA := hide (IA.out.below hb)
      replace IZ := hide (IZ.out.below hb)
      replace IG := hide (IG.out.below hb)
      replace B := hide (B.out.trans (hb.mono B.out.size))
      clear hb
      go_wp2
      exact ⟨⟨2, by omega, rfl, IA, IZ, IG, B⟩, by simp [intOf]⟩
    · have hr : rt 0 0 = true := by decide
      go_wp2_with fail
      refine (rright_any 0 0 wr).mono ?_
      rintro e w1 ⟨rfl, hb⟩
      rw [hr]
      replace B := hide (B.out.trans (hb.mono B.out.size))
      clear hb
      go_wp2_with fail
      refine (awake_any w1).mono ?_
      rintro e w2 ⟨rfl, hb⟩
      replace B := hide (B.out.trans (hb.mono B.out.size))
      clear hb
      go_wp2
      go_ret
      exact ⟨rfl, B.out⟩

end Go.Proofs.Ytiobfohcgdgpbaa
