/- The calls of a splice that nobody made; SpliceNobody walked. -/
import Derived.Test.YtofmommoeligoaaDoorTK
namespace Go.Proofs.YtofmommoeligoaaDoor
open Go.RowKit Go.Maps Go.ChangeMaps

theorem ptr_nil (w : World) : (binOp .eql 35 (.pointer none) (.pointer none)).run Tryd.prog w = .ok (.bool true) w := by kernel_rfl
theorem ptr_nnil (w : World) : (binOp .neq 35 (.pointer none) (.pointer none)).run Tryd.prog w = .ok (.bool false) w := by kernel_rfl
/-- Nobody's. -/
def sN : Sp := ⟨0, 0, zr, zr, 0, 0, 0, zr, false, zr, false, zr, 0, zr, zr⟩

set_option maxHeartbeats 2000000 in
set_option maxRecDepth 100000 in
theorem tell_nil (a : An) (w : World) : Calls Tryd.prog 16 #[.pointer none, .agg (anL a).toArray] w fun e w' => e = .returned (.tuple #[]) ∧ Below w.heap.size w w' := by
  have B := hide ((Below.refl w.heap.size w).alloc (Nat.le_refl _) (.cells (anL a).toArray 57))
  have pe := ptr_nil (w.alloc (.cells (anL a).toArray 57))
  go_enter Tryd.func16, Tryd.ntmps16
  go_wp2
  refine bodyPost_ret (results_none rfl _ _ _) rfl ?_
  exact ⟨rfl, B.out⟩

set_option maxHeartbeats 2000000 in
set_option maxRecDepth 100000 in
theorem tell_zero (b : Nat) (v : Value) (a : An) (w : World) (I : IsB w b (spL sN v).toArray 85) : Calls Tryd.prog 16 #[.pointer (some ⟨b, 0, none⟩), .agg (anL a).toArray] w fun e w' => e = .returned (.tuple #[]) ∧ Below w.heap.size w w' := by
  have B := hide ((Below.refl w.heap.size w).alloc (Nat.le_refl _) (.cells (anL a).toArray 57))
  have pe := ptr_eq ⟨b, 0, none⟩ (w.alloc (.cells (anL a).toArray 57))
  have y14 : (w.alloc (.cells (anL a).toArray 57)).cell? ⟨b, 14, none⟩ = some (.int .i64 0) := cl_at (I.below B.out)
  clear I
  go_enter Tryd.func16, Tryd.ntmps16
  go_wp2
  refine bodyPost_end (results_none rfl _ _ _) rfl ?_
  exact ⟨rfl, B.out⟩

set_option maxHeartbeats 2000000 in
set_option maxRecDepth 100000 in
theorem wake_nil (w : World) : Calls Tryd.prog 14 #[.pointer none] w fun e w' => e = .returned (.tuple #[]) ∧ w' = w := by
  have pn := ptr_nnil w
  go_enter Tryd.func14, Tryd.ntmps14
  go_wp2
  refine bodyPost_end (results_none rfl _ _ _) rfl ?_
  exact ⟨rfl, rfl⟩

set_option maxHeartbeats 2000000 in
set_option maxRecDepth 100000 in
theorem wake_zero (b : Nat) (v : Value) (w : World) (I : IsB w b (spL sN v).toArray 85) : Calls Tryd.prog 14 #[.pointer (some ⟨b, 0, none⟩)] w fun e w' => e = .returned (.tuple #[]) ∧ w' = w := by
  have pn := ptr_ne ⟨b, 0, none⟩ w
  have y14 : w.cell? ⟨b, 14, none⟩ = some (.int .i64 0) := cl_at I
  clear I
  go_enter Tryd.func14, Tryd.ntmps14
  go_wp2
  refine bodyPost_end (results_none rfl _ _ _) rfl ?_
  exact ⟨rfl, rfl⟩

set_option maxHeartbeats 2000000 in
set_option maxRecDepth 100000 in
theorem next_nil (w : World) : Calls Tryd.prog 12 #[.pointer none] w fun e w' => e = .returned (.agg (stL 0 zr 0 0 0 zr zr 0 0 0 zr zr).toArray) ∧ Below w.heap.size w w' := by
  have b1 := (Below.refl w.heap.size w).alloc (Nat.le_refl _) (.cells #[.int .i64 0, .int .i64 0, .int .i64 0, .int .u64 0, .int .i64 0, .int .u64 0, .int .i64 0, .int .i64 0, .int .u64 0, .int .i64 0, .int .i64 0, .int .u64 0, .int .i64 0, .int .u64 0, .int .i64 0, .int .i64 0, .int .u64 0, .int .i64 0, .int .u64 0, .int .i64 0, .int .i64 0, .int .i64 0, .int .u64 0, .slice none 0 0, .slice none 0 0, .int .i64 0, .int .i64 0, .int .u64 0, .int .i64 0, .int .u64 0, .int .i64 0, .int .i64 0, .int .u64 0, .int .i64 0, .int .u64 0, .bool false] 53)
  have P : IsB (w.alloc (.cells #[.int .i64 0, .int .i64 0, .int .i64 0, .int .u64 0, .int .i64 0, .int .u64 0, .int .i64 0, .int .i64 0, .int .u64 0, .int .i64 0, .int .i64 0, .int .u64 0, .int .i64 0, .int .u64 0, .int .i64 0, .int .i64 0, .int .u64 0, .int .i64 0, .int .u64 0, .int .i64 0, .int .i64 0, .int .i64 0, .int .u64 0, .slice none 0 0, .slice none 0 0, .int .i64 0, .int .i64 0, .int .u64 0, .int .i64 0, .int .u64 0, .int .i64 0, .int .i64 0, .int .u64 0, .int .i64 0, .int .u64 0, .bool false] 53)) w.heap.size (stL 0 zr 0 0 0 zr zr 0 0 0 zr zr).toArray 53 := IsB.new w #[.int .i64 0, .int .i64 0, .int .i64 0, .int .u64 0, .int .i64 0, .int .u64 0, .int .i64 0, .int .i64 0, .int .u64 0, .int .i64 0, .int .i64 0, .int .u64 0, .int .i64 0, .int .u64 0, .int .i64 0, .int .i64 0, .int .u64 0, .int .i64 0, .int .u64 0, .int .i64 0, .int .i64 0, .int .i64 0, .int .u64 0, .slice none 0 0, .slice none 0 0, .int .i64 0, .int .i64 0, .int .u64 0, .int .i64 0, .int .u64 0, .int .i64 0, .int .i64 0, .int .u64 0, .int .i64 0, .int .u64 0, .bool false] 53
  obtain ⟨w6, hs6, P6', k6⟩ := st_step P rfl 0 zr 0 0 0 zr zr 0 0 0 zr zr
  have HS6 := hide hs6
  have P6 := hide P6'
  have B6 : Hid (Below w.heap.size w w6) := b1.trans (k6.to_below (by have := b1.size; omega) (by simp))
  have pe := ptr_nil (w.alloc (.cells #[.int .i64 0, .int .i64 0, .int .i64 0, .int .u64 0, .int .i64 0, .int .u64 0, .int .i64 0, .int .i64 0, .int .u64 0, .int .i64 0, .int .i64 0, .int .u64 0, .int .i64 0, .int .u64 0, .int .i64 0, .int .i64 0, .int .u64 0, .int .i64 0, .int .u64 0, .int .i64 0, .int .i64 0, .int .i64 0, .int .u64 0, .slice none 0 0, .slice none 0 0, .int .i64 0, .int .i64 0, .int .u64 0, .int .i64 0, .int .u64 0, .int .i64 0, .int .i64 0, .int .u64 0, .int .i64 0, .int .u64 0, .bool false] 53))
  clear hs6 P6' k6 P b1
  go_enter Tryd.func12, Tryd.ntmps12
  go_wp2_with (first | (focus ((with_reducible refine wpList_store_w ?_ 53 (.tmp 2) (.tmp 6) ?_ ?_ ?_ HS6.out ?_); rotate_left; rfl; rfl; rfl; rotate_left; rfl)))
  try simp only [Act.put]
  try go_wp2
  refine ret_step (p := 2) (b := w.heap.size) Tryd.results12 rfl rfl P6.out ?_
  exact ⟨rfl, B6.out⟩

set_option maxHeartbeats 2000000 in
set_option maxRecDepth 100000 in
theorem next_zero (b : Nat) (v : Value) (w : World) (I : IsB w b (spL sN v).toArray 85) : Calls Tryd.prog 12 #[.pointer (some ⟨b, 0, none⟩)] w fun e w' => e = .returned (.agg (stL 0 zr 0 0 0 zr zr 0 0 0 zr zr).toArray) ∧ Below w.heap.size w w' := by
  have b1 := (Below.refl w.heap.size w).alloc (Nat.le_refl _) (.cells #[.int .i64 0, .int .i64 0, .int .i64 0, .int .u64 0, .int .i64 0, .int .u64 0, .int .i64 0, .int .i64 0, .int .u64 0, .int .i64 0, .int .i64 0, .int .u64 0, .int .i64 0, .int .u64 0, .int .i64 0, .int .i64 0, .int .u64 0, .int .i64 0, .int .u64 0, .int .i64 0, .int .i64 0, .int .i64 0, .int .u64 0, .slice none 0 0, .slice none 0 0, .int .i64 0, .int .i64 0, .int .u64 0, .int .i64 0, .int .u64 0, .int .i64 0, .int .i64 0, .int .u64 0, .int .i64 0, .int .u64 0, .bool false] 53)
  have b2 := b1.alloc (by simp) (.cells zr.cells 29)
  have bS := (Below.refl (w.alloc (.cells #[.int .i64 0, .int .i64 0, .int .i64 0, .int .u64 0, .int .i64 0, .int .u64 0, .int .i64 0, .int .i64 0, .int .u64 0, .int .i64 0, .int .i64 0, .int .u64 0, .int .i64 0, .int .u64 0, .int .i64 0, .int .i64 0, .int .u64 0, .int .i64 0, .int .u64 0, .int .i64 0, .int .i64 0, .int .i64 0, .int .u64 0, .slice none 0 0, .slice none 0 0, .int .i64 0, .int .i64 0, .int .u64 0, .int .i64 0, .int .u64 0, .int .i64 0, .int .i64 0, .int .u64 0, .int .i64 0, .int .u64 0, .bool false] 53)).heap.size (w.alloc (.cells #[.int .i64 0, .int .i64 0, .int .i64 0, .int .u64 0, .int .i64 0, .int .u64 0, .int .i64 0, .int .i64 0, .int .u64 0, .int .i64 0, .int .i64 0, .int .u64 0, .int .i64 0, .int .u64 0, .int .i64 0, .int .i64 0, .int .u64 0, .int .i64 0, .int .u64 0, .int .i64 0, .int .i64 0, .int .i64 0, .int .u64 0, .slice none 0 0, .slice none 0 0, .int .i64 0, .int .i64 0, .int .u64 0, .int .i64 0, .int .u64 0, .int .i64 0, .int .i64 0, .int .u64 0, .int .i64 0, .int .u64 0, .bool false] 53))).alloc (Nat.le_refl _) (.cells zr.cells 29)
  have P : IsB ((w.alloc (.cells #[.int .i64 0, .int .i64 0, .int .i64 0, .int .u64 0, .int .i64 0, .int .u64 0, .int .i64 0, .int .i64 0, .int .u64 0, .int .i64 0, .int .i64 0, .int .u64 0, .int .i64 0, .int .u64 0, .int .i64 0, .int .i64 0, .int .u64 0, .int .i64 0, .int .u64 0, .int .i64 0, .int .i64 0, .int .i64 0, .int .u64 0, .slice none 0 0, .slice none 0 0, .int .i64 0, .int .i64 0, .int .u64 0, .int .i64 0, .int .u64 0, .int .i64 0, .int .i64 0, .int .u64 0, .int .i64 0, .int .u64 0, .bool false] 53)).alloc (.cells zr.cells 29)) w.heap.size (stL 0 zr 0 0 0 zr zr 0 0 0 zr zr).toArray 53 := (IsB.new w #[.int .i64 0, .int .i64 0, .int .i64 0, .int .u64 0, .int .i64 0, .int .u64 0, .int .i64 0, .int .i64 0, .int .u64 0, .int .i64 0, .int .i64 0, .int .u64 0, .int .i64 0, .int .u64 0, .int .i64 0, .int .i64 0, .int .u64 0, .int .i64 0, .int .u64 0, .int .i64 0, .int .i64 0, .int .i64 0, .int .u64 0, .slice none 0 0, .slice none 0 0, .int .i64 0, .int .i64 0, .int .u64 0, .int .i64 0, .int .u64 0, .int .i64 0, .int .i64 0, .int .u64 0, .int .i64 0, .int .u64 0, .bool false] 53).below bS
  obtain ⟨w6, hs6, P6', k6⟩ := st_step P rfl 0 zr 0 0 0 zr zr 0 0 0 zr zr
  have HS6 := hide hs6
  have P6 := hide P6'
  have B6 : Hid (Below w.heap.size w w6) := b2.trans (k6.to_below (by have := b2.size; omega) (by simp))
  have pe := ptr_eq ⟨b, 0, none⟩ (w.alloc (.cells #[.int .i64 0, .int .i64 0, .int .i64 0, .int .u64 0, .int .i64 0, .int .u64 0, .int .i64 0, .int .i64 0, .int .u64 0, .int .i64 0, .int .i64 0, .int .u64 0, .int .i64 0, .int .u64 0, .int .i64 0, .int .i64 0, .int .u64 0, .int .i64 0, .int .u64 0, .int .i64 0, .int .i64 0, .int .i64 0, .int .u64 0, .slice none 0 0, .slice none 0 0, .int .i64 0, .int .i64 0, .int .u64 0, .int .i64 0, .int .u64 0, .int .i64 0, .int .i64 0, .int .u64 0, .int .i64 0, .int .u64 0, .bool false] 53))
  have y14 : ((w.alloc (.cells #[.int .i64 0, .int .i64 0, .int .i64 0, .int .u64 0, .int .i64 0, .int .u64 0, .int .i64 0, .int .i64 0, .int .u64 0, .int .i64 0, .int .i64 0, .int .u64 0, .int .i64 0, .int .u64 0, .int .i64 0, .int .i64 0, .int .u64 0, .int .i64 0, .int .u64 0, .int .i64 0, .int .i64 0, .int .i64 0, .int .u64 0, .slice none 0 0, .slice none 0 0, .int .i64 0, .int .i64 0, .int .u64 0, .int .i64 0, .int .u64 0, .int .i64 0, .int .i64 0, .int .u64 0, .int .i64 0, .int .u64 0, .bool false] 53)).alloc (.cells zr.cells 29)).cell? ⟨b, 14, none⟩ = some (.int .i64 0) := cl_at (I.below b2)
  have LM : Hid ((Instr.loadAt 29 (.pointer (some ⟨b, 2, none⟩))).run Tryd.prog (w.alloc (.cells #[.int .i64 0, .int .i64 0, .int .i64 0, .int .u64 0, .int .i64 0, .int .u64 0, .int .i64 0, .int .i64 0, .int .u64 0, .int .i64 0, .int .i64 0, .int .u64 0, .int .i64 0, .int .u64 0, .int .i64 0, .int .i64 0, .int .u64 0, .int .i64 0, .int .u64 0, .int .i64 0, .int .i64 0, .int .i64 0, .int .u64 0, .slice none 0 0, .slice none 0 0, .int .i64 0, .int .i64 0, .int .u64 0, .int .i64 0, .int .u64 0, .int .i64 0, .int .i64 0, .int .u64 0, .int .i64 0, .int .u64 0, .bool false] 53)) = .ok (.agg zr.cells) (w.alloc (.cells #[.int .i64 0, .int .i64 0, .int .i64 0, .int .u64 0, .int .i64 0, .int .u64 0, .int .i64 0, .int .i64 0, .int .u64 0, .int .i64 0, .int .i64 0, .int .u64 0, .int .i64 0, .int .u64 0, .int .i64 0, .int .i64 0, .int .u64 0, .int .i64 0, .int .u64 0, .int .i64 0, .int .i64 0, .int .i64 0, .int .u64 0, .slice none 0 0, .slice none 0 0, .int .i64 0, .int .i64 0, .int .u64 0, .int .i64 0, .int .u64 0, .int .i64 0, .int .i64 0, .int .u64 0, .int .i64 0, .int .u64 0, .bool false] 53))) := ld_me (I.below b1)
  have SN0 := store_newr (w.alloc (.cells #[.int .i64 0, .int .i64 0, .int .i64 0, .int .u64 0, .int .i64 0, .int .u64 0, .int .i64 0, .int .i64 0, .int .u64 0, .int .i64 0, .int .i64 0, .int .u64 0, .int .i64 0, .int .u64 0, .int .i64 0, .int .i64 0, .int .u64 0, .int .i64 0, .int .u64 0, .int .i64 0, .int .i64 0, .int .i64 0, .int .u64 0, .slice none 0 0, .slice none 0 0, .int .i64 0, .int .i64 0, .int .u64 0, .int .i64 0, .int .u64 0, .int .i64 0, .int .i64 0, .int .u64 0, .int .i64 0, .int .u64 0, .bool false] 53)) zr
  rw [World.size_alloc] at SN0
  have SN := hide SN0
  clear hs6 P6' k6 P b1 b2 bS SN0 I
  go_enter Tryd.func12, Tryd.ntmps12
  go_wp2_with (first | (focus ((with_reducible refine wpList_load_w ?_ 29 (.tmp 10) ?_ ?_ LM.out ?_); rotate_left; rfl; rfl; rotate_left; rfl)) | (focus ((with_reducible refine wpList_store_w ?_ 29 (.tmp 3) (.tmp 11) ?_ ?_ ?_ SN.out ?_); rotate_left; rfl; rfl; rfl; rotate_left; rfl)) | (focus ((with_reducible refine wpList_store_w ?_ 53 (.tmp 2) (.tmp 99) ?_ ?_ ?_ HS6.out ?_); rotate_left; rfl; rfl; rfl; rotate_left; rfl)))
  try simp only [Act.put]
  try go_wp2
  refine ret_step (p := 2) (b := w.heap.size) Tryd.results12 rfl rfl P6.out ?_
  exact ⟨rfl, B6.out⟩

set_option maxHeartbeats 2000000 in
set_option maxRecDepth 100000 in
theorem nobody_any (a : An) (w : World) (hR : Ranks w) : Calls Tryd.prog 7 #[.agg (anL a).toArray] w fun e w' => e = .returned (.bool true) ∧ Below w.heap.size w w' := by
  have b3 := (((Below.refl w.heap.size w).alloc (Nat.le_refl _) (.cells (anL a).toArray 57)).alloc (by simp) (.cells #[.int .i64 0, .int .u64 0, .int .i64 0, .int .i64 0, .int .u64 0, .int .i64 0, .int .u64 0, .int .i64 0, .int .i64 0, .int .u64 0, .int .i64 0, .int .u64 0, .int .i64 0, .int .i64 0, .int .i64 0, .int .i64 0, .int .i64 0, .int .u64 0, .int .i64 0, .int .u64 0, .bool false, .int .i64 0, .int .i64 0, .int .u64 0, .int .i64 0, .int .u64 0, .bool false, .int .i64 0, .int .i64 0, .int .u64 0, .int .i64 0, .int .u64 0, .nilFunc, .int .i64 0, .int .u64 0, .slice none 0 0, .slice none 0 0, .int .i64 0, .int .i64 0, .int .u64 0, .int .i64 0, .int .u64 0, .int .i64 0, .int .i64 0, .int .u64 0, .int .i64 0, .int .u64 0, .bool false] 85)).alloc (by simp; omega) (.cells #[.pointer none, .pointer (some ⟨w.heap.size + 1, 0, none⟩)] 35)
  have IA : Hid (IsB (((w.alloc (.cells (anL a).toArray 57)).alloc (.cells #[.int .i64 0, .int .u64 0, .int .i64 0, .int .i64 0, .int .u64 0, .int .i64 0, .int .u64 0, .int .i64 0, .int .i64 0, .int .u64 0, .int .i64 0, .int .u64 0, .int .i64 0, .int .i64 0, .int .i64 0, .int .i64 0, .int .i64 0, .int .u64 0, .int .i64 0, .int .u64 0, .bool false, .int .i64 0, .int .i64 0, .int .u64 0, .int .i64 0, .int .u64 0, .bool false, .int .i64 0, .int .i64 0, .int .u64 0, .int .i64 0, .int .u64 0, .nilFunc, .int .i64 0, .int .u64 0, .slice none 0 0, .slice none 0 0, .int .i64 0, .int .i64 0, .int .u64 0, .int .i64 0, .int .u64 0, .int .i64 0, .int .i64 0, .int .u64 0, .int .i64 0, .int .u64 0, .bool false] 85)).alloc (.cells #[.pointer none, .pointer (some ⟨w.heap.size + 1, 0, none⟩)] 35)) w.heap.size (anL a).toArray 57) := (IsB.new w (anL a).toArray 57).below (((Below.refl _ _).alloc (Nat.le_refl _) _).alloc (by simp) _)
  have IZ : Hid (IsB (((w.alloc (.cells (anL a).toArray 57)).alloc (.cells #[.int .i64 0, .int .u64 0, .int .i64 0, .int .i64 0, .int .u64 0, .int .i64 0, .int .u64 0, .int .i64 0, .int .i64 0, .int .u64 0, .int .i64 0, .int .u64 0, .int .i64 0, .int .i64 0, .int .i64 0, .int .i64 0, .int .i64 0, .int .u64 0, .int .i64 0, .int .u64 0, .bool false, .int .i64 0, .int .i64 0, .int .u64 0, .int .i64 0, .int .u64 0, .bool false, .int .i64 0, .int .i64 0, .int .u64 0, .int .i64 0, .int .u64 0, .nilFunc, .int .i64 0, .int .u64 0, .slice none 0 0, .slice none 0 0, .int .i64 0, .int .i64 0, .int .u64 0, .int .i64 0, .int .u64 0, .int .i64 0, .int .i64 0, .int .u64 0, .int .i64 0, .int .u64 0, .bool false] 85)).alloc (.cells #[.pointer none, .pointer (some ⟨w.heap.size + 1, 0, none⟩)] 35)) (w.heap.size + 1) (spL sN .nilFunc).toArray 85) := by
    have := (IsB.new (w.alloc (.cells (anL a).toArray 57)) #[.int .i64 0, .int .u64 0, .int .i64 0, .int .i64 0, .int .u64 0, .int .i64 0, .int .u64 0, .int .i64 0, .int .i64 0, .int .u64 0, .int .i64 0, .int .u64 0, .int .i64 0, .int .i64 0, .int .i64 0, .int .i64 0, .int .i64 0, .int .u64 0, .int .i64 0, .int .u64 0, .bool false, .int .i64 0, .int .i64 0, .int .u64 0, .int .i64 0, .int .u64 0, .bool false, .int .i64 0, .int .i64 0, .int .u64 0, .int .i64 0, .int .u64 0, .nilFunc, .int .i64 0, .int .u64 0, .slice none 0 0, .slice none 0 0, .int .i64 0, .int .i64 0, .int .u64 0, .int .i64 0, .int .u64 0, .int .i64 0, .int .i64 0, .int .u64 0, .int .i64 0, .int .u64 0, .bool false] 85).below ((Below.refl _ _).alloc (Nat.le_refl _) (.cells #[.pointer none, .pointer (some ⟨w.heap.size + 1, 0, none⟩)] 35))
    rwa [World.size_alloc] at this
  have IG : Hid (IsB (((w.alloc (.cells (anL a).toArray 57)).alloc (.cells #[.int .i64 0, .int .u64 0, .int .i64 0, .int .i64 0, .int .u64 0, .int .i64 0, .int .u64 0, .int .i64 0, .int .i64 0, .int .u64 0, .int .i64 0, .int .u64 0, .int .i64 0, .int .i64 0, .int .i64 0, .int .i64 0, .int .i64 0, .int .u64 0, .int .i64 0, .int .u64 0, .bool false, .int .i64 0, .int .i64 0, .int .u64 0, .int .i64 0, .int .u64 0, .bool false, .int .i64 0, .int .i64 0, .int .u64 0, .int .i64 0, .int .u64 0, .nilFunc, .int .i64 0, .int .u64 0, .slice none 0 0, .slice none 0 0, .int .i64 0, .int .i64 0, .int .u64 0, .int .i64 0, .int .u64 0, .int .i64 0, .int .i64 0, .int .u64 0, .int .i64 0, .int .u64 0, .bool false] 85)).alloc (.cells #[.pointer none, .pointer (some ⟨w.heap.size + 1, 0, none⟩)] 35)) (w.heap.size + 1 + 1) #[.pointer none, .pointer (some ⟨w.heap.size + 1, 0, none⟩)] 35) := by
    have := IsB.new ((w.alloc (.cells (anL a).toArray 57)).alloc (.cells #[.int .i64 0, .int .u64 0, .int .i64 0, .int .i64 0, .int .u64 0, .int .i64 0, .int .u64 0, .int .i64 0, .int .i64 0, .int .u64 0, .int .i64 0, .int .u64 0, .int .i64 0, .int .i64 0, .int .i64 0, .int .i64 0, .int .i64 0, .int .u64 0, .int .i64 0, .int .u64 0, .bool false, .int .i64 0, .int .i64 0, .int .u64 0, .int .i64 0, .int .u64 0, .bool false, .int .i64 0, .int .i64 0, .int .u64 0, .int .i64 0, .int .u64 0, .nilFunc, .int .i64 0, .int .u64 0, .slice none 0 0, .slice none 0 0, .int .i64 0, .int .i64 0, .int .u64 0, .int .i64 0, .int .u64 0, .int .i64 0, .int .i64 0, .int .u64 0, .int .i64 0, .int .u64 0, .bool false] 85)) #[.pointer none, .pointer (some ⟨w.heap.size + 1, 0, none⟩)] 35
    rwa [World.size_alloc, World.size_alloc] at this
  have HR := hide (hR.below b3)
  have B := hide b3
  clear b3 hR
  go_enter Tryd.func7, Tryd.ntmps7
  go_wp2_with fail
  generalize (((w.alloc (.cells (anL a).toArray 57)).alloc (.cells #[.int .i64 0, .int .u64 0, .int .i64 0, .int .i64 0, .int .u64 0, .int .i64 0, .int .u64 0, .int .i64 0, .int .i64 0, .int .u64 0, .int .i64 0, .int .u64 0, .int .i64 0, .int .i64 0, .int .i64 0, .int .i64 0, .int .i64 0, .int .u64 0, .int .i64 0, .int .u64 0, .bool false, .int .i64 0, .int .i64 0, .int .u64 0, .int .i64 0, .int .u64 0, .bool false, .int .i64 0, .int .i64 0, .int .u64 0, .int .i64 0, .int .u64 0, .nilFunc, .int .i64 0, .int .u64 0, .slice none 0 0, .slice none 0 0, .int .i64 0, .int .i64 0, .int .u64 0, .int .i64 0, .int .u64 0, .int .i64 0, .int .i64 0, .int .u64 0, .int .i64 0, .int .u64 0, .bool false] 85)).alloc (.cells #[.pointer none, .pointer (some ⟨w.heap.size + 1, 0, none⟩)] 35)) = W3 at *
  obtain ⟨A, hA⟩ : ∃ A, w.heap.size = A := ⟨_, rfl⟩
  rw [hA] at IA IZ IG ⊢
  replace hA := hide hA
  go_loopw [11] (fun v11 wr => ∃ j : Nat, j ≤ 2 ∧ v11 = .int .i64 (j : Int) ∧ Hid (IsB wr A (anL a).toArray 57) ∧ Hid (IsB wr (A + 1) (spL sN .nilFunc).toArray 85) ∧ Hid (IsB wr (A + 1 + 1) #[.pointer none, .pointer (some ⟨A + 1, 0, none⟩)] 35) ∧ Hid (Ranks wr) ∧ Hid (Below w.heap.size w wr)) (fun v11 _ => 2 - (intOf v11).toNat)
  case atStart => exact ⟨0, by omega, rfl, IA, IZ, IG, HR, B⟩
  case round =>
    clear IA IZ IG HR B
    obtain ⟨j, hj, rfl, IA, IZ, IG, HR, B⟩ := hrel
    have hcase : j = 0 ∨ j = 1 ∨ j = 2 := by omega
    rcases hcase with rfl | rfl | rfl
    · have g0 : wr.cell? ⟨A + 1 + 1, 0, none⟩ = some (.pointer none) := IG.out.cell 0
      have LA := hide (ld_ans IA.out)
      go_wp2_with (first | (focus ((with_reducible refine wpList_load_w ?_ 57 (.tmp 1) ?_ ?_ LA.out ?_); rotate_left; rfl; rfl; rotate_left; rfl)))
      refine (tell_nil a wr).mono ?_
      rintro e w1 ⟨rfl, hb⟩
      replace IA := hide (IA.out.below hb)
      replace IZ := hide (IZ.out.below hb)
      replace IG := hide (IG.out.below hb)
      replace HR := hide (HR.out.below hb)
      replace B := hide (B.out.trans (hb.mono B.out.size))
      clear hb g0 LA
      go_wp2_with fail
      refine (wake_nil w1).mono ?_
      rintro e w1' ⟨rfl, hw⟩
      rw [hw]
      clear hw w1'
      go_wp2_with fail
      refine (next_nil w1).mono ?_
      rintro e w2 ⟨rfl, hb⟩
      replace IA := hide (IA.out.below hb)
      replace IZ := hide (IZ.out.below hb)
      replace IG := hide (IG.out.below hb)
      replace HR := hide (HR.out.below hb)
      replace B := hide (B.out.trans (hb.mono B.out.size))
      clear hb
      go_wp2_with fail
      refine (sameStep_any 0 zr 0 0 0 zr zr 0 0 0 zr zr w2).mono ?_
      rintro e w3 ⟨rfl, hb⟩
      replace IA := hide (IA.out.below hb)
      replace IZ := hide (IZ.out.below hb)
      replace IG := hide (IG.out.below hb)
      replace HR := hide (HR.out.below hb)
      replace B := hide (B.out.trans (hb.mono B.out.size))
      clear hb
      go_wp2
      exact ⟨⟨1, by omega, rfl, IA, IZ, IG, HR, B⟩, by simp [intOf]⟩
    · have g0 : wr.cell? ⟨A + 1 + 1, 1, none⟩ = some (.pointer (some ⟨A + 1, 0, none⟩)) := IG.out.cell 1
      have LA := hide (ld_ans IA.out)
      go_wp2_with (first | (focus ((with_reducible refine wpList_load_w ?_ 57 (.tmp 1) ?_ ?_ LA.out ?_); rotate_left; rfl; rfl; rotate_left; rfl)))
      refine (tell_zero (A + 1) _ a wr IZ.out).mono ?_
      rintro e w1 ⟨rfl, hb⟩
      replace IA := hide (IA.out.below hb)
      replace IZ := hide (IZ.out.below hb)
      replace IG := hide (IG.out.below hb)
      replace HR := hide (HR.out.below hb)
      replace B := hide (B.out.trans (hb.mono B.out.size))
      clear hb g0 LA
      go_wp2_with fail
      refine (wake_zero (A + 1) _ w1 IZ.out).mono ?_
      rintro e w1' ⟨rfl, hw⟩
      rw [hw]
      clear hw w1'
      go_wp2_with fail
      refine (next_zero (A + 1) _ w1 IZ.out).mono ?_
      rintro e w2 ⟨rfl, hb⟩
      replace IA := hide (IA.out.below hb)
      replace IZ := hide (IZ.out.below hb)
      replace IG := hide (IG.out.below hb)
      replace HR := hide (HR.out.below hb)
      replace B := hide (B.out.trans (hb.mono B.out.size))
      clear hb
      go_wp2_with fail
      refine (sameStep_any 0 zr 0 0 0 zr zr 0 0 0 zr zr w2).mono ?_
      rintro e w3 ⟨rfl, hb⟩
      replace IA := hide (IA.out.below hb)
      replace IZ := hide (IZ.out.below hb)
      replace IG := hide (IG.out.below hb)
      replace HR := hide (HR.out.below hb)
      replace B := hide (B.out.trans (hb.mono B.out.size))
      clear hb
      go_wp2
      exact ⟨⟨2, by omega, rfl, IA, IZ, IG, HR, B⟩, by simp [intOf]⟩
    · go_wp2_with fail
      refine (alive_any wr HR.out).mono ?_
      rintro e w1 ⟨rfl, hb⟩
      replace B := hide (B.out.trans (hb.mono B.out.size))
      clear hb
      go_wp2
      go_ret
      exact ⟨rfl, B.out⟩

end Go.Proofs.YtofmommoeligoaaDoor
