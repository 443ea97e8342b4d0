/- Package pack: Check says yes, of fields with just their own part. -/
import Derived.Test.YtmhcmlegdoapdaaDoorQG
namespace Go.Proofs.YtmhcmlegdoapdaaDoor
open Go.RowKit

set_option maxHeartbeats 4000000 in
set_option maxRecDepth 100000 in
theorem check_int (i : Int) (w : World) : Calls Tryd.prog 14 #[.agg #[.int .i64 2, .int .u64 0, .int .i64 (i : Int), .bool false, .slice none 0 0, .int .i64 0, .int .u64 0, .int .i64 0, .int .u64 0, .int .i64 0, .int .i64 0, .int .u64 0, .int .i64 0, .int .u64 0]] w fun e w' => e = .returned (.int .i64 0) ∧ Gr w w' := by
  have ho := hide (fun w => own_int i w)
  have hw := hide (fun w => without_int i w)
  have HI := hide (IsB.new w #[.int .i64 2, .int .u64 0, .int .i64 (i : Int), .bool false, .slice none 0 0, .int .i64 0, .int .u64 0, .int .i64 0, .int .u64 0, .int .i64 0, .int .i64 0, .int .u64 0, .int .i64 0, .int .u64 0] 34)
  have HG := hide (show Gr w (w.alloc (.cells #[.int .i64 2, .int .u64 0, .int .i64 (i : Int), .bool false, .slice none 0 0, .int .i64 0, .int .u64 0, .int .i64 0, .int .u64 0, .int .i64 0, .int .i64 0, .int .u64 0, .int .i64 0, .int .u64 0] 34)) from (Gr.refl w).alloc _)
  go_enter Tryd.func14, Tryd.ntmps14
  go_wp2_with fail
  generalize w.alloc (.cells #[.int .i64 2, .int .u64 0, .int .i64 (i : Int), .bool false, .slice none 0 0, .int .i64 0, .int .u64 0, .int .i64 0, .int .u64 0, .int .i64 0, .int .i64 0, .int .u64 0, .int .i64 0, .int .u64 0] 34) = W0 at HI HG ⊢
  have a0 : W0.cell? ⟨w.heap.size, 0, none⟩ = some (.int .i64 2) := HI.out.cell 0
  have a1 : W0.cell? ⟨w.heap.size, 1, none⟩ = some (.int .u64 0) := HI.out.cell 1
  have a2 : W0.cell? ⟨w.heap.size, 2, none⟩ = some (.int .i64 (i : Int)) := HI.out.cell 2
  have a3 : W0.cell? ⟨w.heap.size, 3, none⟩ = some (.bool false) := HI.out.cell 3
  have a4 : W0.cell? ⟨w.heap.size, 4, none⟩ = some (.slice none 0 0) := HI.out.cell 4
  have a5 : W0.cell? ⟨w.heap.size, 5, none⟩ = some (.int .i64 0) := HI.out.cell 5
  have a6 : W0.cell? ⟨w.heap.size, 6, none⟩ = some (.int .u64 0) := HI.out.cell 6
  have a7 : W0.cell? ⟨w.heap.size, 7, none⟩ = some (.int .i64 0) := HI.out.cell 7
  have a8 : W0.cell? ⟨w.heap.size, 8, none⟩ = some (.int .u64 0) := HI.out.cell 8
  have a9 : W0.cell? ⟨w.heap.size, 9, none⟩ = some (.int .i64 0) := HI.out.cell 9
  have a10 : W0.cell? ⟨w.heap.size, 10, none⟩ = some (.int .i64 0) := HI.out.cell 10
  have a11 : W0.cell? ⟨w.heap.size, 11, none⟩ = some (.int .u64 0) := HI.out.cell 11
  have a12 : W0.cell? ⟨w.heap.size, 12, none⟩ = some (.int .i64 0) := HI.out.cell 12
  have a13 : W0.cell? ⟨w.heap.size, 13, none⟩ = some (.int .u64 0) := HI.out.cell 13
  refine (isKind_yes 2 (by omega) (by omega) _).mono ?_; rintro e w1 ⟨rfl, rfl⟩
  go_wp2_with fail
  clear a0 a1 a2 a3 a4 a5 a6 a7 a8 a9 a10 a11 a12 a13
  refine (ho.out _).mono ?_; rintro e w2 ⟨rfl, hg⟩
  replace HI := hide (HI.out.gr hg)
  replace HG := hide (HG.out.trans hg)
  clear hg
  have a0 : w2.cell? ⟨w.heap.size, 0, none⟩ = some (.int .i64 2) := HI.out.cell 0
  have a1 : w2.cell? ⟨w.heap.size, 1, none⟩ = some (.int .u64 0) := HI.out.cell 1
  have a2 : w2.cell? ⟨w.heap.size, 2, none⟩ = some (.int .i64 (i : Int)) := HI.out.cell 2
  have a3 : w2.cell? ⟨w.heap.size, 3, none⟩ = some (.bool false) := HI.out.cell 3
  have a4 : w2.cell? ⟨w.heap.size, 4, none⟩ = some (.slice none 0 0) := HI.out.cell 4
  have a5 : w2.cell? ⟨w.heap.size, 5, none⟩ = some (.int .i64 0) := HI.out.cell 5
  have a6 : w2.cell? ⟨w.heap.size, 6, none⟩ = some (.int .u64 0) := HI.out.cell 6
  have a7 : w2.cell? ⟨w.heap.size, 7, none⟩ = some (.int .i64 0) := HI.out.cell 7
  have a8 : w2.cell? ⟨w.heap.size, 8, none⟩ = some (.int .u64 0) := HI.out.cell 8
  have a9 : w2.cell? ⟨w.heap.size, 9, none⟩ = some (.int .i64 0) := HI.out.cell 9
  have a10 : w2.cell? ⟨w.heap.size, 10, none⟩ = some (.int .i64 0) := HI.out.cell 10
  have a11 : w2.cell? ⟨w.heap.size, 11, none⟩ = some (.int .u64 0) := HI.out.cell 11
  have a12 : w2.cell? ⟨w.heap.size, 12, none⟩ = some (.int .i64 0) := HI.out.cell 12
  have a13 : w2.cell? ⟨w.heap.size, 13, none⟩ = some (.int .u64 0) := HI.out.cell 13
  go_wp2_with fail
  clear a0 a1 a2 a3 a4 a5 a6 a7 a8 a9 a10 a11 a12 a13
  refine (hw.out _).mono ?_; rintro e w3 ⟨rfl, hg⟩
  replace HG := hide (HG.out.trans hg)
  clear hg
  go_wp2_with fail
  refine (same_zero _).mono ?_; rintro e w4 ⟨rfl, hg⟩
  replace HG := hide (HG.out.trans hg)
  clear hg
  go_wp2
  go_ret
  exact ⟨rfl, HG.out⟩

set_option maxHeartbeats 4000000 in
set_option maxRecDepth 100000 in
theorem check_vec (l b : Nat) (hl : l ≤ 32) (hb2 : b < 2 ^ l) (w : World) : Calls Tryd.prog 14 #[.agg #[.int .i64 5, .int .u64 0, .int .i64 0, .bool false, .slice none 0 0, .int .i64 (l : Int), .int .u64 (b : Int), .int .i64 0, .int .u64 0, .int .i64 0, .int .i64 0, .int .u64 0, .int .i64 0, .int .u64 0]] w fun e w' => e = .returned (.int .i64 0) ∧ Gr w w' := by
  have ho := hide (fun w => own_vec l b hl hb2 w)
  have hw := hide (fun w => without_vec l b w)
  have HI := hide (IsB.new w #[.int .i64 5, .int .u64 0, .int .i64 0, .bool false, .slice none 0 0, .int .i64 (l : Int), .int .u64 (b : Int), .int .i64 0, .int .u64 0, .int .i64 0, .int .i64 0, .int .u64 0, .int .i64 0, .int .u64 0] 34)
  have HG := hide (show Gr w (w.alloc (.cells #[.int .i64 5, .int .u64 0, .int .i64 0, .bool false, .slice none 0 0, .int .i64 (l : Int), .int .u64 (b : Int), .int .i64 0, .int .u64 0, .int .i64 0, .int .i64 0, .int .u64 0, .int .i64 0, .int .u64 0] 34)) from (Gr.refl w).alloc _)
  go_enter Tryd.func14, Tryd.ntmps14
  go_wp2_with fail
  generalize w.alloc (.cells #[.int .i64 5, .int .u64 0, .int .i64 0, .bool false, .slice none 0 0, .int .i64 (l : Int), .int .u64 (b : Int), .int .i64 0, .int .u64 0, .int .i64 0, .int .i64 0, .int .u64 0, .int .i64 0, .int .u64 0] 34) = W0 at HI HG ⊢
  have a0 : W0.cell? ⟨w.heap.size, 0, none⟩ = some (.int .i64 5) := HI.out.cell 0
  have a1 : W0.cell? ⟨w.heap.size, 1, none⟩ = some (.int .u64 0) := HI.out.cell 1
  have a2 : W0.cell? ⟨w.heap.size, 2, none⟩ = some (.int .i64 0) := HI.out.cell 2
  have a3 : W0.cell? ⟨w.heap.size, 3, none⟩ = some (.bool false) := HI.out.cell 3
  have a4 : W0.cell? ⟨w.heap.size, 4, none⟩ = some (.slice none 0 0) := HI.out.cell 4
  have a5 : W0.cell? ⟨w.heap.size, 5, none⟩ = some (.int .i64 (l : Int)) := HI.out.cell 5
  have a6 : W0.cell? ⟨w.heap.size, 6, none⟩ = some (.int .u64 (b : Int)) := HI.out.cell 6
  have a7 : W0.cell? ⟨w.heap.size, 7, none⟩ = some (.int .i64 0) := HI.out.cell 7
  have a8 : W0.cell? ⟨w.heap.size, 8, none⟩ = some (.int .u64 0) := HI.out.cell 8
  have a9 : W0.cell? ⟨w.heap.size, 9, none⟩ = some (.int .i64 0) := HI.out.cell 9
  have a10 : W0.cell? ⟨w.heap.size, 10, none⟩ = some (.int .i64 0) := HI.out.cell 10
  have a11 : W0.cell? ⟨w.heap.size, 11, none⟩ = some (.int .u64 0) := HI.out.cell 11
  have a12 : W0.cell? ⟨w.heap.size, 12, none⟩ = some (.int .i64 0) := HI.out.cell 12
  have a13 : W0.cell? ⟨w.heap.size, 13, none⟩ = some (.int .u64 0) := HI.out.cell 13
  refine (isKind_yes 5 (by omega) (by omega) _).mono ?_; rintro e w1 ⟨rfl, rfl⟩
  go_wp2_with fail
  clear a0 a1 a2 a3 a4 a5 a6 a7 a8 a9 a10 a11 a12 a13
  refine (ho.out _).mono ?_; rintro e w2 ⟨rfl, hg⟩
  replace HI := hide (HI.out.gr hg)
  replace HG := hide (HG.out.trans hg)
  clear hg
  have a0 : w2.cell? ⟨w.heap.size, 0, none⟩ = some (.int .i64 5) := HI.out.cell 0
  have a1 : w2.cell? ⟨w.heap.size, 1, none⟩ = some (.int .u64 0) := HI.out.cell 1
  have a2 : w2.cell? ⟨w.heap.size, 2, none⟩ = some (.int .i64 0) := HI.out.cell 2
  have a3 : w2.cell? ⟨w.heap.size, 3, none⟩ = some (.bool false) := HI.out.cell 3
  have a4 : w2.cell? ⟨w.heap.size, 4, none⟩ = some (.slice none 0 0) := HI.out.cell 4
  have a5 : w2.cell? ⟨w.heap.size, 5, none⟩ = some (.int .i64 (l : Int)) := HI.out.cell 5
  have a6 : w2.cell? ⟨w.heap.size, 6, none⟩ = some (.int .u64 (b : Int)) := HI.out.cell 6
  have a7 : w2.cell? ⟨w.heap.size, 7, none⟩ = some (.int .i64 0) := HI.out.cell 7
  have a8 : w2.cell? ⟨w.heap.size, 8, none⟩ = some (.int .u64 0) := HI.out.cell 8
  have a9 : w2.cell? ⟨w.heap.size, 9, none⟩ = some (.int .i64 0) := HI.out.cell 9
  have a10 : w2.cell? ⟨w.heap.size, 10, none⟩ = some (.int .i64 0) := HI.out.cell 10
  have a11 : w2.cell? ⟨w.heap.size, 11, none⟩ = some (.int .u64 0) := HI.out.cell 11
  have a12 : w2.cell? ⟨w.heap.size, 12, none⟩ = some (.int .i64 0) := HI.out.cell 12
  have a13 : w2.cell? ⟨w.heap.size, 13, none⟩ = some (.int .u64 0) := HI.out.cell 13
  go_wp2_with fail
  clear a0 a1 a2 a3 a4 a5 a6 a7 a8 a9 a10 a11 a12 a13
  refine (hw.out _).mono ?_; rintro e w3 ⟨rfl, hg⟩
  replace HG := hide (HG.out.trans hg)
  clear hg
  go_wp2_with fail
  refine (same_zero _).mono ?_; rintro e w4 ⟨rfl, hg⟩
  replace HG := hide (HG.out.trans hg)
  clear hg
  go_wp2
  go_ret
  exact ⟨rfl, HG.out⟩

set_option maxHeartbeats 4000000 in
set_option maxRecDepth 100000 in
theorem check_key (r x : Int) (w : World) (hR : Ranks w) (hc : ckE r x = 0) : Calls Tryd.prog 14 #[.agg #[.int .i64 6, .int .u64 0, .int .i64 0, .bool false, .slice none 0 0, .int .i64 0, .int .u64 0, .int .i64 r, .int .u64 x, .int .i64 0, .int .i64 0, .int .u64 0, .int .i64 0, .int .u64 0]] w fun e w' => e = .returned (.int .i64 0) ∧ Gr w w' := by
  have ho := hide (fun w hR => own_key r x w hR hc)
  have hw := hide (fun w => without_key r x w)
  have HR := hide hR
  clear hR hc
  have HI := hide (IsB.new w #[.int .i64 6, .int .u64 0, .int .i64 0, .bool false, .slice none 0 0, .int .i64 0, .int .u64 0, .int .i64 r, .int .u64 x, .int .i64 0, .int .i64 0, .int .u64 0, .int .i64 0, .int .u64 0] 34)
  have HG := hide (show Gr w (w.alloc (.cells #[.int .i64 6, .int .u64 0, .int .i64 0, .bool false, .slice none 0 0, .int .i64 0, .int .u64 0, .int .i64 r, .int .u64 x, .int .i64 0, .int .i64 0, .int .u64 0, .int .i64 0, .int .u64 0] 34)) from (Gr.refl w).alloc _)
  go_enter Tryd.func14, Tryd.ntmps14
  go_wp2_with fail
  generalize w.alloc (.cells #[.int .i64 6, .int .u64 0, .int .i64 0, .bool false, .slice none 0 0, .int .i64 0, .int .u64 0, .int .i64 r, .int .u64 x, .int .i64 0, .int .i64 0, .int .u64 0, .int .i64 0, .int .u64 0] 34) = W0 at HI HG ⊢
  have a0 : W0.cell? ⟨w.heap.size, 0, none⟩ = some (.int .i64 6) := HI.out.cell 0
  have a1 : W0.cell? ⟨w.heap.size, 1, none⟩ = some (.int .u64 0) := HI.out.cell 1
  have a2 : W0.cell? ⟨w.heap.size, 2, none⟩ = some (.int .i64 0) := HI.out.cell 2
  have a3 : W0.cell? ⟨w.heap.size, 3, none⟩ = some (.bool false) := HI.out.cell 3
  have a4 : W0.cell? ⟨w.heap.size, 4, none⟩ = some (.slice none 0 0) := HI.out.cell 4
  have a5 : W0.cell? ⟨w.heap.size, 5, none⟩ = some (.int .i64 0) := HI.out.cell 5
  have a6 : W0.cell? ⟨w.heap.size, 6, none⟩ = some (.int .u64 0) := HI.out.cell 6
  have a7 : W0.cell? ⟨w.heap.size, 7, none⟩ = some (.int .i64 r) := HI.out.cell 7
  have a8 : W0.cell? ⟨w.heap.size, 8, none⟩ = some (.int .u64 x) := HI.out.cell 8
  have a9 : W0.cell? ⟨w.heap.size, 9, none⟩ = some (.int .i64 0) := HI.out.cell 9
  have a10 : W0.cell? ⟨w.heap.size, 10, none⟩ = some (.int .i64 0) := HI.out.cell 10
  have a11 : W0.cell? ⟨w.heap.size, 11, none⟩ = some (.int .u64 0) := HI.out.cell 11
  have a12 : W0.cell? ⟨w.heap.size, 12, none⟩ = some (.int .i64 0) := HI.out.cell 12
  have a13 : W0.cell? ⟨w.heap.size, 13, none⟩ = some (.int .u64 0) := HI.out.cell 13
  refine (isKind_yes 6 (by omega) (by omega) _).mono ?_; rintro e w1 ⟨rfl, rfl⟩
  go_wp2_with fail
  clear a0 a1 a2 a3 a4 a5 a6 a7 a8 a9 a10 a11 a12 a13
  refine (ho.out _ (HR.out.gr HG.out)).mono ?_; rintro e w2 ⟨rfl, hg⟩
  replace HI := hide (HI.out.gr hg)
  replace HG := hide (HG.out.trans hg)
  clear hg
  have a0 : w2.cell? ⟨w.heap.size, 0, none⟩ = some (.int .i64 6) := HI.out.cell 0
  have a1 : w2.cell? ⟨w.heap.size, 1, none⟩ = some (.int .u64 0) := HI.out.cell 1
  have a2 : w2.cell? ⟨w.heap.size, 2, none⟩ = some (.int .i64 0) := HI.out.cell 2
  have a3 : w2.cell? ⟨w.heap.size, 3, none⟩ = some (.bool false) := HI.out.cell 3
  have a4 : w2.cell? ⟨w.heap.size, 4, none⟩ = some (.slice none 0 0) := HI.out.cell 4
  have a5 : w2.cell? ⟨w.heap.size, 5, none⟩ = some (.int .i64 0) := HI.out.cell 5
  have a6 : w2.cell? ⟨w.heap.size, 6, none⟩ = some (.int .u64 0) := HI.out.cell 6
  have a7 : w2.cell? ⟨w.heap.size, 7, none⟩ = some (.int .i64 r) := HI.out.cell 7
  have a8 : w2.cell? ⟨w.heap.size, 8, none⟩ = some (.int .u64 x) := HI.out.cell 8
  have a9 : w2.cell? ⟨w.heap.size, 9, none⟩ = some (.int .i64 0) := HI.out.cell 9
  have a10 : w2.cell? ⟨w.heap.size, 10, none⟩ = some (.int .i64 0) := HI.out.cell 10
  have a11 : w2.cell? ⟨w.heap.size, 11, none⟩ = some (.int .u64 0) := HI.out.cell 11
  have a12 : w2.cell? ⟨w.heap.size, 12, none⟩ = some (.int .i64 0) := HI.out.cell 12
  have a13 : w2.cell? ⟨w.heap.size, 13, none⟩ = some (.int .u64 0) := HI.out.cell 13
  go_wp2_with fail
  clear a0 a1 a2 a3 a4 a5 a6 a7 a8 a9 a10 a11 a12 a13
  refine (hw.out _).mono ?_; rintro e w3 ⟨rfl, hg⟩
  replace HG := hide (HG.out.trans hg)
  clear hg
  go_wp2_with fail
  refine (same_zero _).mono ?_; rintro e w4 ⟨rfl, hg⟩
  replace HG := hide (HG.out.trans hg)
  clear hg
  go_wp2
  go_ret
  exact ⟨rfl, HG.out⟩

end Go.Proofs.YtmhcmlegdoapdaaDoor
