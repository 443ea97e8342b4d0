/- Fields that have just their own part, and bytes of their own that are none: how many bytes they have, and these put. -/
import Derived.Test.YtmhcmlegdoapdaaDoorRT
import Derived.Test.YtmhcmlegdoapdaaDoorVA
import Derived.Test.YtmhcmlegdoapdaaDoorWD
import Derived.Test.YtmhcmlegdoapdaaDoorWF
import Derived.Laws.AppendOwnNone
namespace Go.Proofs.YtmhcmlegdoapdaaDoor
open Go.RowKit

set_option maxHeartbeats 2000000 in
set_option maxRecDepth 100000 in
theorem putField_intz (za : Option Addr) (zc : Nat) (i : Int) (hi0 : -9223372036854775808 ≤ i) (hi1 : i ≤ 9223372036854775807) (base g n cap : Nat) (xs : List Int) (w : World)
    (hown : w.ownsRow base 5 1 (.slice (some ⟨g, 0, none⟩) n cap) n (u8s xs)) (hroom : n + (nb (fold i)).length ≤ cap) :
    Calls Tryd.prog 26 #[.slice (some ⟨g, 0, none⟩) n cap, .agg #[.int .i64 2, .int .u64 0, .int .i64 (i : Int), .bool false, .slice za 0 zc, .int .i64 0, .int .u64 0, .int .i64 0, .int .u64 0, .int .i64 0, .int .i64 0, .int .u64 0, .int .i64 0, .int .u64 0]] w fun e w' => e = .returned (.slice (some ⟨g, 0, none⟩) (n + (nb (fold i)).length) cap) ∧ Put w w' base g n cap xs (nb (fold i)) := by
  have HI := hide (IsB.new w #[.int .i64 2, .int .u64 0, .int .i64 (i : Int), .bool false, .slice za 0 zc, .int .i64 0, .int .u64 0, .int .i64 0, .int .u64 0, .int .i64 0, .int .i64 0, .int .u64 0, .int .i64 0, .int .u64 0] 34)
  have hown0 := hown.alloc (.cells #[.int .i64 2, .int .u64 0, .int .i64 (i : Int), .bool false, .slice za 0 zc, .int .i64 0, .int .u64 0, .int .i64 0, .int .u64 0, .int .i64 0, .int .i64 0, .int .u64 0, .int .i64 0, .int .u64 0] 34)
  have HG := hide (World.grownBy_alloc w (.cells #[.int .i64 2, .int .u64 0, .int .i64 (i : Int), .bool false, .slice za 0 zc, .int .i64 0, .int .u64 0, .int .i64 0, .int .u64 0, .int .i64 0, .int .i64 0, .int .u64 0, .int .i64 0, .int .u64 0] 34) (some g))
  clear hown
  go_enter Tryd.func26, Tryd.ntmps26
  go_wp2_with fail
  generalize w.alloc (.cells #[.int .i64 2, .int .u64 0, .int .i64 (i : Int), .bool false, .slice za 0 zc, .int .i64 0, .int .u64 0, .int .i64 0, .int .u64 0, .int .i64 0, .int .i64 0, .int .u64 0, .int .i64 0, .int .u64 0] 34) = W0 at HI HG hown0 ⊢
  have a0 : W0.cell? ⟨w.heap.size, 0, none⟩ = some (.int .i64 2) := HI.out.cell 0
  have a1 : W0.cell? ⟨w.heap.size, 1, none⟩ = some (.int .u64 0) := HI.out.cell 1
  have a2 : W0.cell? ⟨w.heap.size, 2, none⟩ = some (.int .i64 (i : Int)) := HI.out.cell 2
  have a3 : W0.cell? ⟨w.heap.size, 3, none⟩ = some (.bool false) := HI.out.cell 3
  have a4 : W0.cell? ⟨w.heap.size, 4, none⟩ = some (.slice za 0 zc) := HI.out.cell 4
  have a5 : W0.cell? ⟨w.heap.size, 5, none⟩ = some (.int .i64 0) := HI.out.cell 5
  have a6 : W0.cell? ⟨w.heap.size, 6, none⟩ = some (.int .u64 0) := HI.out.cell 6
  have a7 : W0.cell? ⟨w.heap.size, 7, none⟩ = some (.int .i64 0) := HI.out.cell 7
  have a8 : W0.cell? ⟨w.heap.size, 8, none⟩ = some (.int .u64 0) := HI.out.cell 8
  have a9 : W0.cell? ⟨w.heap.size, 9, none⟩ = some (.int .i64 0) := HI.out.cell 9
  have a10 : W0.cell? ⟨w.heap.size, 10, none⟩ = some (.int .i64 0) := HI.out.cell 10
  have a11 : W0.cell? ⟨w.heap.size, 11, none⟩ = some (.int .u64 0) := HI.out.cell 11
  have a12 : W0.cell? ⟨w.heap.size, 12, none⟩ = some (.int .i64 0) := HI.out.cell 12
  have a13 : W0.cell? ⟨w.heap.size, 13, none⟩ = some (.int .u64 0) := HI.out.cell 13
  have hf := hide (fun w => folded_any i hi0 hi1 w)
  go_wp2_with fail
  refine (hf.out _).mono ?_; rintro e w1 ⟨rfl, rfl⟩
  go_wp2_with fail
  refine (putNumber_any (fold i) (fold_lt i hi0 hi1) base g n cap xs _ hown0 hroom).mono ?_; rintro e w2 ⟨rfl, hput⟩
  have hp := hide (show Put w _ base g n cap xs (nb (fold i)) from ⟨hput.1, grown_trans HG.out hput.2⟩)
  clear hput a0 a1 a2 a3 a4 a5 a6 a7 a8 a9 a10 a11 a12 a13
  go_wp2
  go_ret
  exact ⟨rfl, hp.out⟩

set_option maxHeartbeats 2000000 in
set_option maxRecDepth 100000 in
theorem putField_vecz (za : Option Addr) (zc : Nat) (l b : Nat) (hl : l ≤ 32) (hb2 : b < 2 ^ l) (base g n cap : Nat) (xs : List Int) (w : World)
    (hown : w.ownsRow base 5 1 (.slice (some ⟨g, 0, none⟩) n cap) n (u8s xs)) (hroom : n + (vb l b).length ≤ cap) :
    Calls Tryd.prog 26 #[.slice (some ⟨g, 0, none⟩) n cap, .agg #[.int .i64 5, .int .u64 0, .int .i64 0, .bool false, .slice za 0 zc, .int .i64 (l : Int), .int .u64 (b : Int), .int .i64 0, .int .u64 0, .int .i64 0, .int .i64 0, .int .u64 0, .int .i64 0, .int .u64 0]] w fun e w' => e = .returned (.slice (some ⟨g, 0, none⟩) (n + (vb l b).length) cap) ∧ Put w w' base g n cap xs (vb l b) := by
  have HI := hide (IsB.new w #[.int .i64 5, .int .u64 0, .int .i64 0, .bool false, .slice za 0 zc, .int .i64 (l : Int), .int .u64 (b : Int), .int .i64 0, .int .u64 0, .int .i64 0, .int .i64 0, .int .u64 0, .int .i64 0, .int .u64 0] 34)
  have hown0 := hown.alloc (.cells #[.int .i64 5, .int .u64 0, .int .i64 0, .bool false, .slice za 0 zc, .int .i64 (l : Int), .int .u64 (b : Int), .int .i64 0, .int .u64 0, .int .i64 0, .int .i64 0, .int .u64 0, .int .i64 0, .int .u64 0] 34)
  have HG := hide (World.grownBy_alloc w (.cells #[.int .i64 5, .int .u64 0, .int .i64 0, .bool false, .slice za 0 zc, .int .i64 (l : Int), .int .u64 (b : Int), .int .i64 0, .int .u64 0, .int .i64 0, .int .i64 0, .int .u64 0, .int .i64 0, .int .u64 0] 34) (some g))
  clear hown
  go_enter Tryd.func26, Tryd.ntmps26
  go_wp2_with fail
  generalize w.alloc (.cells #[.int .i64 5, .int .u64 0, .int .i64 0, .bool false, .slice za 0 zc, .int .i64 (l : Int), .int .u64 (b : Int), .int .i64 0, .int .u64 0, .int .i64 0, .int .i64 0, .int .u64 0, .int .i64 0, .int .u64 0] 34) = W0 at HI HG hown0 ⊢
  have a0 : W0.cell? ⟨w.heap.size, 0, none⟩ = some (.int .i64 5) := HI.out.cell 0
  have a1 : W0.cell? ⟨w.heap.size, 1, none⟩ = some (.int .u64 0) := HI.out.cell 1
  have a2 : W0.cell? ⟨w.heap.size, 2, none⟩ = some (.int .i64 0) := HI.out.cell 2
  have a3 : W0.cell? ⟨w.heap.size, 3, none⟩ = some (.bool false) := HI.out.cell 3
  have a4 : W0.cell? ⟨w.heap.size, 4, none⟩ = some (.slice za 0 zc) := HI.out.cell 4
  have a5 : W0.cell? ⟨w.heap.size, 5, none⟩ = some (.int .i64 (l : Int)) := HI.out.cell 5
  have a6 : W0.cell? ⟨w.heap.size, 6, none⟩ = some (.int .u64 (b : Int)) := HI.out.cell 6
  have a7 : W0.cell? ⟨w.heap.size, 7, none⟩ = some (.int .i64 0) := HI.out.cell 7
  have a8 : W0.cell? ⟨w.heap.size, 8, none⟩ = some (.int .u64 0) := HI.out.cell 8
  have a9 : W0.cell? ⟨w.heap.size, 9, none⟩ = some (.int .i64 0) := HI.out.cell 9
  have a10 : W0.cell? ⟨w.heap.size, 10, none⟩ = some (.int .i64 0) := HI.out.cell 10
  have a11 : W0.cell? ⟨w.heap.size, 11, none⟩ = some (.int .u64 0) := HI.out.cell 11
  have a12 : W0.cell? ⟨w.heap.size, 12, none⟩ = some (.int .i64 0) := HI.out.cell 12
  have a13 : W0.cell? ⟨w.heap.size, 13, none⟩ = some (.int .u64 0) := HI.out.cell 13
  go_wp2_with fail
  refine (putVector_any l b hl hb2 base g n cap xs _ hown0 hroom).mono ?_; rintro e w2 ⟨rfl, hput⟩
  have hp := hide (show Put w _ base g n cap xs (vb l b) from ⟨hput.1, grown_trans HG.out hput.2⟩)
  clear hput a0 a1 a2 a3 a4 a5 a6 a7 a8 a9 a10 a11 a12 a13
  go_wp2
  go_ret
  exact ⟨rfl, hp.out⟩

set_option maxHeartbeats 2000000 in
set_option maxRecDepth 100000 in
theorem putField_keyz (za : Option Addr) (zc : Nat) (r x : Int) (hr0 : 1 ≤ r) (hr3 : r ≤ 3) (base g n cap : Nat) (xs : List Int) (w : World)
    (hown : w.ownsRow base 5 1 (.slice (some ⟨g, 0, none⟩) n cap) n (u8s xs)) (hroom : n + (kyb r x).length ≤ cap) :
    Calls Tryd.prog 26 #[.slice (some ⟨g, 0, none⟩) n cap, .agg #[.int .i64 6, .int .u64 0, .int .i64 0, .bool false, .slice za 0 zc, .int .i64 0, .int .u64 0, .int .i64 r, .int .u64 x, .int .i64 0, .int .i64 0, .int .u64 0, .int .i64 0, .int .u64 0]] w fun e w' => e = .returned (.slice (some ⟨g, 0, none⟩) (n + (kyb r x).length) cap) ∧ Put w w' base g n cap xs (kyb r x) := by
  have HI := hide (IsB.new w #[.int .i64 6, .int .u64 0, .int .i64 0, .bool false, .slice za 0 zc, .int .i64 0, .int .u64 0, .int .i64 r, .int .u64 x, .int .i64 0, .int .i64 0, .int .u64 0, .int .i64 0, .int .u64 0] 34)
  have hown0 := hown.alloc (.cells #[.int .i64 6, .int .u64 0, .int .i64 0, .bool false, .slice za 0 zc, .int .i64 0, .int .u64 0, .int .i64 r, .int .u64 x, .int .i64 0, .int .i64 0, .int .u64 0, .int .i64 0, .int .u64 0] 34)
  have HG := hide (World.grownBy_alloc w (.cells #[.int .i64 6, .int .u64 0, .int .i64 0, .bool false, .slice za 0 zc, .int .i64 0, .int .u64 0, .int .i64 r, .int .u64 x, .int .i64 0, .int .i64 0, .int .u64 0, .int .i64 0, .int .u64 0] 34) (some g))
  clear hown
  go_enter Tryd.func26, Tryd.ntmps26
  go_wp2_with fail
  generalize w.alloc (.cells #[.int .i64 6, .int .u64 0, .int .i64 0, .bool false, .slice za 0 zc, .int .i64 0, .int .u64 0, .int .i64 r, .int .u64 x, .int .i64 0, .int .i64 0, .int .u64 0, .int .i64 0, .int .u64 0] 34) = W0 at HI HG hown0 ⊢
  have a0 : W0.cell? ⟨w.heap.size, 0, none⟩ = some (.int .i64 6) := HI.out.cell 0
  have a1 : W0.cell? ⟨w.heap.size, 1, none⟩ = some (.int .u64 0) := HI.out.cell 1
  have a2 : W0.cell? ⟨w.heap.size, 2, none⟩ = some (.int .i64 0) := HI.out.cell 2
  have a3 : W0.cell? ⟨w.heap.size, 3, none⟩ = some (.bool false) := HI.out.cell 3
  have a4 : W0.cell? ⟨w.heap.size, 4, none⟩ = some (.slice za 0 zc) := HI.out.cell 4
  have a5 : W0.cell? ⟨w.heap.size, 5, none⟩ = some (.int .i64 0) := HI.out.cell 5
  have a6 : W0.cell? ⟨w.heap.size, 6, none⟩ = some (.int .u64 0) := HI.out.cell 6
  have a7 : W0.cell? ⟨w.heap.size, 7, none⟩ = some (.int .i64 r) := HI.out.cell 7
  have a8 : W0.cell? ⟨w.heap.size, 8, none⟩ = some (.int .u64 x) := HI.out.cell 8
  have a9 : W0.cell? ⟨w.heap.size, 9, none⟩ = some (.int .i64 0) := HI.out.cell 9
  have a10 : W0.cell? ⟨w.heap.size, 10, none⟩ = some (.int .i64 0) := HI.out.cell 10
  have a11 : W0.cell? ⟨w.heap.size, 11, none⟩ = some (.int .u64 0) := HI.out.cell 11
  have a12 : W0.cell? ⟨w.heap.size, 12, none⟩ = some (.int .i64 0) := HI.out.cell 12
  have a13 : W0.cell? ⟨w.heap.size, 13, none⟩ = some (.int .u64 0) := HI.out.cell 13
  go_wp2_with fail
  refine (putKey_any r x hr0 hr3 base g n cap xs _ hown0 hroom).mono ?_; rintro e w2 ⟨rfl, hput⟩
  have hp := hide (show Put w _ base g n cap xs (kyb r x) from ⟨hput.1, grown_trans HG.out hput.2⟩)
  clear hput a0 a1 a2 a3 a4 a5 a6 a7 a8 a9 a10 a11 a12 a13
  go_wp2
  go_ret
  exact ⟨rfl, hp.out⟩

set_option maxHeartbeats 2000000 in
set_option maxRecDepth 100000 in
theorem fieldSize_intz (za : Option Addr) (zc : Nat) (i : Int) (hi0 : -9223372036854775808 ≤ i) (hi1 : i ≤ 9223372036854775807) (w : World) :
    Calls Tryd.prog 28 #[.agg #[.int .i64 2, .int .u64 0, .int .i64 (i : Int), .bool false, .slice za 0 zc, .int .i64 0, .int .u64 0, .int .i64 0, .int .u64 0, .int .i64 0, .int .i64 0, .int .u64 0, .int .i64 0, .int .u64 0]] w fun e w' => e = .returned (.int .i64 ((nb (fold i)).length : Int)) ∧ Gr w w' := by
  have HI := hide (IsB.new w #[.int .i64 2, .int .u64 0, .int .i64 (i : Int), .bool false, .slice za 0 zc, .int .i64 0, .int .u64 0, .int .i64 0, .int .u64 0, .int .i64 0, .int .i64 0, .int .u64 0, .int .i64 0, .int .u64 0] 34)
  have HG := hide (show Gr w (w.alloc (.cells #[.int .i64 2, .int .u64 0, .int .i64 (i : Int), .bool false, .slice za 0 zc, .int .i64 0, .int .u64 0, .int .i64 0, .int .u64 0, .int .i64 0, .int .i64 0, .int .u64 0, .int .i64 0, .int .u64 0] 34)) from (Gr.refl w).alloc _)
  go_enter Tryd.func28, Tryd.ntmps28
  go_wp2_with fail
  generalize w.alloc (.cells #[.int .i64 2, .int .u64 0, .int .i64 (i : Int), .bool false, .slice za 0 zc, .int .i64 0, .int .u64 0, .int .i64 0, .int .u64 0, .int .i64 0, .int .i64 0, .int .u64 0, .int .i64 0, .int .u64 0] 34) = W0 at HI HG ⊢
  have a0 : W0.cell? ⟨w.heap.size, 0, none⟩ = some (.int .i64 2) := HI.out.cell 0
  have a1 : W0.cell? ⟨w.heap.size, 1, none⟩ = some (.int .u64 0) := HI.out.cell 1
  have a2 : W0.cell? ⟨w.heap.size, 2, none⟩ = some (.int .i64 (i : Int)) := HI.out.cell 2
  have a3 : W0.cell? ⟨w.heap.size, 3, none⟩ = some (.bool false) := HI.out.cell 3
  have a4 : W0.cell? ⟨w.heap.size, 4, none⟩ = some (.slice za 0 zc) := HI.out.cell 4
  have a5 : W0.cell? ⟨w.heap.size, 5, none⟩ = some (.int .i64 0) := HI.out.cell 5
  have a6 : W0.cell? ⟨w.heap.size, 6, none⟩ = some (.int .u64 0) := HI.out.cell 6
  have a7 : W0.cell? ⟨w.heap.size, 7, none⟩ = some (.int .i64 0) := HI.out.cell 7
  have a8 : W0.cell? ⟨w.heap.size, 8, none⟩ = some (.int .u64 0) := HI.out.cell 8
  have a9 : W0.cell? ⟨w.heap.size, 9, none⟩ = some (.int .i64 0) := HI.out.cell 9
  have a10 : W0.cell? ⟨w.heap.size, 10, none⟩ = some (.int .i64 0) := HI.out.cell 10
  have a11 : W0.cell? ⟨w.heap.size, 11, none⟩ = some (.int .u64 0) := HI.out.cell 11
  have a12 : W0.cell? ⟨w.heap.size, 12, none⟩ = some (.int .i64 0) := HI.out.cell 12
  have a13 : W0.cell? ⟨w.heap.size, 13, none⟩ = some (.int .u64 0) := HI.out.cell 13
  have hf := hide (fun w => folded_any i hi0 hi1 w)
  have hs := hide (fun w => numberSize_any (fold i) (fold_lt i hi0 hi1) w)
  go_wp2_with fail
  refine (hf.out _).mono ?_; rintro e w1 ⟨rfl, rfl⟩
  go_wp2_with fail
  refine (hs.out _).mono ?_; rintro e w2 ⟨rfl, rfl⟩
  clear a0 a1 a2 a3 a4 a5 a6 a7 a8 a9 a10 a11 a12 a13
  go_wp2
  go_ret
  exact ⟨rfl, HG.out⟩

set_option maxHeartbeats 2000000 in
set_option maxRecDepth 100000 in
theorem fieldSize_vecz (za : Option Addr) (zc : Nat) (l b : Nat) (hl : l ≤ 32) (w : World) :
    Calls Tryd.prog 28 #[.agg #[.int .i64 5, .int .u64 0, .int .i64 0, .bool false, .slice za 0 zc, .int .i64 (l : Int), .int .u64 (b : Int), .int .i64 0, .int .u64 0, .int .i64 0, .int .i64 0, .int .u64 0, .int .i64 0, .int .u64 0]] w fun e w' => e = .returned (.int .i64 ((vb l b).length : Int)) ∧ Gr w w' := by
  have hs := hide (fun w => bitBytes_any l (by omega) w)
  have hlen : (vb l b).length = (l + 7) / 8 + 1 := by simp [vb, hb_len]
  have hm : (l + 7) / 8 ≤ 4 := by omega
  rw [hlen]
  generalize (l + 7) / 8 = M at *
  have HI := hide (IsB.new w #[.int .i64 5, .int .u64 0, .int .i64 0, .bool false, .slice za 0 zc, .int .i64 (l : Int), .int .u64 (b : Int), .int .i64 0, .int .u64 0, .int .i64 0, .int .i64 0, .int .u64 0, .int .i64 0, .int .u64 0] 34)
  have HG := hide (show Gr w (w.alloc (.cells #[.int .i64 5, .int .u64 0, .int .i64 0, .bool false, .slice za 0 zc, .int .i64 (l : Int), .int .u64 (b : Int), .int .i64 0, .int .u64 0, .int .i64 0, .int .i64 0, .int .u64 0, .int .i64 0, .int .u64 0] 34)) from (Gr.refl w).alloc _)
  go_enter Tryd.func28, Tryd.ntmps28
  go_wp2_with fail
  generalize w.alloc (.cells #[.int .i64 5, .int .u64 0, .int .i64 0, .bool false, .slice za 0 zc, .int .i64 (l : Int), .int .u64 (b : Int), .int .i64 0, .int .u64 0, .int .i64 0, .int .i64 0, .int .u64 0, .int .i64 0, .int .u64 0] 34) = W0 at HI HG ⊢
  have a0 : W0.cell? ⟨w.heap.size, 0, none⟩ = some (.int .i64 5) := HI.out.cell 0
  have a1 : W0.cell? ⟨w.heap.size, 1, none⟩ = some (.int .u64 0) := HI.out.cell 1
  have a2 : W0.cell? ⟨w.heap.size, 2, none⟩ = some (.int .i64 0) := HI.out.cell 2
  have a3 : W0.cell? ⟨w.heap.size, 3, none⟩ = some (.bool false) := HI.out.cell 3
  have a4 : W0.cell? ⟨w.heap.size, 4, none⟩ = some (.slice za 0 zc) := HI.out.cell 4
  have a5 : W0.cell? ⟨w.heap.size, 5, none⟩ = some (.int .i64 (l : Int)) := HI.out.cell 5
  have a6 : W0.cell? ⟨w.heap.size, 6, none⟩ = some (.int .u64 (b : Int)) := HI.out.cell 6
  have a7 : W0.cell? ⟨w.heap.size, 7, none⟩ = some (.int .i64 0) := HI.out.cell 7
  have a8 : W0.cell? ⟨w.heap.size, 8, none⟩ = some (.int .u64 0) := HI.out.cell 8
  have a9 : W0.cell? ⟨w.heap.size, 9, none⟩ = some (.int .i64 0) := HI.out.cell 9
  have a10 : W0.cell? ⟨w.heap.size, 10, none⟩ = some (.int .i64 0) := HI.out.cell 10
  have a11 : W0.cell? ⟨w.heap.size, 11, none⟩ = some (.int .u64 0) := HI.out.cell 11
  have a12 : W0.cell? ⟨w.heap.size, 12, none⟩ = some (.int .i64 0) := HI.out.cell 12
  have a13 : W0.cell? ⟨w.heap.size, 13, none⟩ = some (.int .u64 0) := HI.out.cell 13
  go_wp2_with fail
  refine (hs.out _).mono ?_; rintro e w2 ⟨rfl, rfl⟩
  clear a0 a1 a2 a3 a4 a5 a6 a7 a8 a9 a10 a11 a12 a13
  go_wp2
  go_ret
  exact ⟨by rw [Int.natCast_add, Int.add_comm]; rfl, HG.out⟩

set_option maxHeartbeats 2000000 in
set_option maxRecDepth 100000 in
theorem fieldSize_keyz (za : Option Addr) (zc : Nat) (r x : Int) (w : World) :
    Calls Tryd.prog 28 #[.agg #[.int .i64 6, .int .u64 0, .int .i64 0, .bool false, .slice za 0 zc, .int .i64 0, .int .u64 0, .int .i64 r, .int .u64 x, .int .i64 0, .int .i64 0, .int .u64 0, .int .i64 0, .int .u64 0]] w fun e w' => e = .returned (.int .i64 ((kyb r x).length : Int)) ∧ Gr w w' := by
  have hs := hide (fun w => rankBytes_any r w)
  obtain ⟨m, hm8, hm, hlen⟩ : ∃ m : Nat, m ≤ 8 ∧ (if r = 2 then 8 else 0 : Int) = (m : Int) ∧ (kyb r x).length = m + 1 := by
    by_cases h2 : r = 2
    · exact ⟨8, by omega, by rw [if_pos h2]; rfl, by unfold kyb; rw [if_pos h2, List.length_cons, hb_len]⟩
    · exact ⟨0, by omega, by rw [if_neg h2]; rfl, by unfold kyb; rw [if_neg h2, List.length_cons, hb_len]⟩
  rw [hm] at hs
  rw [hlen]
  clear hm hlen
  have HI := hide (IsB.new w #[.int .i64 6, .int .u64 0, .int .i64 0, .bool false, .slice za 0 zc, .int .i64 0, .int .u64 0, .int .i64 r, .int .u64 x, .int .i64 0, .int .i64 0, .int .u64 0, .int .i64 0, .int .u64 0] 34)
  have HG := hide (show Gr w (w.alloc (.cells #[.int .i64 6, .int .u64 0, .int .i64 0, .bool false, .slice za 0 zc, .int .i64 0, .int .u64 0, .int .i64 r, .int .u64 x, .int .i64 0, .int .i64 0, .int .u64 0, .int .i64 0, .int .u64 0] 34)) from (Gr.refl w).alloc _)
  go_enter Tryd.func28, Tryd.ntmps28
  go_wp2_with fail
  generalize w.alloc (.cells #[.int .i64 6, .int .u64 0, .int .i64 0, .bool false, .slice za 0 zc, .int .i64 0, .int .u64 0, .int .i64 r, .int .u64 x, .int .i64 0, .int .i64 0, .int .u64 0, .int .i64 0, .int .u64 0] 34) = W0 at HI HG ⊢
  have a0 : W0.cell? ⟨w.heap.size, 0, none⟩ = some (.int .i64 6) := HI.out.cell 0
  have a1 : W0.cell? ⟨w.heap.size, 1, none⟩ = some (.int .u64 0) := HI.out.cell 1
  have a2 : W0.cell? ⟨w.heap.size, 2, none⟩ = some (.int .i64 0) := HI.out.cell 2
  have a3 : W0.cell? ⟨w.heap.size, 3, none⟩ = some (.bool false) := HI.out.cell 3
  have a4 : W0.cell? ⟨w.heap.size, 4, none⟩ = some (.slice za 0 zc) := HI.out.cell 4
  have a5 : W0.cell? ⟨w.heap.size, 5, none⟩ = some (.int .i64 0) := HI.out.cell 5
  have a6 : W0.cell? ⟨w.heap.size, 6, none⟩ = some (.int .u64 0) := HI.out.cell 6
  have a7 : W0.cell? ⟨w.heap.size, 7, none⟩ = some (.int .i64 r) := HI.out.cell 7
  have a8 : W0.cell? ⟨w.heap.size, 8, none⟩ = some (.int .u64 x) := HI.out.cell 8
  have a9 : W0.cell? ⟨w.heap.size, 9, none⟩ = some (.int .i64 0) := HI.out.cell 9
  have a10 : W0.cell? ⟨w.heap.size, 10, none⟩ = some (.int .i64 0) := HI.out.cell 10
  have a11 : W0.cell? ⟨w.heap.size, 11, none⟩ = some (.int .u64 0) := HI.out.cell 11
  have a12 : W0.cell? ⟨w.heap.size, 12, none⟩ = some (.int .i64 0) := HI.out.cell 12
  have a13 : W0.cell? ⟨w.heap.size, 13, none⟩ = some (.int .u64 0) := HI.out.cell 13
  go_wp2_with fail
  refine (hs.out _).mono ?_; rintro e w2 ⟨rfl, rfl⟩
  clear a0 a1 a2 a3 a4 a5 a6 a7 a8 a9 a10 a11 a12 a13
  go_wp2
  go_ret
  exact ⟨by rw [Int.natCast_add, Int.add_comm]; rfl, HG.out⟩

set_option maxHeartbeats 2000000 in
set_option maxRecDepth 100000 in
theorem putField_numz (za : Option Addr) (zc : Nat) (m : Nat) (hm : m < 18446744073709551616) (base g n cap : Nat) (xs : List Int) (w : World)
    (hown : w.ownsRow base 5 1 (.slice (some ⟨g, 0, none⟩) n cap) n (u8s xs)) (hroom : n + (nb m).length ≤ cap) :
    Calls Tryd.prog 26 #[.slice (some ⟨g, 0, none⟩) n cap, .agg #[.int .i64 1, .int .u64 (m : Int), .int .i64 0, .bool false, .slice za 0 zc, .int .i64 0, .int .u64 0, .int .i64 0, .int .u64 0, .int .i64 0, .int .i64 0, .int .u64 0, .int .i64 0, .int .u64 0]] w fun e w' => e = .returned (.slice (some ⟨g, 0, none⟩) (n + (nb m).length) cap) ∧ Put w w' base g n cap xs (nb m) := by
  have HI := hide (IsB.new w #[.int .i64 1, .int .u64 (m : Int), .int .i64 0, .bool false, .slice za 0 zc, .int .i64 0, .int .u64 0, .int .i64 0, .int .u64 0, .int .i64 0, .int .i64 0, .int .u64 0, .int .i64 0, .int .u64 0] 34)
  have hown0 := hown.alloc (.cells #[.int .i64 1, .int .u64 (m : Int), .int .i64 0, .bool false, .slice za 0 zc, .int .i64 0, .int .u64 0, .int .i64 0, .int .u64 0, .int .i64 0, .int .i64 0, .int .u64 0, .int .i64 0, .int .u64 0] 34)
  have HG := hide (World.grownBy_alloc w (.cells #[.int .i64 1, .int .u64 (m : Int), .int .i64 0, .bool false, .slice za 0 zc, .int .i64 0, .int .u64 0, .int .i64 0, .int .u64 0, .int .i64 0, .int .i64 0, .int .u64 0, .int .i64 0, .int .u64 0] 34) (some g))
  clear hown
  go_enter Tryd.func26, Tryd.ntmps26
  go_wp2_with fail
  generalize w.alloc (.cells #[.int .i64 1, .int .u64 (m : Int), .int .i64 0, .bool false, .slice za 0 zc, .int .i64 0, .int .u64 0, .int .i64 0, .int .u64 0, .int .i64 0, .int .i64 0, .int .u64 0, .int .i64 0, .int .u64 0] 34) = W0 at HI HG hown0 ⊢
  have a0 : W0.cell? ⟨w.heap.size, 0, none⟩ = some (.int .i64 1) := HI.out.cell 0
  have a1 : W0.cell? ⟨w.heap.size, 1, none⟩ = some (.int .u64 (m : Int)) := HI.out.cell 1
  have a2 : W0.cell? ⟨w.heap.size, 2, none⟩ = some (.int .i64 0) := HI.out.cell 2
  have a3 : W0.cell? ⟨w.heap.size, 3, none⟩ = some (.bool false) := HI.out.cell 3
  have a4 : W0.cell? ⟨w.heap.size, 4, none⟩ = some (.slice za 0 zc) := HI.out.cell 4
  have a5 : W0.cell? ⟨w.heap.size, 5, none⟩ = some (.int .i64 0) := HI.out.cell 5
  have a6 : W0.cell? ⟨w.heap.size, 6, none⟩ = some (.int .u64 0) := HI.out.cell 6
  have a7 : W0.cell? ⟨w.heap.size, 7, none⟩ = some (.int .i64 0) := HI.out.cell 7
  have a8 : W0.cell? ⟨w.heap.size, 8, none⟩ = some (.int .u64 0) := HI.out.cell 8
  have a9 : W0.cell? ⟨w.heap.size, 9, none⟩ = some (.int .i64 0) := HI.out.cell 9
  have a10 : W0.cell? ⟨w.heap.size, 10, none⟩ = some (.int .i64 0) := HI.out.cell 10
  have a11 : W0.cell? ⟨w.heap.size, 11, none⟩ = some (.int .u64 0) := HI.out.cell 11
  have a12 : W0.cell? ⟨w.heap.size, 12, none⟩ = some (.int .i64 0) := HI.out.cell 12
  have a13 : W0.cell? ⟨w.heap.size, 13, none⟩ = some (.int .u64 0) := HI.out.cell 13
  go_wp2_with fail
  refine (putNumber_any m hm base g n cap xs _ hown0 hroom).mono ?_; rintro e w2 ⟨rfl, hput⟩
  have hp := hide (show Put w _ base g n cap xs (nb m) from ⟨hput.1, grown_trans HG.out hput.2⟩)
  clear hput a0 a1 a2 a3 a4 a5 a6 a7 a8 a9 a10 a11 a12 a13
  go_wp2
  go_ret
  exact ⟨rfl, hp.out⟩

set_option maxHeartbeats 2000000 in
set_option maxRecDepth 100000 in
theorem putField_truthz (za : Option Addr) (zc : Nat) (t : Bool) (base g n cap : Nat) (xs : List Int) (w : World)
    (hown : w.ownsRow base 5 1 (.slice (some ⟨g, 0, none⟩) n cap) n (u8s xs)) (hroom : n + (tb t).length ≤ cap) :
    Calls Tryd.prog 26 #[.slice (some ⟨g, 0, none⟩) n cap, .agg #[.int .i64 3, .int .u64 0, .int .i64 0, .bool t, .slice za 0 zc, .int .i64 0, .int .u64 0, .int .i64 0, .int .u64 0, .int .i64 0, .int .i64 0, .int .u64 0, .int .i64 0, .int .u64 0]] w fun e w' => e = .returned (.slice (some ⟨g, 0, none⟩) (n + (tb t).length) cap) ∧ Put w w' base g n cap xs (tb t) := by
  have HI := hide (IsB.new w #[.int .i64 3, .int .u64 0, .int .i64 0, .bool t, .slice za 0 zc, .int .i64 0, .int .u64 0, .int .i64 0, .int .u64 0, .int .i64 0, .int .i64 0, .int .u64 0, .int .i64 0, .int .u64 0] 34)
  have hown0 := hown.alloc (.cells #[.int .i64 3, .int .u64 0, .int .i64 0, .bool t, .slice za 0 zc, .int .i64 0, .int .u64 0, .int .i64 0, .int .u64 0, .int .i64 0, .int .i64 0, .int .u64 0, .int .i64 0, .int .u64 0] 34)
  have HG := hide (World.grownBy_alloc w (.cells #[.int .i64 3, .int .u64 0, .int .i64 0, .bool t, .slice za 0 zc, .int .i64 0, .int .u64 0, .int .i64 0, .int .u64 0, .int .i64 0, .int .i64 0, .int .u64 0, .int .i64 0, .int .u64 0] 34) (some g))
  clear hown
  go_enter Tryd.func26, Tryd.ntmps26
  go_wp2_with fail
  generalize w.alloc (.cells #[.int .i64 3, .int .u64 0, .int .i64 0, .bool t, .slice za 0 zc, .int .i64 0, .int .u64 0, .int .i64 0, .int .u64 0, .int .i64 0, .int .i64 0, .int .u64 0, .int .i64 0, .int .u64 0] 34) = W0 at HI HG hown0 ⊢
  have a0 : W0.cell? ⟨w.heap.size, 0, none⟩ = some (.int .i64 3) := HI.out.cell 0
  have a1 : W0.cell? ⟨w.heap.size, 1, none⟩ = some (.int .u64 0) := HI.out.cell 1
  have a2 : W0.cell? ⟨w.heap.size, 2, none⟩ = some (.int .i64 0) := HI.out.cell 2
  have a3 : W0.cell? ⟨w.heap.size, 3, none⟩ = some (.bool t) := HI.out.cell 3
  have a4 : W0.cell? ⟨w.heap.size, 4, none⟩ = some (.slice za 0 zc) := HI.out.cell 4
  have a5 : W0.cell? ⟨w.heap.size, 5, none⟩ = some (.int .i64 0) := HI.out.cell 5
  have a6 : W0.cell? ⟨w.heap.size, 6, none⟩ = some (.int .u64 0) := HI.out.cell 6
  have a7 : W0.cell? ⟨w.heap.size, 7, none⟩ = some (.int .i64 0) := HI.out.cell 7
  have a8 : W0.cell? ⟨w.heap.size, 8, none⟩ = some (.int .u64 0) := HI.out.cell 8
  have a9 : W0.cell? ⟨w.heap.size, 9, none⟩ = some (.int .i64 0) := HI.out.cell 9
  have a10 : W0.cell? ⟨w.heap.size, 10, none⟩ = some (.int .i64 0) := HI.out.cell 10
  have a11 : W0.cell? ⟨w.heap.size, 11, none⟩ = some (.int .u64 0) := HI.out.cell 11
  have a12 : W0.cell? ⟨w.heap.size, 12, none⟩ = some (.int .i64 0) := HI.out.cell 12
  have a13 : W0.cell? ⟨w.heap.size, 13, none⟩ = some (.int .u64 0) := HI.out.cell 13
  go_wp2_with fail
  refine (putTruth_any t base g n cap xs _ hown0 hroom).mono ?_; rintro e w2 ⟨rfl, hput⟩
  have hp := hide (show Put w _ base g n cap xs (tb t) from ⟨hput.1, grown_trans HG.out hput.2⟩)
  clear hput a0 a1 a2 a3 a4 a5 a6 a7 a8 a9 a10 a11 a12 a13
  go_wp2
  go_ret
  exact ⟨rfl, hp.out⟩

set_option maxHeartbeats 2000000 in
set_option maxRecDepth 100000 in
theorem putField_refz (za : Option Addr) (zc : Nat) (i r x : Int) (l b : Nat) (hi0 : -9223372036854775808 ≤ i) (hi1 : i ≤ 9223372036854775807) (hr0 : 1 ≤ r) (hr3 : r ≤ 3) (hl : l ≤ 32) (hb2 : b < 2 ^ l) (base g n cap : Nat) (xs : List Int) (w : World)
    (hown : w.ownsRow base 5 1 (.slice (some ⟨g, 0, none⟩) n cap) n (u8s xs)) (hroom : n + (nb (fold i) ++ (kyb r x ++ vb l b)).length ≤ cap) :
    Calls Tryd.prog 26 #[.slice (some ⟨g, 0, none⟩) n cap, .agg #[.int .i64 7, .int .u64 0, .int .i64 0, .bool false, .slice za 0 zc, .int .i64 0, .int .u64 0, .int .i64 0, .int .u64 0, .int .i64 i, .int .i64 r, .int .u64 x, .int .i64 (l : Int), .int .u64 (b : Int)]] w fun e w' => e = .returned (.slice (some ⟨g, 0, none⟩) (n + (nb (fold i) ++ (kyb r x ++ vb l b)).length) cap) ∧ Put w w' base g n cap xs (nb (fold i) ++ (kyb r x ++ vb l b)) := by
  have HI := hide (IsB.new w #[.int .i64 7, .int .u64 0, .int .i64 0, .bool false, .slice za 0 zc, .int .i64 0, .int .u64 0, .int .i64 0, .int .u64 0, .int .i64 i, .int .i64 r, .int .u64 x, .int .i64 (l : Int), .int .u64 (b : Int)] 34)
  have hown0 := hown.alloc (.cells #[.int .i64 7, .int .u64 0, .int .i64 0, .bool false, .slice za 0 zc, .int .i64 0, .int .u64 0, .int .i64 0, .int .u64 0, .int .i64 i, .int .i64 r, .int .u64 x, .int .i64 (l : Int), .int .u64 (b : Int)] 34)
  have HG := hide (World.grownBy_alloc w (.cells #[.int .i64 7, .int .u64 0, .int .i64 0, .bool false, .slice za 0 zc, .int .i64 0, .int .u64 0, .int .i64 0, .int .u64 0, .int .i64 i, .int .i64 r, .int .u64 x, .int .i64 (l : Int), .int .u64 (b : Int)] 34) (some g))
  clear hown
  go_enter Tryd.func26, Tryd.ntmps26
  go_wp2_with fail
  generalize w.alloc (.cells #[.int .i64 7, .int .u64 0, .int .i64 0, .bool false, .slice za 0 zc, .int .i64 0, .int .u64 0, .int .i64 0, .int .u64 0, .int .i64 i, .int .i64 r, .int .u64 x, .int .i64 (l : Int), .int .u64 (b : Int)] 34) = W0 at HI HG hown0 ⊢
  have a0 : W0.cell? ⟨w.heap.size, 0, none⟩ = some (.int .i64 7) := HI.out.cell 0
  have a1 : W0.cell? ⟨w.heap.size, 1, none⟩ = some (.int .u64 0) := HI.out.cell 1
  have a2 : W0.cell? ⟨w.heap.size, 2, none⟩ = some (.int .i64 0) := HI.out.cell 2
  have a3 : W0.cell? ⟨w.heap.size, 3, none⟩ = some (.bool false) := HI.out.cell 3
  have a4 : W0.cell? ⟨w.heap.size, 4, none⟩ = some (.slice za 0 zc) := HI.out.cell 4
  have a5 : W0.cell? ⟨w.heap.size, 5, none⟩ = some (.int .i64 0) := HI.out.cell 5
  have a6 : W0.cell? ⟨w.heap.size, 6, none⟩ = some (.int .u64 0) := HI.out.cell 6
  have a7 : W0.cell? ⟨w.heap.size, 7, none⟩ = some (.int .i64 0) := HI.out.cell 7
  have a8 : W0.cell? ⟨w.heap.size, 8, none⟩ = some (.int .u64 0) := HI.out.cell 8
  have a9 : W0.cell? ⟨w.heap.size, 9, none⟩ = some (.int .i64 i) := HI.out.cell 9
  have a10 : W0.cell? ⟨w.heap.size, 10, none⟩ = some (.int .i64 r) := HI.out.cell 10
  have a11 : W0.cell? ⟨w.heap.size, 11, none⟩ = some (.int .u64 x) := HI.out.cell 11
  have a12 : W0.cell? ⟨w.heap.size, 12, none⟩ = some (.int .i64 (l : Int)) := HI.out.cell 12
  have a13 : W0.cell? ⟨w.heap.size, 13, none⟩ = some (.int .u64 (b : Int)) := HI.out.cell 13
  go_wp2_with fail
  refine (putRef_any i r x l b hi0 hi1 hr0 hr3 hl hb2 base g n cap xs _ hown0 hroom).mono ?_; rintro e w2 ⟨rfl, hput⟩
  have hp := hide (show Put w _ base g n cap xs (nb (fold i) ++ (kyb r x ++ vb l b)) from ⟨hput.1, grown_trans HG.out hput.2⟩)
  clear hput a0 a1 a2 a3 a4 a5 a6 a7 a8 a9 a10 a11 a12 a13
  go_wp2
  go_ret
  exact ⟨by rw [List.length_append, List.length_append]; rfl, hp.out⟩

set_option maxHeartbeats 2000000 in
set_option maxRecDepth 100000 in
theorem fieldSize_numz (za : Option Addr) (zc : Nat) (m : Nat) (hm : m < 18446744073709551616) (w : World) :
    Calls Tryd.prog 28 #[.agg #[.int .i64 1, .int .u64 (m : Int), .int .i64 0, .bool false, .slice za 0 zc, .int .i64 0, .int .u64 0, .int .i64 0, .int .u64 0, .int .i64 0, .int .i64 0, .int .u64 0, .int .i64 0, .int .u64 0]] w fun e w' => e = .returned (.int .i64 ((nb m).length : Int)) ∧ Gr w w' := by
  have HI := hide (IsB.new w #[.int .i64 1, .int .u64 (m : Int), .int .i64 0, .bool false, .slice za 0 zc, .int .i64 0, .int .u64 0, .int .i64 0, .int .u64 0, .int .i64 0, .int .i64 0, .int .u64 0, .int .i64 0, .int .u64 0] 34)
  have HG := hide (show Gr w (w.alloc (.cells #[.int .i64 1, .int .u64 (m : Int), .int .i64 0, .bool false, .slice za 0 zc, .int .i64 0, .int .u64 0, .int .i64 0, .int .u64 0, .int .i64 0, .int .i64 0, .int .u64 0, .int .i64 0, .int .u64 0] 34)) from (Gr.refl w).alloc _)
  go_enter Tryd.func28, Tryd.ntmps28
  go_wp2_with fail
  generalize w.alloc (.cells #[.int .i64 1, .int .u64 (m : Int), .int .i64 0, .bool false, .slice za 0 zc, .int .i64 0, .int .u64 0, .int .i64 0, .int .u64 0, .int .i64 0, .int .i64 0, .int .u64 0, .int .i64 0, .int .u64 0] 34) = W0 at HI HG ⊢
  have a0 : W0.cell? ⟨w.heap.size, 0, none⟩ = some (.int .i64 1) := HI.out.cell 0
  have a1 : W0.cell? ⟨w.heap.size, 1, none⟩ = some (.int .u64 (m : Int)) := HI.out.cell 1
  have a2 : W0.cell? ⟨w.heap.size, 2, none⟩ = some (.int .i64 0) := HI.out.cell 2
  have a3 : W0.cell? ⟨w.heap.size, 3, none⟩ = some (.bool false) := HI.out.cell 3
  have a4 : W0.cell? ⟨w.heap.size, 4, none⟩ = some (.slice za 0 zc) := HI.out.cell 4
  have a5 : W0.cell? ⟨w.heap.size, 5, none⟩ = some (.int .i64 0) := HI.out.cell 5
  have a6 : W0.cell? ⟨w.heap.size, 6, none⟩ = some (.int .u64 0) := HI.out.cell 6
  have a7 : W0.cell? ⟨w.heap.size, 7, none⟩ = some (.int .i64 0) := HI.out.cell 7
  have a8 : W0.cell? ⟨w.heap.size, 8, none⟩ = some (.int .u64 0) := HI.out.cell 8
  have a9 : W0.cell? ⟨w.heap.size, 9, none⟩ = some (.int .i64 0) := HI.out.cell 9
  have a10 : W0.cell? ⟨w.heap.size, 10, none⟩ = some (.int .i64 0) := HI.out.cell 10
  have a11 : W0.cell? ⟨w.heap.size, 11, none⟩ = some (.int .u64 0) := HI.out.cell 11
  have a12 : W0.cell? ⟨w.heap.size, 12, none⟩ = some (.int .i64 0) := HI.out.cell 12
  have a13 : W0.cell? ⟨w.heap.size, 13, none⟩ = some (.int .u64 0) := HI.out.cell 13
  have hs := hide (fun w => numberSize_any m hm w)
  go_wp2_with fail
  refine (hs.out _).mono ?_; rintro e w2 ⟨rfl, rfl⟩
  clear a0 a1 a2 a3 a4 a5 a6 a7 a8 a9 a10 a11 a12 a13
  go_wp2
  go_ret
  exact ⟨rfl, HG.out⟩

set_option maxHeartbeats 2000000 in
set_option maxRecDepth 100000 in
theorem fieldSize_truthz (za : Option Addr) (zc : Nat) (t : Bool) (w : World) :
    Calls Tryd.prog 28 #[.agg #[.int .i64 3, .int .u64 0, .int .i64 0, .bool t, .slice za 0 zc, .int .i64 0, .int .u64 0, .int .i64 0, .int .u64 0, .int .i64 0, .int .i64 0, .int .u64 0, .int .i64 0, .int .u64 0]] w fun e w' => e = .returned (.int .i64 ((tb t).length : Int)) ∧ Gr w w' := by
  have HI := hide (IsB.new w #[.int .i64 3, .int .u64 0, .int .i64 0, .bool t, .slice za 0 zc, .int .i64 0, .int .u64 0, .int .i64 0, .int .u64 0, .int .i64 0, .int .i64 0, .int .u64 0, .int .i64 0, .int .u64 0] 34)
  have HG := hide (show Gr w (w.alloc (.cells #[.int .i64 3, .int .u64 0, .int .i64 0, .bool t, .slice za 0 zc, .int .i64 0, .int .u64 0, .int .i64 0, .int .u64 0, .int .i64 0, .int .i64 0, .int .u64 0, .int .i64 0, .int .u64 0] 34)) from (Gr.refl w).alloc _)
  go_enter Tryd.func28, Tryd.ntmps28
  go_wp2_with fail
  generalize w.alloc (.cells #[.int .i64 3, .int .u64 0, .int .i64 0, .bool t, .slice za 0 zc, .int .i64 0, .int .u64 0, .int .i64 0, .int .u64 0, .int .i64 0, .int .i64 0, .int .u64 0, .int .i64 0, .int .u64 0] 34) = W0 at HI HG ⊢
  have a0 : W0.cell? ⟨w.heap.size, 0, none⟩ = some (.int .i64 3) := HI.out.cell 0
  have a1 : W0.cell? ⟨w.heap.size, 1, none⟩ = some (.int .u64 0) := HI.out.cell 1
  have a2 : W0.cell? ⟨w.heap.size, 2, none⟩ = some (.int .i64 0) := HI.out.cell 2
  have a3 : W0.cell? ⟨w.heap.size, 3, none⟩ = some (.bool t) := HI.out.cell 3
  have a4 : W0.cell? ⟨w.heap.size, 4, none⟩ = some (.slice za 0 zc) := HI.out.cell 4
  have a5 : W0.cell? ⟨w.heap.size, 5, none⟩ = some (.int .i64 0) := HI.out.cell 5
  have a6 : W0.cell? ⟨w.heap.size, 6, none⟩ = some (.int .u64 0) := HI.out.cell 6
  have a7 : W0.cell? ⟨w.heap.size, 7, none⟩ = some (.int .i64 0) := HI.out.cell 7
  have a8 : W0.cell? ⟨w.heap.size, 8, none⟩ = some (.int .u64 0) := HI.out.cell 8
  have a9 : W0.cell? ⟨w.heap.size, 9, none⟩ = some (.int .i64 0) := HI.out.cell 9
  have a10 : W0.cell? ⟨w.heap.size, 10, none⟩ = some (.int .i64 0) := HI.out.cell 10
  have a11 : W0.cell? ⟨w.heap.size, 11, none⟩ = some (.int .u64 0) := HI.out.cell 11
  have a12 : W0.cell? ⟨w.heap.size, 12, none⟩ = some (.int .i64 0) := HI.out.cell 12
  have a13 : W0.cell? ⟨w.heap.size, 13, none⟩ = some (.int .u64 0) := HI.out.cell 13
  go_wp2
  go_ret
  exact ⟨rfl, HG.out⟩

set_option maxHeartbeats 2000000 in
set_option maxRecDepth 100000 in
theorem fieldSize_refz (za : Option Addr) (zc : Nat) (i r x : Int) (l b : Nat) (hi0 : -9223372036854775808 ≤ i) (hi1 : i ≤ 9223372036854775807) (hl : l ≤ 32) (w : World) :
    Calls Tryd.prog 28 #[.agg #[.int .i64 7, .int .u64 0, .int .i64 0, .bool false, .slice za 0 zc, .int .i64 0, .int .u64 0, .int .i64 0, .int .u64 0, .int .i64 i, .int .i64 r, .int .u64 x, .int .i64 (l : Int), .int .u64 (b : Int)]] w fun e w' => e = .returned (.int .i64 ((nb (fold i) ++ (kyb r x ++ vb l b)).length : Int)) ∧ Gr w w' := by
  have HI := hide (IsB.new w #[.int .i64 7, .int .u64 0, .int .i64 0, .bool false, .slice za 0 zc, .int .i64 0, .int .u64 0, .int .i64 0, .int .u64 0, .int .i64 i, .int .i64 r, .int .u64 x, .int .i64 (l : Int), .int .u64 (b : Int)] 34)
  have HG := hide (show Gr w (w.alloc (.cells #[.int .i64 7, .int .u64 0, .int .i64 0, .bool false, .slice za 0 zc, .int .i64 0, .int .u64 0, .int .i64 0, .int .u64 0, .int .i64 i, .int .i64 r, .int .u64 x, .int .i64 (l : Int), .int .u64 (b : Int)] 34)) from (Gr.refl w).alloc _)
  go_enter Tryd.func28, Tryd.ntmps28
  go_wp2_with fail
  generalize w.alloc (.cells #[.int .i64 7, .int .u64 0, .int .i64 0, .bool false, .slice za 0 zc, .int .i64 0, .int .u64 0, .int .i64 0, .int .u64 0, .int .i64 i, .int .i64 r, .int .u64 x, .int .i64 (l : Int), .int .u64 (b : Int)] 34) = W0 at HI HG ⊢
  have a0 : W0.cell? ⟨w.heap.size, 0, none⟩ = some (.int .i64 7) := HI.out.cell 0
  have a1 : W0.cell? ⟨w.heap.size, 1, none⟩ = some (.int .u64 0) := HI.out.cell 1
  have a2 : W0.cell? ⟨w.heap.size, 2, none⟩ = some (.int .i64 0) := HI.out.cell 2
  have a3 : W0.cell? ⟨w.heap.size, 3, none⟩ = some (.bool false) := HI.out.cell 3
  have a4 : W0.cell? ⟨w.heap.size, 4, none⟩ = some (.slice za 0 zc) := HI.out.cell 4
  have a5 : W0.cell? ⟨w.heap.size, 5, none⟩ = some (.int .i64 0) := HI.out.cell 5
  have a6 : W0.cell? ⟨w.heap.size, 6, none⟩ = some (.int .u64 0) := HI.out.cell 6
  have a7 : W0.cell? ⟨w.heap.size, 7, none⟩ = some (.int .i64 0) := HI.out.cell 7
  have a8 : W0.cell? ⟨w.heap.size, 8, none⟩ = some (.int .u64 0) := HI.out.cell 8
  have a9 : W0.cell? ⟨w.heap.size, 9, none⟩ = some (.int .i64 i) := HI.out.cell 9
  have a10 : W0.cell? ⟨w.heap.size, 10, none⟩ = some (.int .i64 r) := HI.out.cell 10
  have a11 : W0.cell? ⟨w.heap.size, 11, none⟩ = some (.int .u64 x) := HI.out.cell 11
  have a12 : W0.cell? ⟨w.heap.size, 12, none⟩ = some (.int .i64 (l : Int)) := HI.out.cell 12
  have a13 : W0.cell? ⟨w.heap.size, 13, none⟩ = some (.int .u64 (b : Int)) := HI.out.cell 13
  have hs := hide (fun w => refSize_any i r x l b hi0 hi1 hl w)
  go_wp2_with fail
  refine (hs.out _).mono ?_; rintro e w2 ⟨rfl, hg⟩
  replace HG := hide (HG.out.trans hg)
  clear a0 a1 a2 a3 a4 a5 a6 a7 a8 a9 a10 a11 a12 a13 hg
  go_wp2
  go_ret
  exact ⟨by rw [List.length_append, List.length_append, Int.natCast_add, Int.natCast_add]; rfl, HG.out⟩

end Go.Proofs.YtmhcmlegdoapdaaDoor

/- Fields that are handed in; the first of them, cut. -/
namespace Go.Proofs.YtmhcmlegdoapdaaDoor
open Go.RowKit

/-- A field that is handed in: its bytes are L; its numbers are numbers. -/
structure InF (w : World) (g : Fd) (L : List UInt8) : Prop where
  len : L.length = g.f5
  lc : g.f5 ≤ g.f6
  nil : g.f4 = none → g.f6 = 0
  rd : L = [] ∨ ∃ b o, g.f4 = some ⟨b, o, none⟩ ∧ b < w.heap.size ∧ ∀ i (hi : i < L.length), w.cell? ⟨b, o + i, none⟩ = some (.int .u8 (L[i].toNat : Int))
  n1 : 0 ≤ g.f1 ∧ g.f1 < 18446744073709551616
  n2 : -9223372036854775808 ≤ g.f2 ∧ g.f2 ≤ 9223372036854775807
  n8 : 0 ≤ g.f8
  n11 : -9223372036854775808 ≤ g.f11 ∧ g.f11 ≤ 9223372036854775807
  n15 : 0 ≤ g.f15
theorem InF.below {w w' : World} {g : Fd} {L : List UInt8} (h : InF w g L) (hb : Below w.heap.size w w') : InF w' g L := by
  refine ⟨h.len, h.lc, h.nil, ?_, h.n1, h.n2, h.n8, h.n11, h.n15⟩
  rcases h.rd with h1 | ⟨b, o, h1, h2, h3⟩
  · exact Or.inl h1
  · exact Or.inr ⟨b, o, h1, Nat.lt_of_lt_of_le h2 hb.size, fun i hi => (hb.cell (by exact h2)).trans (h3 i hi)⟩
theorem txt_zero (w : World) (a : Option Addr) (c : Nat) (h : a = none → c = 0) : Txt w (.slice a 0 c) ⟨#[]⟩ := by
  cases a with
  | none => rw [h rfl]; exact txt_nil w
  | some ad => exact fun w' _ => run_convert_bytes_back (P := Tryd.prog) w' 25 9 5 ad c [] Tryd.underlying25 Tryd.underlying5 Tryd.underlying9 (fun j hj => by simp at hj)
theorem InF.txt {w : World} {g : Fd} {L : List UInt8} (h : InF w g L) : Txt w (.slice g.f4 g.f5 g.f6) ⟨L.toArray⟩ := by
  rcases h.rd with h2 | ⟨b, o, h1, h2, h3⟩
  · have h5 := h.len
    rw [h2] at h5
    rw [← h5, h2]
    exact txt_zero w _ _ h.nil
  · rw [h1, ← h.len]
    exact txt_cells L h3
/-- Not more bytes than are looked at. -/
def cutF (g : Fd) : Fd := if 700 < g.f5 ∧ g.f5 ≤ 65536 then { g with f5 := 700 } else g
def cutL (L : List UInt8) : List UInt8 := if 700 < L.length ∧ L.length ≤ 65536 then L.take 700 else L
theorem InF.cut {w : World} {g : Fd} {L : List UInt8} (h : InF w g L) : InF w (cutF g) (cutL L) := by
  unfold cutF cutL
  rw [h.len]
  split
  · rename_i hc
    have hl := h.len
    refine ⟨by rw [List.length_take]; simp only []; omega, by simp only []; have := h.lc; omega, h.nil, ?_, h.n1, h.n2, h.n8, h.n11, h.n15⟩
    rcases h.rd with h2 | ⟨b, o, h1, h2, h3⟩
    · rw [h2] at hl; simp at hl; omega
    · refine Or.inr ⟨b, o, h1, h2, fun i hi => ?_⟩
      rw [List.length_take] at hi
      rw [List.getElem_take]
      exact h3 i (by omega)
  · exact h
/-- Fields that are handed in. -/
def FIn (w : World) (la : Option Addr) (xs : List (Fd × List UInt8)) : Prop :=
  ∀ (j : Nat) (p : Fd × List UInt8), xs[j]? = some p → (∃ lb lo, la = some ⟨lb, lo, none⟩ ∧ lb < w.heap.size ∧ ∀ i, i < 14 → w.cell? ⟨lb, lo + j * 14 + i, none⟩ = p.1.cs[i]?) ∧ InF w p.1 p.2
def cutP (p : Fd × List UInt8) : Fd × List UInt8 := (cutF p.1, cutL p.2)
def fewP (xs : List (Fd × List UInt8)) : List (Fd × List UInt8) := (xs.take 20).map cutP
theorem take_cut (xs : List (Fd × List UInt8)) (j : Nat) (p : Fd × List UInt8) (h : xs[j]? = some p) : ((xs.take (j + 1)).map cutP).map (·.1) = ((xs.take j).map cutP).map (·.1) ++ [cutF p.1] := by
  obtain ⟨hj, e⟩ := List.getElem?_eq_some_iff.1 h
  rw [List.take_succ_eq_append_getElem hj, e, List.map_append, List.map_append]
  rfl
theorem cellsOf_app (fs : List Fd) (f : Fd) : cellsOf (fs ++ [f]) = cellsOf fs ++ f.cs.toList := by unfold cellsOf; rw [List.flatMap_append]; simp

set_option maxHeartbeats 8000000 in
set_option maxRecDepth 100000 in
theorem few_any (xs : List (Fd × List UInt8)) (la : Option Addr) (n lc : Nat) (hn : xs.length = n) (w : World) (hX : FIn w la xs) :
    Calls Tryd.prog 9 #[.slice la n lc] w fun e w' => ∃ oa oc, e = .returned (.slice oa (fewP xs).length oc) ∧ w'.ownsRow w.heap.size 34 14 (.slice oa (fewP xs).length oc) (fewP xs).length (cellsOf ((fewP xs).map (·.1))) ∧ Below w.heap.size w w' := by
  replace hX := hide hX
  replace hn := hide hn
  go_enter Tryd.func9, Tryd.ntmps9
  go_wp2
  go_loopw [3, 4] (fun u i wr => ∃ (j : Nat) (oa : Option Addr) (oc : Nat), j ≤ n ∧ j ≤ 20 ∧ i = .int .i64 (j : Int) ∧ u = .slice oa j oc ∧ Hid (wr.ownsRow w.heap.size 34 14 (.slice oa j oc) j (cellsOf (((xs.take j).map cutP).map (·.1)))) ∧ Hid (Below w.heap.size w wr)) (fun _ i _ => 20 - (intOf i).toNat)
  case atStart => exact ⟨0, none, 0, by omega, by omega, rfl, rfl, World.ownsRow_nil _ _ _ _, Below.refl _ _⟩
  case round =>
    obtain ⟨j, oa, oc, hj, hj20, rfl, rfl, HO, HB⟩ := hrel
    by_cases hlt : j < n
    · by_cases hlt2 : j < 20
      · have hjx : j < xs.length := by rw [hn.out]; exact hlt
        obtain ⟨⟨lb, lo, rfl, hlb, hc⟩, hI⟩ := hX.out j _ (List.getElem?_eq_getElem hjx)
        have hnext := hide (take_cut xs j _ (List.getElem?_eq_getElem hjx))
        have hcw : ∀ i, i < 14 → wr.cell? ⟨lb, lo + j * 14 + i, none⟩ = xs[j].1.cs[i]? := fun i hi => (HB.out.cell (show lb < w.heap.size from hlb)).trans (hc i hi)
        have hlen := hI.len
        have hlcap := hI.lc
        have hnil := hI.nil
        have hrd := hI.rd
        clear hI hc hlb
        generalize xs[j] = p at *
        obtain ⟨⟨f0, f1, f2, f3, f4, f5, f6, f7, f8, f9, f10, f11, f12, f13, f14, f15⟩, L⟩ := p
        simp only [Fd.cs] at hcw
        simp only [] at hlen hlcap hnil hrd
        have d0 : wr.cell? ⟨lb, lo + j * 14, none⟩ = some (.int .i64 f0) := hcw 0 (by omega)
        have d1 : wr.cell? ⟨lb, lo + j * 14 + 1, none⟩ = some (.int .u64 f1) := hcw 1 (by omega)
        have d2 : wr.cell? ⟨lb, lo + j * 14 + 2, none⟩ = some (.int .i64 f2) := hcw 2 (by omega)
        have d3 : wr.cell? ⟨lb, lo + j * 14 + 3, none⟩ = some (.bool f3) := hcw 3 (by omega)
        have d4 : wr.cell? ⟨lb, lo + j * 14 + 4, none⟩ = some (.slice f4 f5 f6) := hcw 4 (by omega)
        have d5 : wr.cell? ⟨lb, lo + j * 14 + 5, none⟩ = some (.int .i64 f7) := hcw 5 (by omega)
        have d6 : wr.cell? ⟨lb, lo + j * 14 + 6, none⟩ = some (.int .u64 f8) := hcw 6 (by omega)
        have d7 : wr.cell? ⟨lb, lo + j * 14 + 7, none⟩ = some (.int .i64 f9) := hcw 7 (by omega)
        have d8 : wr.cell? ⟨lb, lo + j * 14 + 8, none⟩ = some (.int .u64 f10) := hcw 8 (by omega)
        have d9 : wr.cell? ⟨lb, lo + j * 14 + 9, none⟩ = some (.int .i64 f11) := hcw 9 (by omega)
        have d10 : wr.cell? ⟨lb, lo + j * 14 + 10, none⟩ = some (.int .i64 f12) := hcw 10 (by omega)
        have d11 : wr.cell? ⟨lb, lo + j * 14 + 11, none⟩ = some (.int .u64 f13) := hcw 11 (by omega)
        have d12 : wr.cell? ⟨lb, lo + j * 14 + 12, none⟩ = some (.int .i64 f14) := hcw 12 (by omega)
        have d13 : wr.cell? ⟨lb, lo + j * 14 + 13, none⟩ = some (.int .u64 f15) := hcw 13 (by omega)
        have dlt : lb < wr.heap.size := lt_of_cell d0
        have hsz := HB.out.size
        clear hcw
        by_cases hcut : 700 < f5 ∧ f5 ≤ 65536
        · obtain ⟨ad, rfl⟩ : ∃ ad, f4 = some ad := by
            rcases hrd with h2 | ⟨b, o, h1, _⟩
            · rw [h2] at hlen; simp at hlen; omega
            · exact ⟨_, h1⟩
          have hc1 : (700 : Int) < (f5 : Int) := by omega
          have hc2 : (f5 : Int) ≤ 65536 := by omega
          have hE : Hid (cutF ⟨f0, f1, f2, f3, some ad, f5, f6, f7, f8, f9, f10, f11, f12, f13, f14, f15⟩ = ⟨f0, f1, f2, f3, some ad, 700, f6, f7, f8, f9, f10, f11, f12, f13, f14, f15⟩) := if_pos hcut
          clear hrd hnil hlen hcut
          go_wp2_with (
            at_builtin
            refine append_fd rfl (.tmp 34) (.tmp 36) rfl w.heap.size _ j (((xs.take j).map cutP).map (·.1)) rfl ((HO.out.alloc _).alloc _) (wr.heap.size + 1) ⟨f0, f1, f2, f3, some ad, 700, f6, f7, f8, f9, f10, f11, f12, f13, f14, f15⟩ rfl (by have := IsB.new (wr.alloc (.cells #[.int .i64 f0, .int .u64 f1, .int .i64 f2, .bool f3, .slice (some ad) 700 f6, .int .i64 f7, .int .u64 f8, .int .i64 f9, .int .u64 f10, .int .i64 f11, .int .i64 f12, .int .u64 f13, .int .i64 f14, .int .u64 f15] 34)) #[.int .i64 f0, .int .u64 f1, .int .i64 f2, .bool f3, .slice (some ad) 700 f6, .int .i64 f7, .int .u64 f8, .int .i64 f9, .int .u64 f10, .int .i64 f11, .int .i64 f12, .int .u64 f13, .int .i64 f14, .int .u64 f15] 34; rw [World.size_alloc] at this; exact this) (by omega) (by simp; omega) ?_
            intro g6 c6 w6 hown6 hgrow6 hwh6
            have HO6 : Hid (w6.ownsRow w.heap.size 34 14 (.slice (some ⟨g6, 0, none⟩) (j + 1) c6) (j + 1) (cellsOf (((xs.take (j + 1)).map cutP).map (·.1)))) := by
              show World.ownsRow _ _ _ _ _ _ _
              rw [hnext.out, hE.out, cellsOf_app]
              exact hown6
            have HB6 := hide (((HB.out.alloc hsz _).alloc (by simp; omega) _).grown hgrow6 (by simp; omega) (fun q hq => (HO.out.lt q hq).1))
            clear hown6 hgrow6 hwh6)
          go_roundw
          case rel => exact ⟨j + 1, _, _, by omega, by omega, by go_num, rfl, HO6, HB6⟩
          case measure => simp [intOf]; omega
        · have hE : Hid (cutF ⟨f0, f1, f2, f3, f4, f5, f6, f7, f8, f9, f10, f11, f12, f13, f14, f15⟩ = ⟨f0, f1, f2, f3, f4, f5, f6, f7, f8, f9, f10, f11, f12, f13, f14, f15⟩) := if_neg hcut
          clear hrd hnil hlen
          by_cases hc1 : (700 : Int) < (f5 : Int)
          · have hc2 : ¬ (f5 : Int) ≤ 65536 := by omega
            clear hcut
            go_wp2_with (
              at_builtin
              refine append_fd rfl (.tmp 34) (.tmp 36) rfl w.heap.size _ j (((xs.take j).map cutP).map (·.1)) rfl ((HO.out.alloc _).alloc _) (wr.heap.size + 1) ⟨f0, f1, f2, f3, f4, f5, f6, f7, f8, f9, f10, f11, f12, f13, f14, f15⟩ rfl (by have := IsB.new (wr.alloc (.cells #[.int .i64 f0, .int .u64 f1, .int .i64 f2, .bool f3, .slice f4 f5 f6, .int .i64 f7, .int .u64 f8, .int .i64 f9, .int .u64 f10, .int .i64 f11, .int .i64 f12, .int .u64 f13, .int .i64 f14, .int .u64 f15] 34)) #[.int .i64 f0, .int .u64 f1, .int .i64 f2, .bool f3, .slice f4 f5 f6, .int .i64 f7, .int .u64 f8, .int .i64 f9, .int .u64 f10, .int .i64 f11, .int .i64 f12, .int .u64 f13, .int .i64 f14, .int .u64 f15] 34; rw [World.size_alloc] at this; exact this) (by omega) (by simp; omega) ?_
              intro g6 c6 w6 hown6 hgrow6 hwh6
              have HO6 : Hid (w6.ownsRow w.heap.size 34 14 (.slice (some ⟨g6, 0, none⟩) (j + 1) c6) (j + 1) (cellsOf (((xs.take (j + 1)).map cutP).map (·.1)))) := by
                show World.ownsRow _ _ _ _ _ _ _
                rw [hnext.out, hE.out, cellsOf_app]
                exact hown6
              have HB6 := hide (((HB.out.alloc hsz _).alloc (by simp; omega) _).grown hgrow6 (by simp; omega) (fun q hq => (HO.out.lt q hq).1))
              clear hown6 hgrow6 hwh6)
            go_roundw
            case rel => exact ⟨j + 1, _, _, by omega, by omega, by go_num, rfl, HO6, HB6⟩
            case measure => simp [intOf]; omega
          · clear hcut
            go_wp2_with (
              at_builtin
              refine append_fd rfl (.tmp 34) (.tmp 36) rfl w.heap.size _ j (((xs.take j).map cutP).map (·.1)) rfl ((HO.out.alloc _).alloc _) (wr.heap.size + 1) ⟨f0, f1, f2, f3, f4, f5, f6, f7, f8, f9, f10, f11, f12, f13, f14, f15⟩ rfl (by have := IsB.new (wr.alloc (.cells #[.int .i64 f0, .int .u64 f1, .int .i64 f2, .bool f3, .slice f4 f5 f6, .int .i64 f7, .int .u64 f8, .int .i64 f9, .int .u64 f10, .int .i64 f11, .int .i64 f12, .int .u64 f13, .int .i64 f14, .int .u64 f15] 34)) #[.int .i64 f0, .int .u64 f1, .int .i64 f2, .bool f3, .slice f4 f5 f6, .int .i64 f7, .int .u64 f8, .int .i64 f9, .int .u64 f10, .int .i64 f11, .int .i64 f12, .int .u64 f13, .int .i64 f14, .int .u64 f15] 34; rw [World.size_alloc] at this; exact this) (by omega) (by simp; omega) ?_
              intro g6 c6 w6 hown6 hgrow6 hwh6
              have HO6 : Hid (w6.ownsRow w.heap.size 34 14 (.slice (some ⟨g6, 0, none⟩) (j + 1) c6) (j + 1) (cellsOf (((xs.take (j + 1)).map cutP).map (·.1)))) := by
                show World.ownsRow _ _ _ _ _ _ _
                rw [hnext.out, hE.out, cellsOf_app]
                exact hown6
              have HB6 := hide (((HB.out.alloc hsz _).alloc (by simp; omega) _).grown hgrow6 (by simp; omega) (fun q hq => (HO.out.lt q hq).1))
              clear hown6 hgrow6 hwh6)
            go_roundw
            case rel => exact ⟨j + 1, _, _, by omega, by omega, by go_num, rfl, HO6, HB6⟩
            case measure => simp [intOf]; omega
      · have hf : (fewP xs).map (·.1) = ((xs.take j).map cutP).map (·.1) := by
          obtain rfl : j = 20 := by omega
          rfl
        have hm : j = (fewP xs).length := by unfold fewP; rw [List.length_map, List.length_take, hn.out]; omega
        replace hf := hide hf
        replace hm := hide hm
        go_wp2
        go_ret
        exact ⟨oa, oc, by rw [← hm.out]; rfl, by rw [hf.out, ← hm.out]; exact HO.out, HB.out⟩
    · have hf : (fewP xs).map (·.1) = ((xs.take j).map cutP).map (·.1) := by
        unfold fewP
        rw [List.take_of_length_le (by rw [hn.out]; omega), List.take_of_length_le (by rw [hn.out]; omega)]
      have hm : j = (fewP xs).length := by unfold fewP; rw [List.length_map, List.length_take, hn.out]; omega
      replace hf := hide hf
      replace hm := hide hm
      go_wp2
      go_ret
      exact ⟨oa, oc, by rw [← hm.out]; rfl, by rw [hf.out, ← hm.out]; exact HO.out, HB.out⟩

end Go.Proofs.YtmhcmlegdoapdaaDoor

/- A field that is handed in: it is packed, or may not be. -/
namespace Go.Proofs.YtmhcmlegdoapdaaDoor
open Go.RowKit

theorem step_append_none {P : Program} {w : World} {ops : Array Oper} {o : Oper} {a : Act} {K : Act → World → Prop} {Q : Exit → Act → World → Prop} {E : Prop} (hgd : o.guard = none) (s x : Operand) (t : TypeId)
    (ho : o.op = .call { callee := .builtin .append, args := #[s, x], argTypes := #[t, t] })
    (base : Nat) (e : TypeId) (i : TypeInfo) (size : Nat) (ht : P.underlying t = some (.slice e)) (hi : P.info? e = some i)
    (v : Value) (n : Nat) (xs : List Value) (hs : a.eval s = v) (hown : w.ownsRow base e size v n xs) (hx : a.eval x = .slice none 0 0)
    (h : K (a.put o.dst v) w) : if Region.wanted o (yielded ops a.tmps) = true then Oper.wp P o a w K Q else E := by
  have hw : Region.wanted o (yielded ops a.tmps) = true := by simp [Region.wanted, hgd]
  rw [if_pos hw]
  have hrun := run_append_owned_none (P := P) (w := w) base t o.type e i size ht hi v n xs hown
  unfold Oper.wp
  simp [execOp, ho, resolve, invoke, builtin, hs, hx, hrun, Result.andThen]
  exact h

set_option maxHeartbeats 4000000 in
set_option maxRecDepth 100000 in
theorem fieldSize_nilb (w : World) :
    Calls Tryd.prog 28 #[.agg #[.int .i64 4, .int .u64 0, .int .i64 0, .bool false, .slice none 0 0, .int .i64 0, .int .u64 0, .int .i64 0, .int .u64 0, .int .i64 0, .int .i64 0, .int .u64 0, .int .i64 0, .int .u64 0]] w fun e w' => e = .returned (.int .i64 ((nb 0).length : Int)) ∧ Gr w w' := by
  have mixed : Tryd.prog.follows .mixedOrders = true := by kernel_rfl
  have hs : Hid (∀ w, Calls Tryd.prog 48 #[.int .u64 0] w fun e w' => e = .returned (.int .i64 ((nb 0).length : Int)) ∧ w' = w) := fun w => numberSize_any 0 (by omega) w
  have hnb : (nb 0).length ≤ 10 := by rw [nb_small (by omega)]; simp
  have HI := hide (IsB.new w #[.int .i64 4, .int .u64 0, .int .i64 0, .bool false, .slice none 0 0, .int .i64 0, .int .u64 0, .int .i64 0, .int .u64 0, .int .i64 0, .int .i64 0, .int .u64 0, .int .i64 0, .int .u64 0] 34)
  have HG := hide (show Gr w (w.alloc (.cells #[.int .i64 4, .int .u64 0, .int .i64 0, .bool false, .slice none 0 0, .int .i64 0, .int .u64 0, .int .i64 0, .int .u64 0, .int .i64 0, .int .i64 0, .int .u64 0, .int .i64 0, .int .u64 0] 34)) from (Gr.refl w).alloc _)
  go_enter Tryd.func28, Tryd.ntmps28
  go_wp2
  generalize w.alloc (.cells #[.int .i64 4, .int .u64 0, .int .i64 0, .bool false, .slice none 0 0, .int .i64 0, .int .u64 0, .int .i64 0, .int .u64 0, .int .i64 0, .int .i64 0, .int .u64 0, .int .i64 0, .int .u64 0] 34) = W0 at HI HG ⊢
  have a4 : W0.cell? ⟨w.heap.size, 4, none⟩ = some (.slice none 0 0) := HI.out.cell 4
  go_quiet ((go_at_call 48; exact Calls.quiet_of_same (hs.out _)))
  go_wp2
  go_ret
  exact ⟨by simp, HG.out.drewN _⟩

set_option maxHeartbeats 4000000 in
set_option maxRecDepth 100000 in
theorem fieldSize_emptyb (ad : Addr) (c : Nat) (w : World) :
    Calls Tryd.prog 28 #[.agg #[.int .i64 4, .int .u64 0, .int .i64 0, .bool false, .slice (some ad) 0 c, .int .i64 0, .int .u64 0, .int .i64 0, .int .u64 0, .int .i64 0, .int .i64 0, .int .u64 0, .int .i64 0, .int .u64 0]] w fun e w' => e = .returned (.int .i64 ((nb 0).length : Int)) ∧ Gr w w' := by
  have mixed : Tryd.prog.follows .mixedOrders = true := by kernel_rfl
  have hs : Hid (∀ w, Calls Tryd.prog 48 #[.int .u64 0] w fun e w' => e = .returned (.int .i64 ((nb 0).length : Int)) ∧ w' = w) := fun w => numberSize_any 0 (by omega) w
  have hnb : (nb 0).length ≤ 10 := by rw [nb_small (by omega)]; simp
  have HI := hide (IsB.new w #[.int .i64 4, .int .u64 0, .int .i64 0, .bool false, .slice (some ad) 0 c, .int .i64 0, .int .u64 0, .int .i64 0, .int .u64 0, .int .i64 0, .int .i64 0, .int .u64 0, .int .i64 0, .int .u64 0] 34)
  have HG := hide (show Gr w (w.alloc (.cells #[.int .i64 4, .int .u64 0, .int .i64 0, .bool false, .slice (some ad) 0 c, .int .i64 0, .int .u64 0, .int .i64 0, .int .u64 0, .int .i64 0, .int .i64 0, .int .u64 0, .int .i64 0, .int .u64 0] 34)) from (Gr.refl w).alloc _)
  go_enter Tryd.func28, Tryd.ntmps28
  go_wp2
  generalize w.alloc (.cells #[.int .i64 4, .int .u64 0, .int .i64 0, .bool false, .slice (some ad) 0 c, .int .i64 0, .int .u64 0, .int .i64 0, .int .u64 0, .int .i64 0, .int .i64 0, .int .u64 0, .int .i64 0, .int .u64 0] 34) = W0 at HI HG ⊢
  have a4 : W0.cell? ⟨w.heap.size, 4, none⟩ = some (.slice (some ad) 0 c) := HI.out.cell 4
  go_quiet ((go_at_call 48; exact Calls.quiet_of_same (hs.out _)))
  go_wp2
  go_ret
  exact ⟨by simp, HG.out.drewN _⟩

set_option maxHeartbeats 4000000 in
set_option maxRecDepth 100000 in
theorem putField_emptyb (ad : Addr) (c : Nat) (base g n cap : Nat) (xs : List Int) (w : World)
    (hown : w.ownsRow base 5 1 (.slice (some ⟨g, 0, none⟩) n cap) n (u8s xs)) (hroom : n + (nb 0).length ≤ cap) :
    Calls Tryd.prog 26 #[.slice (some ⟨g, 0, none⟩) n cap, .agg #[.int .i64 4, .int .u64 0, .int .i64 0, .bool false, .slice (some ad) 0 c, .int .i64 0, .int .u64 0, .int .i64 0, .int .u64 0, .int .i64 0, .int .i64 0, .int .u64 0, .int .i64 0, .int .u64 0]] w fun e w' => e = .returned (.slice (some ⟨g, 0, none⟩) (n + (nb 0).length) cap) ∧ Put w w' base g n cap xs (nb 0) := by
  have mixed : Tryd.prog.follows .mixedOrders = true := by kernel_rfl
  obtain ⟨i0, hi, hz0, hz1, hz2⟩ := info_parts Tryd.infoU8
  have HI := hide (IsB.new w #[.int .i64 4, .int .u64 0, .int .i64 0, .bool false, .slice (some ad) 0 c, .int .i64 0, .int .u64 0, .int .i64 0, .int .u64 0, .int .i64 0, .int .i64 0, .int .u64 0, .int .i64 0, .int .u64 0] 34)
  have hgl := (hown.lt g rfl).2
  have hown0 := hown.alloc (.cells #[.int .i64 4, .int .u64 0, .int .i64 0, .bool false, .slice (some ad) 0 c, .int .i64 0, .int .u64 0, .int .i64 0, .int .u64 0, .int .i64 0, .int .i64 0, .int .u64 0, .int .i64 0, .int .u64 0] 34)
  have HG := hide (World.grownBy_alloc w (.cells #[.int .i64 4, .int .u64 0, .int .i64 0, .bool false, .slice (some ad) 0 c, .int .i64 0, .int .u64 0, .int .i64 0, .int .u64 0, .int .i64 0, .int .i64 0, .int .u64 0, .int .i64 0, .int .u64 0] 34) (some g))
  clear hown
  go_enter Tryd.func26, Tryd.ntmps26
  go_wp2
  generalize w.alloc (.cells #[.int .i64 4, .int .u64 0, .int .i64 0, .bool false, .slice (some ad) 0 c, .int .i64 0, .int .u64 0, .int .i64 0, .int .u64 0, .int .i64 0, .int .i64 0, .int .u64 0, .int .i64 0, .int .u64 0] 34) = W0 at HI HG hown0 ⊢
  have a4 : W0.cell? ⟨w.heap.size, 4, none⟩ = some (.slice (some ad) 0 c) := HI.out.cell 4
  have hlt := HI.out.lt
  have hne : g ≠ w.heap.size := by omega
  go_region_held3 (fun w' => w'.cell? ⟨w.heap.size, 4, none⟩ = some (.slice (some ad) 0 c)) (first | (go_keep; done) | (rw [hgrow.cell_far _ hl1 (by simpa using Ne.symm hne)]; assumption) | (rw [hput.2.cell_far _ (by exact hlt) (by simpa using Ne.symm hne)]; assumption))
    (first
      | (refine step_append_fits (by rfl) (.tmp 37) (.tmp 39) 25 (by rfl) base 5 i0 1 Tryd.underlying25 hi hz1 g (n + (nb 0).length) cap (u8s (xs ++ nb 0)) (by rfl) hput.1 ad 0 c [] (by rfl) (by rfl) (by intro j u h; simp at h) (by intro u hu; cases hu) (by omega) ?_; intro w2 hown2 hgrow)
      | (go_at_call 39; refine (putNumber_any 0 (by omega) base g n cap xs _ hown0.drew (by omega)).mono ?_; rintro e w1 ⟨rfl, hput⟩; have hl1 : w.heap.size < w1.heap.size := (by have := hput.2.size; exact Nat.lt_of_lt_of_le hlt this)))
  have hp1 : Put w _ base g n cap xs (nb 0) := ⟨hput.1, grown_trans HG.out (grown_trans (grown_of_gr ((Gr.refl W0).drew) _) hput.2)⟩
  have HP := hide (show Put w w2 base g n cap xs (nb 0) from ⟨by have := hown2; rw [List.append_nil] at this; exact this, grown_trans hp1.2 hgrow⟩)
  clear hp1 hput hown2 hgrow
  go_wp2
  go_ret
  exact ⟨rfl, HP.out⟩

set_option maxHeartbeats 4000000 in
set_option maxRecDepth 100000 in
theorem putField_nilb (base g n cap : Nat) (xs : List Int) (w : World)
    (hown : w.ownsRow base 5 1 (.slice (some ⟨g, 0, none⟩) n cap) n (u8s xs)) (hroom : n + (nb 0).length ≤ cap) :
    Calls Tryd.prog 26 #[.slice (some ⟨g, 0, none⟩) n cap, .agg #[.int .i64 4, .int .u64 0, .int .i64 0, .bool false, .slice none 0 0, .int .i64 0, .int .u64 0, .int .i64 0, .int .u64 0, .int .i64 0, .int .i64 0, .int .u64 0, .int .i64 0, .int .u64 0]] w fun e w' => e = .returned (.slice (some ⟨g, 0, none⟩) (n + (nb 0).length) cap) ∧ Put w w' base g n cap xs (nb 0) := by
  have mixed : Tryd.prog.follows .mixedOrders = true := by kernel_rfl
  obtain ⟨i0, hi, hz0, hz1, hz2⟩ := info_parts Tryd.infoU8
  have HI := hide (IsB.new w #[.int .i64 4, .int .u64 0, .int .i64 0, .bool false, .slice none 0 0, .int .i64 0, .int .u64 0, .int .i64 0, .int .u64 0, .int .i64 0, .int .i64 0, .int .u64 0, .int .i64 0, .int .u64 0] 34)
  have hgl := (hown.lt g rfl).2
  have hown0 := hown.alloc (.cells #[.int .i64 4, .int .u64 0, .int .i64 0, .bool false, .slice none 0 0, .int .i64 0, .int .u64 0, .int .i64 0, .int .u64 0, .int .i64 0, .int .i64 0, .int .u64 0, .int .i64 0, .int .u64 0] 34)
  have HG := hide (World.grownBy_alloc w (.cells #[.int .i64 4, .int .u64 0, .int .i64 0, .bool false, .slice none 0 0, .int .i64 0, .int .u64 0, .int .i64 0, .int .u64 0, .int .i64 0, .int .i64 0, .int .u64 0, .int .i64 0, .int .u64 0] 34) (some g))
  clear hown
  go_enter Tryd.func26, Tryd.ntmps26
  go_wp2
  generalize w.alloc (.cells #[.int .i64 4, .int .u64 0, .int .i64 0, .bool false, .slice none 0 0, .int .i64 0, .int .u64 0, .int .i64 0, .int .u64 0, .int .i64 0, .int .i64 0, .int .u64 0, .int .i64 0, .int .u64 0] 34) = W0 at HI HG hown0 ⊢
  have a4 : W0.cell? ⟨w.heap.size, 4, none⟩ = some (.slice none 0 0) := HI.out.cell 4
  have hlt := HI.out.lt
  have hne : g ≠ w.heap.size := by omega
  go_region_held3 (fun w' => w'.cell? ⟨w.heap.size, 4, none⟩ = some (.slice none 0 0)) (first | (go_keep; done) | (rw [hput.2.cell_far _ (by exact hlt) (by simpa using Ne.symm hne)]; assumption))
    (first
      | (refine step_append_none (by rfl) (.tmp 37) (.tmp 39) 25 (by rfl) base 5 i0 1 Tryd.underlying25 hi _ (n + (nb 0).length) (u8s (xs ++ nb 0)) (by rfl) hput.1 (by rfl) ?_)
      | (go_at_call 39; refine (putNumber_any 0 (by omega) base g n cap xs _ hown0.drew (by omega)).mono ?_; rintro e w1 ⟨rfl, hput⟩))
  have hp1 := hide (show Put w _ base g n cap xs (nb 0) from ⟨hput.1, grown_trans HG.out (grown_trans (grown_of_gr ((Gr.refl W0).drew) _) hput.2)⟩)
  clear hput
  go_wp2
  go_ret
  exact ⟨rfl, hp1.out⟩

/-- What a field that is handed in says. -/
def Fd.sl (f : Fd) (a : Option Addr) (n c : Nat) : Fd := { f with f4 := a, f5 := n, f6 := c }
def SAt (v : FV) (g : Fd) (L : List UInt8) : Prop := g = (v.fd none 0 0).sl g.f4 g.f5 g.f6 ∧ ((v.row = some (ints L)) ∨ (v.row = none ∧ L = []))
theorem loop_eq (b : ByteArray) : ∀ (k : Nat) (i : Nat) (r : List UInt8), b.size - i = k → ByteArray.toList.loop b i r = r.reverse ++ b.data.toList.drop i := by
  have hs : b.data.toList.length = b.size := by rw [Array.length_toList]; rfl
  intro k
  induction k with
  | zero =>
    intro i r h
    unfold ByteArray.toList.loop
    rw [if_neg (by omega), List.drop_eq_nil_of_le (by omega), List.append_nil]
  | succ k ih =>
    intro i r h
    have hi : i < b.size := by omega
    have hd : i < b.data.toList.length := by omega
    unfold ByteArray.toList.loop
    rw [if_pos hi, ih (i + 1) _ (by omega), List.drop_eq_getElem_cons hd, List.reverse_cons, List.append_assoc]
    have e : b.get! i = b.data.toList[i] := by
      have hj : i < b.data.size := by rw [Array.length_toList] at hd; exact hd
      show b.data[i]! = _
      rw [getElem!_pos b.data i hj, Array.getElem_toList]
    rw [e]; rfl
theorem ByteArray_toList (L : List UInt8) : (ByteArray.mk L.toArray).toList = L := by
  unfold ByteArray.toList
  rw [loop_eq _ _ 0 [] rfl]
  simp
theorem toList_nil (L : List UInt8) (h : eqS ⟨L.toArray⟩ ⟨#[]⟩ = true) : L = [] := by
  unfold eqS at h
  have h1 : (⟨L.toArray⟩ : ByteArray).toList = (⟨#[]⟩ : ByteArray).toList := by simpa using h
  have h2 : (⟨L.toArray⟩ : ByteArray).toList = L := by rw [ByteArray_toList]
  rw [h2] at h1
  rw [h1]; exact ByteArray_toList []
theorem ckE_ok (r x : Int) (h : ckE r x = 0) : 1 ≤ r ∧ r ≤ 3 := by
  unfold ckE at h
  split at h
  · rename_i hc; omega
  · omega
theorem rt_nat (n b : Int) (h : rt n b = true) (hb : 0 ≤ b) : n.toNat ≤ 32 ∧ b.toNat < 2 ^ n.toNat ∧ ((n.toNat : Nat) : Int) = n ∧ ((b.toNat : Nat) : Int) = b := by
  have h := of_decide_eq_true h
  refine ⟨by omega, ?_, by omega, by omega⟩
  have h3 := h.2.2
  have e : ((2 ^ n.toNat : Nat) : Int) = 2 ^ n.toNat := by rw [Int.natCast_pow]; rfl
  omega

theorem in_or {W0 : World} {g : Fd} {L : List UInt8} (h : InF W0 g L) (hR : Ranks W0) (h10 : 0 ≤ g.f10 ∧ g.f10 < 18446744073709551616) (h13 : 0 ≤ g.f13 ∧ g.f13 < 18446744073709551616) :
    (∃ v : FV, v.ok ∧ PackOf W0 g v.enc ∧ SAt v g L ∧ g.f0 = v.kind) ∨ (∀ w, Below W0.heap.size W0 w → Calls Tryd.prog 14 #[.agg g.cs] w fun e w' => e = .returned (.int .i64 30) ∧ Below w.heap.size w w') := by
  have hch := fun w (hb : Below W0.heap.size W0 w) => check_any g h.n8 h.n15 ⟨L.toArray⟩ w (hR.below hb) ((h.below hb).txt)
  rcases hm : mayB g (eqS ⟨L.toArray⟩ ⟨#[]⟩) with _ | _
  · rw [hm] at hch
    exact Or.inr hch
  · rw [hm] at hch
    left
    have hlen := h.len
    have hlc := h.lc
    have hnil := h.nil
    have hrd := h.rd
    have n1 := h.n1
    have n2 := h.n2
    have n8 := h.n8
    have n11 := h.n11
    have n15 := h.n15
    clear h
    obtain ⟨f0, f1, f2, f3, f4, f5, f6, f7, f8, f9, f10, f11, f12, f13, f14, f15⟩ := g
    simp only [] at hlen hlc hnil hrd n1 n2 n8 n11 n15 h10 h13
    unfold mayB at hm
    simp only [Bool.and_eq_true, decide_eq_true_eq] at hm
    obtain ⟨hk, ho, hz⟩ := hm
    obtain rfl | rfl | rfl | rfl | rfl | rfl | rfl : f0 = 1 ∨ f0 = 2 ∨ f0 = 3 ∨ f0 = 4 ∨ f0 = 5 ∨ f0 = 6 ∨ f0 = 7 := by omega
    · have hE : f2 = 0 ∧ f3 = false ∧ f7 = 0 ∧ f8 = 0 ∧ f9 = 0 ∧ f10 = 0 ∧ f11 = 0 ∧ f12 = 0 ∧ f13 = 0 ∧ f14 = 0 ∧ f15 = 0 ∧ L = [] := by
        simp [woF, sameF, zeroF] at hz
        simp [hz]
        exact toList_nil L (by simp [hz])
      obtain ⟨rfl, rfl, rfl, rfl, rfl, rfl, rfl, rfl, rfl, rfl, rfl, rfl⟩ := hE
      obtain rfl : f5 = 0 := by rw [← hlen]; rfl
      obtain ⟨m, rfl⟩ := Int.eq_ofNat_of_zero_le n1.1
      have hm : m < 18446744073709551616 := by omega
      exact ⟨.num m, hm, ⟨hch, fun w _ => (fieldSize_numz f4 f6 m hm w).mono fun _ _ ⟨h, k⟩ => ⟨h, k.below⟩, fun w base g n cap xs _ _ ho hr => putField_numz f4 f6 m hm base g n cap xs w ho hr⟩, ⟨rfl, Or.inr ⟨rfl, rfl⟩⟩, rfl⟩
    · have hE : f1 = 0 ∧ f3 = false ∧ f7 = 0 ∧ f8 = 0 ∧ f9 = 0 ∧ f10 = 0 ∧ f11 = 0 ∧ f12 = 0 ∧ f13 = 0 ∧ f14 = 0 ∧ f15 = 0 ∧ L = [] := by
        simp [woF, sameF, zeroF] at hz
        simp [hz]
        exact toList_nil L (by simp [hz])
      obtain ⟨rfl, rfl, rfl, rfl, rfl, rfl, rfl, rfl, rfl, rfl, rfl, rfl⟩ := hE
      obtain rfl : f5 = 0 := by rw [← hlen]; rfl
      exact ⟨.int f2, n2, ⟨hch, fun w _ => (fieldSize_intz f4 f6 f2 n2.1 n2.2 w).mono fun _ _ ⟨h, k⟩ => ⟨h, k.below⟩, fun w base g n cap xs _ _ ho hr => putField_intz f4 f6 f2 n2.1 n2.2 base g n cap xs w ho hr⟩, ⟨rfl, Or.inr ⟨rfl, rfl⟩⟩, rfl⟩
    · have hE : f1 = 0 ∧ f2 = 0 ∧ f7 = 0 ∧ f8 = 0 ∧ f9 = 0 ∧ f10 = 0 ∧ f11 = 0 ∧ f12 = 0 ∧ f13 = 0 ∧ f14 = 0 ∧ f15 = 0 ∧ L = [] := by
        simp [woF, sameF, zeroF] at hz
        simp [hz]
        exact toList_nil L (by simp [hz])
      obtain ⟨rfl, rfl, rfl, rfl, rfl, rfl, rfl, rfl, rfl, rfl, rfl, rfl⟩ := hE
      obtain rfl : f5 = 0 := by rw [← hlen]; rfl
      exact ⟨.truth f3, trivial, ⟨hch, fun w _ => (fieldSize_truthz f4 f6 f3 w).mono fun _ _ ⟨h, k⟩ => ⟨h, k.below⟩, fun w base g n cap xs _ _ ho hr => putField_truthz f4 f6 f3 base g n cap xs w ho hr⟩, ⟨rfl, Or.inr ⟨rfl, rfl⟩⟩, rfl⟩
    · have hE : f1 = 0 ∧ f2 = 0 ∧ f3 = false ∧ f7 = 0 ∧ f8 = 0 ∧ f9 = 0 ∧ f10 = 0 ∧ f11 = 0 ∧ f12 = 0 ∧ f13 = 0 ∧ f14 = 0 ∧ f15 = 0 := by
        simp [woF, sameF, zeroF] at hz
        simp [hz]
      obtain ⟨rfl, rfl, rfl, rfl, rfl, rfl, rfl, rfl, rfl, rfl, rfl, rfl⟩ := hE
      have hl : f5 ≤ 65536 := by simpa [ownB] using ho
      have hbd : ∀ c ∈ ints L, 0 ≤ c ∧ c < 256 := by
        intro c hc
        unfold ints at hc
        obtain ⟨u, _, rfl⟩ := List.mem_map.1 hc
        have := u.toNat_lt
        omega
      have hok : (FV.bytes (ints L)).ok := ⟨by rw [ints_len, hlen]; exact hl, hbd⟩
      rcases hrd with rfl | ⟨b, o, rfl, hb, hc⟩
      · obtain rfl : f5 = 0 := by rw [← hlen]; rfl
        cases f4 with
        | some ad =>
          refine ⟨.bytes [], ⟨by simp, by simp⟩, ⟨hch, fun w _ => ?_, fun w base g n cap xs _ _ ho hr => ?_⟩, ⟨rfl, Or.inl rfl⟩, rfl⟩
          · refine (fieldSize_emptyb ad f6 w).mono fun _ _ ⟨h, k⟩ => ⟨?_, k.below⟩
            rw [h]
            simp [FV.enc]
          · have e : FV.enc (.bytes []) = nb 0 := by simp [FV.enc]
            rw [e] at hr ⊢
            exact putField_emptyb ad f6 base g n cap xs w ho hr
        | none =>
        obtain rfl : f6 = 0 := hnil rfl
        refine ⟨.bytes [], ⟨by simp, by simp⟩, ⟨hch, fun w _ => ?_, fun w base g n cap xs _ _ ho hr => ?_⟩, ⟨rfl, Or.inl rfl⟩, rfl⟩
        · refine (fieldSize_nilb w).mono fun _ _ ⟨h, k⟩ => ⟨?_, k.below⟩
          rw [h]
          simp [FV.enc]
        · have e : FV.enc (.bytes []) = nb 0 := by simp [FV.enc]
          rw [e] at hr ⊢
          exact putField_nilb base g n cap xs w ho hr
      · have e : FV.enc (.bytes (ints L)) = nb f5 ++ ints L := by simp only [FV.enc]; rw [ints_len, hlen]
        exact ⟨.bytes (ints L), hok, by
          rw [e]
          have := packOf_bytes W0 b o f5 f6 (ints L) (by rw [ints_len]; exact hlen) hl hb (fun j hj => by rw [ints_len] at hj; rw [ints_get L j hj]; exact hc j hj)
          exact ⟨hch, this.size, this.put⟩, ⟨rfl, Or.inl rfl⟩, rfl⟩
    · have hE : f1 = 0 ∧ f2 = 0 ∧ f3 = false ∧ f9 = 0 ∧ f10 = 0 ∧ f11 = 0 ∧ f12 = 0 ∧ f13 = 0 ∧ f14 = 0 ∧ f15 = 0 ∧ L = [] := by
        simp [woF, sameF, zeroF] at hz
        simp [hz]
        exact toList_nil L (by simp [hz])
      obtain ⟨rfl, rfl, rfl, rfl, rfl, rfl, rfl, rfl, rfl, rfl, rfl⟩ := hE
      obtain rfl : f5 = 0 := by rw [← hlen]; rfl
      have hv : rt f7 f8 = true := by simpa [ownB] using ho
      obtain ⟨h1, h2, h3, h4⟩ := rt_nat f7 f8 hv n8
      generalize f7.toNat = l at *
      generalize f8.toNat = b at *
      subst h3 h4
      exact ⟨.vec l b, ⟨h1, h2⟩, ⟨hch, fun w _ => (fieldSize_vecz f4 f6 l b h1 w).mono fun _ _ ⟨h, k⟩ => ⟨h, k.below⟩, fun w base g n cap xs _ _ ho hr => putField_vecz f4 f6 l b h1 h2 base g n cap xs w ho hr⟩, ⟨rfl, Or.inr ⟨rfl, rfl⟩⟩, rfl⟩
    · have hE : f1 = 0 ∧ f2 = 0 ∧ f3 = false ∧ f7 = 0 ∧ f8 = 0 ∧ f11 = 0 ∧ f12 = 0 ∧ f13 = 0 ∧ f14 = 0 ∧ f15 = 0 ∧ L = [] := by
        simp [woF, sameF, zeroF] at hz
        simp [hz]
        exact toList_nil L (by simp [hz])
      obtain ⟨rfl, rfl, rfl, rfl, rfl, rfl, rfl, rfl, rfl, rfl, rfl⟩ := hE
      obtain rfl : f5 = 0 := by rw [← hlen]; rfl
      have hc : ckE f9 f10 = 0 := by simpa [ownB] using ho
      obtain ⟨h1, h2⟩ := ckE_ok f9 f10 hc
      exact ⟨.key f9 f10, ⟨h1, h2, hc, h10.1, h10.2⟩, ⟨hch, fun w _ => (fieldSize_keyz f4 f6 f9 f10 w).mono fun _ _ ⟨h, k⟩ => ⟨h, k.below⟩, fun w base g n cap xs _ _ ho hr => putField_keyz f4 f6 f9 f10 h1 h2 base g n cap xs w ho hr⟩, ⟨rfl, Or.inr ⟨rfl, rfl⟩⟩, rfl⟩
    · have hE : f1 = 0 ∧ f2 = 0 ∧ f3 = false ∧ f7 = 0 ∧ f8 = 0 ∧ f9 = 0 ∧ f10 = 0 ∧ L = [] := by
        simp [woF, sameF, zeroF] at hz
        simp [hz]
        exact toList_nil L (by simp [hz])
      obtain ⟨rfl, rfl, rfl, rfl, rfl, rfl, rfl, rfl⟩ := hE
      obtain rfl : f5 = 0 := by rw [← hlen]; rfl
      have hc : ckE f12 f13 = 0 ∧ rt f14 f15 = true := by simpa [ownB] using ho
      obtain ⟨hc, hv⟩ := hc
      obtain ⟨g1, g2⟩ := ckE_ok f12 f13 hc
      obtain ⟨h1, h2, h3, h4⟩ := rt_nat f14 f15 hv n15
      generalize f14.toNat = l at *
      generalize f15.toNat = b at *
      subst h3 h4
      exact ⟨.ref f11 f12 f13 l b, ⟨n11, ⟨g1, g2, hc, h13.1, h13.2⟩, h1, h2⟩, ⟨hch, fun w _ => (fieldSize_refz f4 f6 f11 f12 f13 l b n11.1 n11.2 h1 w).mono fun _ _ ⟨h, k⟩ => ⟨h, k.below⟩, fun w base g n cap xs _ _ ho hr => putField_refz f4 f6 f11 f12 f13 l b n11.1 n11.2 g1 g2 h1 h2 base g n cap xs w ho hr⟩, ⟨rfl, Or.inr ⟨rfl, rfl⟩⟩, rfl⟩

end Go.Proofs.YtmhcmlegdoapdaaDoor
