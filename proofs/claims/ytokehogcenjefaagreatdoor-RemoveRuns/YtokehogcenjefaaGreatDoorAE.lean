/- awake: a key that is not there. -/
import Derived.Test.YtokehogcenjefaaGreatDoorAD
namespace Go.Proofs.YtokehogcenjefaaGreatDoor
open Go.RowKit Go.Maps Go.ChangeMaps

def t1 : An := ⟨1, false, zr, ⟨1, 3, 0, 0, 0⟩, none, 0, 0⟩
def s9 : Sk := { s0 with ov := true, rl := ⟨0, 1, 0, 0, 0⟩, rr := ⟨1, 3, 0, 0, 0⟩ }
theorem aw16 : s0.tell [] t1 = (s9, []) := by
 have hl : liv [] 0 0 ⟨0, 1, 0, 0, 0⟩ ⟨1, 3, 0, 0, 0⟩ = some ⟨1, 3, 0, 0, 0⟩ := liv_none (by decide) rfl
 show (s0.right [] ⟨1, 3, 0, 0, 0⟩, ([] : List (Pl × Rf))) = _
 unfold Sk.right
 show ((match liv [] 0 0 ⟨0, 1, 0, 0, 0⟩ ⟨1, 3, 0, 0, 0⟩ with | none => s0.begin | some x => s0.next x), ([] : List (Pl × Rf))) = _
 rw [hl]
 rfl
theorem t1_ok : AOk t1 := ⟨by decide, by decide⟩

set_option maxHeartbeats 2000000 in
set_option maxRecDepth 100000 in
theorem owner_any (w : World) : Calls Tryz.prog 17 #[] w fun e w' => e = .returned (.agg #[.int .i64 1, .int .i64 1]) ∧ Below w.heap.size w w' := by
 have B := hide ((Below.refl w.heap.size w).alloc (Nat.le_refl _) (.cells #[.int .i64 1, .int .i64 1] 31))
 have I := hide (IsB.new w #[.int .i64 1, .int .i64 1] 31)
 go_enter Tryz.func17, Tryz.ntmps17
 go_wp2
 refine bodyPost_ret (results_cell_row Tryz.results17 _ _ w.heap.size 31 #[.int .i64 1, .int .i64 1] (0, 0) _ rfl I.out Tryz.underlying31 rfl (by kernel_rfl)) rfl ?_
 exact ⟨rfl, B.out⟩

set_option maxHeartbeats 8000000 in
set_option maxRecDepth 100000 in
theorem rawake_any (w : World) (hR : Ranks w) : Calls Tryz.prog 5 #[] w fun e w' => e = .returned (.bool true) ∧ Below w.heap.size w w' := by
 have mixed : Tryz.prog.follows .mixedOrders = true := by kernel_rfl
 have HR := hide hR
 clear hR
 go_enter Tryz.func5, Tryz.ntmps5
 go_wp2_with fail
 refine (head_any 0 w).mono ?_
 rintro e w1 ⟨rfl, hb⟩
 replace HR := hide (HR.out.below hb)
 have B := hide hb
 clear hb
 go_wp2_with fail
 refine (owner_any w1).mono ?_
 rintro e w2 ⟨rfl, hb⟩
 replace HR := hide (HR.out.below hb)
 replace B := hide (B.out.trans (hb.mono B.out.size))
 clear hb
 go_wp2_with fail
 refine (rnew_ok 0 ⟨0, 1, 0, 0, 0⟩ 7 1 1 (by decide) (by decide) (by decide) w2 HR.out).mono ?_
 rintro e w3 ⟨b, s, m, rfl, I', X', h1, h2, h3, h4, hb⟩
 have X : Hid (SkAt w3 s m s0 []) := X'
 have I := hide I'
 have hbs : Hid (b ≠ s ∧ b ≠ m) := ⟨by omega, by omega⟩
 have hbm : Hid (w.heap.size ≤ s ∧ w.heap.size ≤ m ∧ w.heap.size ≤ b) := ⟨Nat.le_trans B.out.size h3, Nat.le_trans B.out.size h4, by have := Nat.le_trans B.out.size h3; omega⟩
 replace HR := hide (HR.out.below hb)
 replace B := hide (B.out.trans (hb.mono B.out.size))
 clear hb h1 h2 h3 h4 I' X'
 go_wp2_with fail
 have NX : Calls Tryz.prog 9 #[.pointer (some ⟨b, 0, none⟩)] w3 fun e w' => e = .returned (.agg #[.int .i64 1, .int .i64 0, .int .i64 1, .int .u64 0, .int .i64 0, .int .u64 0, .int .i64 1, .int .i64 0, .int .u64 0, .int .i64 0, .int .i64 0, .int .u64 0, .int .i64 0, .int .u64 0, .int .i64 0, .int .i64 0, .int .u64 0, .int .i64 0, .int .u64 0, .int .i64 0, .int .i64 0, .int .i64 0, .int .u64 0, .slice none 0 0, .slice none 0 0, .int .i64 0, .int .i64 0, .int .u64 0, .int .i64 0, .int .u64 0, .int .i64 0, .int .i64 0, .int .u64 0, .int .i64 0, .int .u64 0, .bool false]) ∧ Below w3.heap.size w3 w' := rnext_search b s m _ s0 [] rfl w3 I.out X.out
 refine NX.mono ?_
 clear NX
 rintro e w4 ⟨rfl, hb⟩
 replace X := hide (X.out.below hb)
 replace I := hide (I.out.below hb)
 replace HR := hide (HR.out.below hb)
 replace B := hide (B.out.trans (hb.mono B.out.size))
 clear hb
 have SS := hide (store_step w4 #[.int .i64 1, .int .i64 0, .int .i64 1, .int .u64 0, .int .i64 0, .int .u64 0, .int .i64 1, .int .i64 0, .int .u64 0, .int .i64 0, .int .i64 0, .int .u64 0, .int .i64 0, .int .u64 0, .int .i64 0, .int .i64 0, .int .u64 0, .int .i64 0, .int .u64 0, .int .i64 0, .int .i64 0, .int .i64 0, .int .u64 0, .slice none 0 0, .slice none 0 0, .int .i64 0, .int .i64 0, .int .u64 0, .int .i64 0, .int .u64 0, .int .i64 0, .int .i64 0, .int .u64 0, .int .i64 0, .int .u64 0, .bool false] rfl (by kernel_rfl))
 have hbA := gb1 w4 (.cells #[.int .i64 1, .int .i64 0, .int .i64 1, .int .u64 0, .int .i64 0, .int .u64 0, .int .i64 1, .int .i64 0, .int .u64 0, .int .i64 0, .int .i64 0, .int .u64 0, .int .i64 0, .int .u64 0, .int .i64 0, .int .i64 0, .int .u64 0, .int .i64 0, .int .u64 0, .int .i64 0, .int .i64 0, .int .i64 0, .int .u64 0, .slice none 0 0, .slice none 0 0, .int .i64 0, .int .i64 0, .int .u64 0, .int .i64 0, .int .u64 0, .int .i64 0, .int .i64 0, .int .u64 0, .int .i64 0, .int .u64 0, .bool false] 53)
 have Q1 := hide (IsB.new w4 #[.int .i64 1, .int .i64 0, .int .i64 1, .int .u64 0, .int .i64 0, .int .u64 0, .int .i64 1, .int .i64 0, .int .u64 0, .int .i64 0, .int .i64 0, .int .u64 0, .int .i64 0, .int .u64 0, .int .i64 0, .int .i64 0, .int .u64 0, .int .i64 0, .int .u64 0, .int .i64 0, .int .i64 0, .int .i64 0, .int .u64 0, .slice none 0 0, .slice none 0 0, .int .i64 0, .int .i64 0, .int .u64 0, .int .i64 0, .int .u64 0, .int .i64 0, .int .i64 0, .int .u64 0, .int .i64 0, .int .u64 0, .bool false] 53)
 have hP1 : Hid (b < w4.heap.size ∧ s < w4.heap.size ∧ m < w4.heap.size) := ⟨I.out.lt, X.out.blk.lt, X.out.map.lt⟩
 replace X := hide (X.out.below hbA)
 replace I := hide (I.out.below hbA)
 replace HR := hide (HR.out.below hbA)
 replace B := hide (B.out.trans (hbA.mono B.out.size))
 clear hbA
 go_wp2_with (first | (focus ((with_reducible refine wpList_store_w ?_ 53 (.tmp 3) (.tmp 19) ?_ ?_ ?_ SS.out ?_); rotate_left; rfl; rfl; rfl; rotate_left; rfl)))
 try simp only [Act.put]
 try go_wp2_with fail
 clear SS
 generalize (w4.alloc (.cells #[.int .i64 1, .int .i64 0, .int .i64 1, .int .u64 0, .int .i64 0, .int .u64 0, .int .i64 1, .int .i64 0, .int .u64 0, .int .i64 0, .int .i64 0, .int .u64 0, .int .i64 0, .int .u64 0, .int .i64 0, .int .i64 0, .int .u64 0, .int .i64 0, .int .u64 0, .int .i64 0, .int .i64 0, .int .i64 0, .int .u64 0, .slice none 0 0, .slice none 0 0, .int .i64 0, .int .i64 0, .int .u64 0, .int .i64 0, .int .u64 0, .int .i64 0, .int .i64 0, .int .u64 0, .int .i64 0, .int .u64 0, .bool false] 53)) = VP1 at *
 generalize w4.heap.size = P1 at *
 refine (tail_any 0 VP1).mono ?_
 rintro e w6 ⟨rfl, hb⟩
 replace X := hide (X.out.below hb)
 replace I := hide (I.out.below hb)
 replace HR := hide (HR.out.below hb)
 replace Q1 := hide (Q1.out.below hb)
 replace B := hide (B.out.trans (hb.mono B.out.size))
 clear hb
 go_wp2_with fail
 have TL := rtell_search b s m _ s0 [] t1 s0_ok t1_ok hbs.out rfl w6 HR.out I.out X.out
 rw [aw16] at TL
 refine TL.mono ?_
 clear TL
 rintro e w7 ⟨rfl, I', X', K'⟩
 have hbB : Below w.heap.size w6 w7 := K'.to_below B.out.size (by have := hbm.out; simp; omega)
 replace Q1 := hide (Q1.out.kp K' (by have := hP1.out; simp; omega))
 replace B := hide (B.out.trans hbB)
 have I : Hid (IsB w7 b (rmL ⟨1, 1, 4, zr, false, 0, 0, 101⟩ .nilIface).toArray 90) := I'
 clear I' X' X K' hbB HR hbm
 go_wp2_with fail
 have NX : Calls Tryz.prog 9 #[.pointer (some ⟨b, 0, none⟩)] w7 fun e w' => e = .returned (.agg #[.int .i64 3, .int .i64 0, .int .i64 0, .int .u64 0, .int .i64 0, .int .u64 0, .int .i64 0, .int .i64 0, .int .u64 0, .int .i64 0, .int .i64 0, .int .u64 0, .int .i64 0, .int .u64 0, .int .i64 0, .int .i64 0, .int .u64 0, .int .i64 0, .int .u64 0, .int .i64 0, .int .i64 0, .int .i64 101, .int .u64 0, .slice none 0 0, .slice none 0 0, .int .i64 0, .int .i64 0, .int .u64 0, .int .i64 0, .int .u64 0, .int .i64 0, .int .i64 0, .int .u64 0, .int .i64 0, .int .u64 0, .bool false]) ∧ Below w7.heap.size w7 w' := rnext_end b _ _ rfl w7 I.out
 refine NX.mono ?_
 clear NX
 rintro e w8 ⟨rfl, hb⟩
 replace I := hide (I.out.below hb)
 replace Q1 := hide (Q1.out.below hb)
 replace B := hide (B.out.trans (hb.mono B.out.size))
 clear hb
 have SS := hide (store_step w8 #[.int .i64 3, .int .i64 0, .int .i64 0, .int .u64 0, .int .i64 0, .int .u64 0, .int .i64 0, .int .i64 0, .int .u64 0, .int .i64 0, .int .i64 0, .int .u64 0, .int .i64 0, .int .u64 0, .int .i64 0, .int .i64 0, .int .u64 0, .int .i64 0, .int .u64 0, .int .i64 0, .int .i64 0, .int .i64 101, .int .u64 0, .slice none 0 0, .slice none 0 0, .int .i64 0, .int .i64 0, .int .u64 0, .int .i64 0, .int .u64 0, .int .i64 0, .int .i64 0, .int .u64 0, .int .i64 0, .int .u64 0, .bool false] rfl (by kernel_rfl))
 have hbA := gb1 w8 (.cells #[.int .i64 3, .int .i64 0, .int .i64 0, .int .u64 0, .int .i64 0, .int .u64 0, .int .i64 0, .int .i64 0, .int .u64 0, .int .i64 0, .int .i64 0, .int .u64 0, .int .i64 0, .int .u64 0, .int .i64 0, .int .i64 0, .int .u64 0, .int .i64 0, .int .u64 0, .int .i64 0, .int .i64 0, .int .i64 101, .int .u64 0, .slice none 0 0, .slice none 0 0, .int .i64 0, .int .i64 0, .int .u64 0, .int .i64 0, .int .u64 0, .int .i64 0, .int .i64 0, .int .u64 0, .int .i64 0, .int .u64 0, .bool false] 53)
 have Q2 := hide (IsB.new w8 #[.int .i64 3, .int .i64 0, .int .i64 0, .int .u64 0, .int .i64 0, .int .u64 0, .int .i64 0, .int .i64 0, .int .u64 0, .int .i64 0, .int .i64 0, .int .u64 0, .int .i64 0, .int .u64 0, .int .i64 0, .int .i64 0, .int .u64 0, .int .i64 0, .int .u64 0, .int .i64 0, .int .i64 0, .int .i64 101, .int .u64 0, .slice none 0 0, .slice none 0 0, .int .i64 0, .int .i64 0, .int .u64 0, .int .i64 0, .int .u64 0, .int .i64 0, .int .i64 0, .int .u64 0, .int .i64 0, .int .u64 0, .bool false] 53)
 replace I := hide (I.out.below hbA)
 replace Q1 := hide (Q1.out.below hbA)
 replace B := hide (B.out.trans (hbA.mono B.out.size))
 clear hbA
 have y1 : (w8.alloc (.cells #[.int .i64 3, .int .i64 0, .int .i64 0, .int .u64 0, .int .i64 0, .int .u64 0, .int .i64 0, .int .i64 0, .int .u64 0, .int .i64 0, .int .i64 0, .int .u64 0, .int .i64 0, .int .u64 0, .int .i64 0, .int .i64 0, .int .u64 0, .int .i64 0, .int .u64 0, .int .i64 0, .int .i64 0, .int .i64 101, .int .u64 0, .slice none 0 0, .slice none 0 0, .int .i64 0, .int .i64 0, .int .u64 0, .int .i64 0, .int .u64 0, .int .i64 0, .int .i64 0, .int .u64 0, .int .i64 0, .int .u64 0, .bool false] 53)).cell? ⟨P1, 0, none⟩ = some (.int .i64 1) := Q1.out.cell 0
 have y2 : (w8.alloc (.cells #[.int .i64 3, .int .i64 0, .int .i64 0, .int .u64 0, .int .i64 0, .int .u64 0, .int .i64 0, .int .i64 0, .int .u64 0, .int .i64 0, .int .i64 0, .int .u64 0, .int .i64 0, .int .u64 0, .int .i64 0, .int .i64 0, .int .u64 0, .int .i64 0, .int .u64 0, .int .i64 0, .int .i64 0, .int .i64 101, .int .u64 0, .slice none 0 0, .slice none 0 0, .int .i64 0, .int .i64 0, .int .u64 0, .int .i64 0, .int .u64 0, .int .i64 0, .int .i64 0, .int .u64 0, .int .i64 0, .int .u64 0, .bool false] 53)).cell? ⟨P1, 6, none⟩ = some (.int .i64 1) := Q1.out.cell 6
 have y3 : (w8.alloc (.cells #[.int .i64 3, .int .i64 0, .int .i64 0, .int .u64 0, .int .i64 0, .int .u64 0, .int .i64 0, .int .i64 0, .int .u64 0, .int .i64 0, .int .i64 0, .int .u64 0, .int .i64 0, .int .u64 0, .int .i64 0, .int .i64 0, .int .u64 0, .int .i64 0, .int .u64 0, .int .i64 0, .int .i64 0, .int .i64 101, .int .u64 0, .slice none 0 0, .slice none 0 0, .int .i64 0, .int .i64 0, .int .u64 0, .int .i64 0, .int .u64 0, .int .i64 0, .int .i64 0, .int .u64 0, .int .i64 0, .int .u64 0, .bool false] 53)).cell? ⟨w8.heap.size, 0, none⟩ = some (.int .i64 3) := Q2.out.cell 0
 have y4 : (w8.alloc (.cells #[.int .i64 3, .int .i64 0, .int .i64 0, .int .u64 0, .int .i64 0, .int .u64 0, .int .i64 0, .int .i64 0, .int .u64 0, .int .i64 0, .int .i64 0, .int .u64 0, .int .i64 0, .int .u64 0, .int .i64 0, .int .i64 0, .int .u64 0, .int .i64 0, .int .u64 0, .int .i64 0, .int .i64 0, .int .i64 101, .int .u64 0, .slice none 0 0, .slice none 0 0, .int .i64 0, .int .i64 0, .int .u64 0, .int .i64 0, .int .u64 0, .int .i64 0, .int .i64 0, .int .u64 0, .int .i64 0, .int .u64 0, .bool false] 53)).cell? ⟨w8.heap.size, 21, none⟩ = some (.int .i64 101) := Q2.out.cell 21
 go_wp2_with (first | (focus ((with_reducible refine wpList_store_w ?_ 53 (.tmp 4) (.tmp 25) ?_ ?_ ?_ SS.out ?_); rotate_left; rfl; rfl; rfl; rotate_left; rfl)))
 try simp only [Act.put]
 clear SS
 generalize (w8.alloc (.cells #[.int .i64 3, .int .i64 0, .int .i64 0, .int .u64 0, .int .i64 0, .int .u64 0, .int .i64 0, .int .i64 0, .int .u64 0, .int .i64 0, .int .i64 0, .int .u64 0, .int .i64 0, .int .u64 0, .int .i64 0, .int .i64 0, .int .u64 0, .int .i64 0, .int .u64 0, .int .i64 0, .int .i64 0, .int .i64 101, .int .u64 0, .slice none 0 0, .slice none 0 0, .int .i64 0, .int .i64 0, .int .u64 0, .int .i64 0, .int .u64 0, .int .i64 0, .int .i64 0, .int .u64 0, .int .i64 0, .int .u64 0, .bool false] 53)) = VP2 at *
 generalize w8.heap.size = P2 at *
 refine (marked_any b _ _ VP2 I.out).mono ?_
 rintro e w9 ⟨rfl, hw⟩
 rw [hw]
 go_wp2
 go_ret
 exact ⟨rfl, B.out⟩

end Go.Proofs.YtokehogcenjefaaGreatDoor
