/- awake: two peers, and a key between them. -/
import Derived.Test.YtdkadggcaobaaaaDoorSI
namespace Go.Proofs.YtdkadggcaobaaaaDoor
open Go.RowKit Go.Maps Go.ChangeMaps

def s0 : Sk := newS 0 ⟨0, 1, 0, 0, 0⟩ 2 7
def s1 : Sk := { s0 with ah := ⟨2, 2, 5, 0, 0⟩, lk := true }
def s2 : Sk := { s0 with pt := ⟨2, 2, 5, 0, 0⟩, ov := true, rl := ⟨2, 2, 5, 0, 0⟩, rr := ⟨3, 2, 9, 0, 0⟩ }
def a1 : An := ⟨1, false, zr, ⟨2, 2, 5, 0, 0⟩, none, 0, 0⟩
def a2 : An := ⟨1, false, ⟨0, 1, 0, 0, 0⟩, ⟨3, 2, 9, 0, 0⟩, none, 0, 0⟩
theorem aw1 : s0.tell [] a1 = (s1, []) := by
  have hl : liv [] 0 0 ⟨0, 1, 0, 0, 0⟩ ⟨2, 2, 5, 0, 0⟩ = some ⟨2, 2, 5, 0, 0⟩ := liv_none (by decide) rfl
  show (s0.right [] ⟨2, 2, 5, 0, 0⟩, ([] : List (Pl × Rf))) = _
  unfold Sk.right
  show ((match liv [] 0 0 ⟨0, 1, 0, 0, 0⟩ ⟨2, 2, 5, 0, 0⟩ with | none => s0.begin | some x => s0.next x), ([] : List (Pl × Rf))) = _
  rw [hl]
  rfl
theorem aw2 : s1.tell [] a2 = (s2, []) := by
  have hl : liv [] 0 0 ⟨2, 2, 5, 0, 0⟩ ⟨3, 2, 9, 0, 0⟩ = some ⟨3, 2, 9, 0, 0⟩ := liv_none (by decide) rfl
  show ((s1.stand s1.ah).right [] ⟨3, 2, 9, 0, 0⟩, ([] : List (Pl × Rf))) = _
  unfold Sk.right
  show ((match liv [] 0 0 ⟨2, 2, 5, 0, 0⟩ ⟨3, 2, 9, 0, 0⟩ with | none => (s1.stand s1.ah).begin | some x => (s1.stand s1.ah).next x), ([] : List (Pl × Rf))) = _
  rw [hl]
  rfl
theorem s0_ok : SOk s0 [] := newS_ok (by decide) (by decide) (by decide)
theorem a1_ok : AOk a1 := ⟨by decide, by decide⟩
theorem a2_ok : AOk a2 := ⟨by decide, by decide⟩
theorem s1_ok : SOk s1 [] := by have := s0_ok.tell a1_ok; rwa [aw1] at this
theorem store_step (w : World) (cs : Array Value) (hs : cs.size = 36) (h1 : cs.all (·.oneCell') = true) : (Instr.storeAt 57 (.pointer (some ⟨w.heap.size, 0, none⟩)) (.agg cs)).run Tryd.prog (w.alloc (.cells #[.int .i64 0, .int .i64 0, .int .i64 0, .int .u64 0, .int .i64 0, .int .u64 0, .int .i64 0, .int .i64 0, .int .u64 0, .int .i64 0, .int .i64 0, .int .u64 0, .int .i64 0, .int .u64 0, .int .i64 0, .int .i64 0, .int .u64 0, .int .i64 0, .int .u64 0, .int .i64 0, .int .i64 0, .int .i64 0, .int .u64 0, .slice none 0 0, .slice none 0 0, .int .i64 0, .int .i64 0, .int .u64 0, .int .i64 0, .int .u64 0, .int .i64 0, .int .i64 0, .int .u64 0, .int .i64 0, .int .u64 0, .bool false] 57)) = .ok () (w.alloc (.cells cs 57)) := run_storeAt_new w 57 _ cs (by rw [hs]; exact step_info) (by rw [hs]; rfl) h1
theorem ld_sref {w : World} {b : Nat} {cs : List Value} (I : IsB w b cs.toArray 57) (o : Nat) (r : Rf) (h : (cs.drop o).take 5 = r.cs) : (Instr.loadAt 29 (.pointer (some ⟨b, o, none⟩))).run Tryd.prog w = .ok (.agg r.cells) w := load_mid I o _ r.cs _ h Tryd.underlying29 rfl (by kernel_rfl)

set_option maxHeartbeats 8000000 in
set_option maxRecDepth 100000 in
theorem awake_any (w : World) (hR : Ranks w) : Calls Tryd.prog 7 #[] w fun e w' => e = .returned (.bool true) ∧ Below w.heap.size w w' := by
  have mixed : Tryd.prog.follows .mixedOrders = true := by kernel_rfl
  have HR := hide hR
  clear hR
  go_enter Tryd.func7, Tryd.ntmps7
  go_wp2_with fail
  refine (head_any 0 w).mono ?_
  rintro e w1 ⟨rfl, hb⟩
  replace HR := hide (HR.out.below hb)
  have B := hide hb
  clear hb
  go_wp2_with fail
  refine (at2_any 7 w1).mono ?_
  rintro e w2 ⟨rfl, hb⟩
  replace HR := hide (HR.out.below hb)
  replace B := hide (B.out.trans (hb.mono B.out.size))
  clear hb
  go_wp2_with fail
  refine (new_ok 0 ⟨0, 1, 0, 0, 0⟩ 2 7 (by decide) (by decide) w2 HR.out).mono ?_
  rintro e w3 ⟨b, m, rfl, X', h1, h2, hb⟩
  have X : Hid (SkAt w3 b m s0 []) := X'
  have hbm : Hid (w.heap.size ≤ b ∧ w.heap.size ≤ m) := ⟨Nat.le_trans B.out.size h1, Nat.le_trans B.out.size h2⟩
  replace HR := hide (HR.out.below hb)
  replace B := hide (B.out.trans (hb.mono B.out.size))
  clear hb h1 h2 X'
  go_wp2_with fail
  have NX : Calls Tryd.prog 16 #[.pointer (some ⟨b, 0, none⟩)] w3 fun e w' => e = .returned (.agg #[.int .i64 1, .int .i64 0, .int .i64 1, .int .u64 0, .int .i64 0, .int .u64 0, .int .i64 1, .int .i64 0, .int .u64 0, .int .i64 0, .int .i64 0, .int .u64 0, .int .i64 0, .int .u64 0, .int .i64 0, .int .i64 0, .int .u64 0, .int .i64 0, .int .u64 0, .int .i64 0, .int .i64 0, .int .i64 0, .int .u64 0, .slice none 0 0, .slice none 0 0, .int .i64 0, .int .i64 0, .int .u64 0, .int .i64 0, .int .u64 0, .int .i64 0, .int .i64 0, .int .u64 0, .int .i64 0, .int .u64 0, .bool false]) ∧ Below w3.heap.size w3 w' := next_any b m s0 [] w3 X.out
  refine NX.mono ?_
  clear NX
  rintro e w4 ⟨rfl, hb⟩
  replace X := hide (X.out.below hb)
  replace HR := hide (HR.out.below hb)
  replace B := hide (B.out.trans (hb.mono B.out.size))
  clear hb
  have SS := hide (store_step w4 #[.int .i64 1, .int .i64 0, .int .i64 1, .int .u64 0, .int .i64 0, .int .u64 0, .int .i64 1, .int .i64 0, .int .u64 0, .int .i64 0, .int .i64 0, .int .u64 0, .int .i64 0, .int .u64 0, .int .i64 0, .int .i64 0, .int .u64 0, .int .i64 0, .int .u64 0, .int .i64 0, .int .i64 0, .int .i64 0, .int .u64 0, .slice none 0 0, .slice none 0 0, .int .i64 0, .int .i64 0, .int .u64 0, .int .i64 0, .int .u64 0, .int .i64 0, .int .i64 0, .int .u64 0, .int .i64 0, .int .u64 0, .bool false] rfl (by kernel_rfl))
  have hbA := (Below.refl w4.heap.size w4).alloc (Nat.le_refl _) (.cells #[.int .i64 1, .int .i64 0, .int .i64 1, .int .u64 0, .int .i64 0, .int .u64 0, .int .i64 1, .int .i64 0, .int .u64 0, .int .i64 0, .int .i64 0, .int .u64 0, .int .i64 0, .int .u64 0, .int .i64 0, .int .i64 0, .int .u64 0, .int .i64 0, .int .u64 0, .int .i64 0, .int .i64 0, .int .i64 0, .int .u64 0, .slice none 0 0, .slice none 0 0, .int .i64 0, .int .i64 0, .int .u64 0, .int .i64 0, .int .u64 0, .int .i64 0, .int .i64 0, .int .u64 0, .int .i64 0, .int .u64 0, .bool false] 57)
  have Q1 := hide (IsB.new w4 #[.int .i64 1, .int .i64 0, .int .i64 1, .int .u64 0, .int .i64 0, .int .u64 0, .int .i64 1, .int .i64 0, .int .u64 0, .int .i64 0, .int .i64 0, .int .u64 0, .int .i64 0, .int .u64 0, .int .i64 0, .int .i64 0, .int .u64 0, .int .i64 0, .int .u64 0, .int .i64 0, .int .i64 0, .int .i64 0, .int .u64 0, .slice none 0 0, .slice none 0 0, .int .i64 0, .int .i64 0, .int .u64 0, .int .i64 0, .int .u64 0, .int .i64 0, .int .i64 0, .int .u64 0, .int .i64 0, .int .u64 0, .bool false] 57)
  have hP1 : Hid (b < w4.heap.size ∧ m < w4.heap.size) := ⟨X.out.blk.lt, X.out.map.lt⟩
  replace X := hide (X.out.below hbA)
  replace HR := hide (HR.out.below hbA)
  replace B := hide (B.out.trans (hbA.mono B.out.size))
  clear hbA
  go_wp2_with (first | (focus ((with_reducible refine wpList_store_w ?_ 57 (.tmp 3) (.tmp 20) ?_ ?_ ?_ SS.out ?_); rotate_left; rfl; rfl; rfl; rotate_left; rfl)))
  try simp only [Act.put]
  try go_wp2_with fail
  clear SS
  generalize (w4.alloc (.cells #[.int .i64 1, .int .i64 0, .int .i64 1, .int .u64 0, .int .i64 0, .int .u64 0, .int .i64 1, .int .i64 0, .int .u64 0, .int .i64 0, .int .i64 0, .int .u64 0, .int .i64 0, .int .u64 0, .int .i64 0, .int .i64 0, .int .u64 0, .int .i64 0, .int .u64 0, .int .i64 0, .int .i64 0, .int .i64 0, .int .u64 0, .slice none 0 0, .slice none 0 0, .int .i64 0, .int .i64 0, .int .u64 0, .int .i64 0, .int .u64 0, .int .i64 0, .int .i64 0, .int .u64 0, .int .i64 0, .int .u64 0, .bool false] 57)) = VP1 at *
  generalize w4.heap.size = P1 at *
  refine (lat_any 2 5 VP1).mono ?_
  rintro e w6 ⟨rfl, hb⟩
  replace X := hide (X.out.below hb)
  replace HR := hide (HR.out.below hb)
  replace B := hide (B.out.trans (hb.mono B.out.size))
  replace Q1 := hide (Q1.out.below hb)
  clear hb
  go_wp2_with fail
  have TL := tell_any b m s0 [] a1 s0_ok a1_ok w6 HR.out X.out
  rw [aw1] at TL
  refine TL.mono ?_
  clear TL
  rintro e w7 ⟨rfl, X', K'⟩
  have hbB : Below w.heap.size w6 w7 := K'.to_below B.out.size (by have := hbm.out; simp; omega)
  replace HR := hide (HR.out.kp K' X.out)
  replace Q1 := hide (Q1.out.kp K' (by have := hP1.out; simp; omega))
  replace B := hide (B.out.trans hbB)
  replace X := hide X'
  clear X' K' hbB
  go_wp2_with fail
  have NX : Calls Tryd.prog 16 #[.pointer (some ⟨b, 0, none⟩)] w7 fun e w' => e = .returned (.agg #[.int .i64 1, .int .i64 2, .int .i64 2, .int .u64 5, .int .i64 0, .int .u64 0, .int .i64 1, .int .i64 0, .int .u64 0, .int .i64 0, .int .i64 0, .int .u64 0, .int .i64 0, .int .u64 0, .int .i64 0, .int .i64 0, .int .u64 0, .int .i64 0, .int .u64 0, .int .i64 0, .int .i64 0, .int .i64 0, .int .u64 0, .slice none 0 0, .slice none 0 0, .int .i64 0, .int .i64 0, .int .u64 0, .int .i64 0, .int .u64 0, .int .i64 0, .int .i64 0, .int .u64 0, .int .i64 0, .int .u64 0, .bool false]) ∧ Below w7.heap.size w7 w' := next_any b m s1 [] w7 X.out
  refine NX.mono ?_
  clear NX
  rintro e w8 ⟨rfl, hb⟩
  replace X := hide (X.out.below hb)
  replace HR := hide (HR.out.below hb)
  replace B := hide (B.out.trans (hb.mono B.out.size))
  replace Q1 := hide (Q1.out.below hb)
  clear hb
  have SS := hide (store_step w8 #[.int .i64 1, .int .i64 2, .int .i64 2, .int .u64 5, .int .i64 0, .int .u64 0, .int .i64 1, .int .i64 0, .int .u64 0, .int .i64 0, .int .i64 0, .int .u64 0, .int .i64 0, .int .u64 0, .int .i64 0, .int .i64 0, .int .u64 0, .int .i64 0, .int .u64 0, .int .i64 0, .int .i64 0, .int .i64 0, .int .u64 0, .slice none 0 0, .slice none 0 0, .int .i64 0, .int .i64 0, .int .u64 0, .int .i64 0, .int .u64 0, .int .i64 0, .int .i64 0, .int .u64 0, .int .i64 0, .int .u64 0, .bool false] rfl (by kernel_rfl))
  have hbA := (Below.refl w8.heap.size w8).alloc (Nat.le_refl _) (.cells #[.int .i64 1, .int .i64 2, .int .i64 2, .int .u64 5, .int .i64 0, .int .u64 0, .int .i64 1, .int .i64 0, .int .u64 0, .int .i64 0, .int .i64 0, .int .u64 0, .int .i64 0, .int .u64 0, .int .i64 0, .int .i64 0, .int .u64 0, .int .i64 0, .int .u64 0, .int .i64 0, .int .i64 0, .int .i64 0, .int .u64 0, .slice none 0 0, .slice none 0 0, .int .i64 0, .int .i64 0, .int .u64 0, .int .i64 0, .int .u64 0, .int .i64 0, .int .i64 0, .int .u64 0, .int .i64 0, .int .u64 0, .bool false] 57)
  have Q2 := hide (IsB.new w8 #[.int .i64 1, .int .i64 2, .int .i64 2, .int .u64 5, .int .i64 0, .int .u64 0, .int .i64 1, .int .i64 0, .int .u64 0, .int .i64 0, .int .i64 0, .int .u64 0, .int .i64 0, .int .u64 0, .int .i64 0, .int .i64 0, .int .u64 0, .int .i64 0, .int .u64 0, .int .i64 0, .int .i64 0, .int .i64 0, .int .u64 0, .slice none 0 0, .slice none 0 0, .int .i64 0, .int .i64 0, .int .u64 0, .int .i64 0, .int .u64 0, .int .i64 0, .int .i64 0, .int .u64 0, .int .i64 0, .int .u64 0, .bool false] 57)
  have hP2 : Hid (b < w8.heap.size ∧ m < w8.heap.size) := ⟨X.out.blk.lt, X.out.map.lt⟩
  replace X := hide (X.out.below hbA)
  replace HR := hide (HR.out.below hbA)
  replace B := hide (B.out.trans (hbA.mono B.out.size))
  replace Q1 := hide (Q1.out.below hbA)
  clear hbA
  go_wp2_with (first | (focus ((with_reducible refine wpList_store_w ?_ 57 (.tmp 4) (.tmp 26) ?_ ?_ ?_ SS.out ?_); rotate_left; rfl; rfl; rfl; rotate_left; rfl)))
  try simp only [Act.put]
  try go_wp2_with fail
  clear SS
  generalize (w8.alloc (.cells #[.int .i64 1, .int .i64 2, .int .i64 2, .int .u64 5, .int .i64 0, .int .u64 0, .int .i64 1, .int .i64 0, .int .u64 0, .int .i64 0, .int .i64 0, .int .u64 0, .int .i64 0, .int .u64 0, .int .i64 0, .int .i64 0, .int .u64 0, .int .i64 0, .int .u64 0, .int .i64 0, .int .i64 0, .int .i64 0, .int .u64 0, .slice none 0 0, .slice none 0 0, .int .i64 0, .int .i64 0, .int .u64 0, .int .i64 0, .int .u64 0, .int .i64 0, .int .i64 0, .int .u64 0, .int .i64 0, .int .u64 0, .bool false] 57)) = VP2 at *
  generalize w8.heap.size = P2 at *
  refine (head_any 0 VP2).mono ?_
  rintro e w10 ⟨rfl, hb⟩
  replace X := hide (X.out.below hb)
  replace HR := hide (HR.out.below hb)
  replace B := hide (B.out.trans (hb.mono B.out.size))
  replace Q1 := hide (Q1.out.below hb)
  replace Q2 := hide (Q2.out.below hb)
  clear hb
  go_wp2_with fail
  refine (lat_any 3 9 w10).mono ?_
  rintro e w11 ⟨rfl, hb⟩
  replace X := hide (X.out.below hb)
  replace HR := hide (HR.out.below hb)
  replace B := hide (B.out.trans (hb.mono B.out.size))
  replace Q1 := hide (Q1.out.below hb)
  replace Q2 := hide (Q2.out.below hb)
  clear hb
  go_wp2_with fail
  have TL := tell_any b m s1 [] a2 s1_ok a2_ok w11 HR.out X.out
  rw [aw2] at TL
  refine TL.mono ?_
  clear TL
  rintro e w12 ⟨rfl, X', K'⟩
  have hbB : Below w.heap.size w11 w12 := K'.to_below B.out.size (by have := hbm.out; simp; omega)
  replace HR := hide (HR.out.kp K' X.out)
  replace Q1 := hide (Q1.out.kp K' (by have := hP1.out; simp; omega))
  replace Q2 := hide (Q2.out.kp K' (by have := hP2.out; simp; omega))
  replace B := hide (B.out.trans hbB)
  replace X := hide X'
  clear X' K' hbB
  go_wp2_with fail
  have NX : Calls Tryd.prog 16 #[.pointer (some ⟨b, 0, none⟩)] w12 fun e w' => e = .returned (.agg #[.int .i64 3, .int .i64 0, .int .i64 0, .int .u64 0, .int .i64 0, .int .u64 0, .int .i64 0, .int .i64 0, .int .u64 0, .int .i64 0, .int .i64 0, .int .u64 0, .int .i64 0, .int .u64 0, .int .i64 0, .int .i64 0, .int .u64 0, .int .i64 0, .int .u64 0, .int .i64 0, .int .i64 0, .int .i64 0, .int .u64 0, .slice none 0 0, .slice none 0 0, .int .i64 2, .int .i64 2, .int .u64 5, .int .i64 0, .int .u64 0, .int .i64 3, .int .i64 2, .int .u64 9, .int .i64 0, .int .u64 0, .bool false]) ∧ Below w12.heap.size w12 w' := next_any b m s2 [] w12 X.out
  refine NX.mono ?_
  clear NX
  rintro e w13 ⟨rfl, hb⟩
  replace X := hide (X.out.below hb)
  replace HR := hide (HR.out.below hb)
  replace B := hide (B.out.trans (hb.mono B.out.size))
  replace Q1 := hide (Q1.out.below hb)
  replace Q2 := hide (Q2.out.below hb)
  clear hb
  have SS := hide (store_step w13 #[.int .i64 3, .int .i64 0, .int .i64 0, .int .u64 0, .int .i64 0, .int .u64 0, .int .i64 0, .int .i64 0, .int .u64 0, .int .i64 0, .int .i64 0, .int .u64 0, .int .i64 0, .int .u64 0, .int .i64 0, .int .i64 0, .int .u64 0, .int .i64 0, .int .u64 0, .int .i64 0, .int .i64 0, .int .i64 0, .int .u64 0, .slice none 0 0, .slice none 0 0, .int .i64 2, .int .i64 2, .int .u64 5, .int .i64 0, .int .u64 0, .int .i64 3, .int .i64 2, .int .u64 9, .int .i64 0, .int .u64 0, .bool false] rfl (by kernel_rfl))
  have hbA := (Below.refl w13.heap.size w13).alloc (Nat.le_refl _) (.cells #[.int .i64 3, .int .i64 0, .int .i64 0, .int .u64 0, .int .i64 0, .int .u64 0, .int .i64 0, .int .i64 0, .int .u64 0, .int .i64 0, .int .i64 0, .int .u64 0, .int .i64 0, .int .u64 0, .int .i64 0, .int .i64 0, .int .u64 0, .int .i64 0, .int .u64 0, .int .i64 0, .int .i64 0, .int .i64 0, .int .u64 0, .slice none 0 0, .slice none 0 0, .int .i64 2, .int .i64 2, .int .u64 5, .int .i64 0, .int .u64 0, .int .i64 3, .int .i64 2, .int .u64 9, .int .i64 0, .int .u64 0, .bool false] 57)
  have Q3 := hide (IsB.new w13 #[.int .i64 3, .int .i64 0, .int .i64 0, .int .u64 0, .int .i64 0, .int .u64 0, .int .i64 0, .int .i64 0, .int .u64 0, .int .i64 0, .int .i64 0, .int .u64 0, .int .i64 0, .int .u64 0, .int .i64 0, .int .i64 0, .int .u64 0, .int .i64 0, .int .u64 0, .int .i64 0, .int .i64 0, .int .i64 0, .int .u64 0, .slice none 0 0, .slice none 0 0, .int .i64 2, .int .i64 2, .int .u64 5, .int .i64 0, .int .u64 0, .int .i64 3, .int .i64 2, .int .u64 9, .int .i64 0, .int .u64 0, .bool false] 57)
  have hP3 : Hid (b < w13.heap.size ∧ m < w13.heap.size) := ⟨X.out.blk.lt, X.out.map.lt⟩
  replace X := hide (X.out.below hbA)
  replace HR := hide (HR.out.below hbA)
  replace B := hide (B.out.trans (hbA.mono B.out.size))
  replace Q1 := hide (Q1.out.below hbA)
  replace Q2 := hide (Q2.out.below hbA)
  clear hbA
  go_wp2_with (first | (focus ((with_reducible refine wpList_store_w ?_ 57 (.tmp 5) (.tmp 33) ?_ ?_ ?_ SS.out ?_); rotate_left; rfl; rfl; rfl; rotate_left; rfl)))
  try simp only [Act.put]
  try go_wp2_with fail
  clear SS
  generalize (w13.alloc (.cells #[.int .i64 3, .int .i64 0, .int .i64 0, .int .u64 0, .int .i64 0, .int .u64 0, .int .i64 0, .int .i64 0, .int .u64 0, .int .i64 0, .int .i64 0, .int .u64 0, .int .i64 0, .int .u64 0, .int .i64 0, .int .i64 0, .int .u64 0, .int .i64 0, .int .u64 0, .int .i64 0, .int .i64 0, .int .i64 0, .int .u64 0, .slice none 0 0, .slice none 0 0, .int .i64 2, .int .i64 2, .int .u64 5, .int .i64 0, .int .u64 0, .int .i64 3, .int .i64 2, .int .u64 9, .int .i64 0, .int .u64 0, .bool false] 57)) = VP3 at *
  generalize w13.heap.size = P3 at *
  replace Q1 := hide (Q1.out.below ((Below.refl _ _).drew))
  replace Q2 := hide (Q2.out.below ((Below.refl _ _).drew))
  replace Q3 := hide (Q3.out.below ((Below.refl _ _).drew))
  replace B := hide B.out.drew
  clear X HR hP1 hP2 hP3 hbm
  refine regionL 47 (fun w' => IsB w' P1 #[.int .i64 1, .int .i64 0, .int .i64 1, .int .u64 0, .int .i64 0, .int .u64 0, .int .i64 1, .int .i64 0, .int .u64 0, .int .i64 0, .int .i64 0, .int .u64 0, .int .i64 0, .int .u64 0, .int .i64 0, .int .i64 0, .int .u64 0, .int .i64 0, .int .u64 0, .int .i64 0, .int .i64 0, .int .i64 0, .int .u64 0, .slice none 0 0, .slice none 0 0, .int .i64 0, .int .i64 0, .int .u64 0, .int .i64 0, .int .u64 0, .int .i64 0, .int .i64 0, .int .u64 0, .int .i64 0, .int .u64 0, .bool false] 57 ∧ IsB w' P2 #[.int .i64 1, .int .i64 2, .int .i64 2, .int .u64 5, .int .i64 0, .int .u64 0, .int .i64 1, .int .i64 0, .int .u64 0, .int .i64 0, .int .i64 0, .int .u64 0, .int .i64 0, .int .u64 0, .int .i64 0, .int .i64 0, .int .u64 0, .int .i64 0, .int .u64 0, .int .i64 0, .int .i64 0, .int .i64 0, .int .u64 0, .slice none 0 0, .slice none 0 0, .int .i64 0, .int .i64 0, .int .u64 0, .int .i64 0, .int .u64 0, .int .i64 0, .int .i64 0, .int .u64 0, .int .i64 0, .int .u64 0, .bool false] 57 ∧ IsB w' P3 #[.int .i64 3, .int .i64 0, .int .i64 0, .int .u64 0, .int .i64 0, .int .u64 0, .int .i64 0, .int .i64 0, .int .u64 0, .int .i64 0, .int .i64 0, .int .u64 0, .int .i64 0, .int .u64 0, .int .i64 0, .int .i64 0, .int .u64 0, .int .i64 0, .int .u64 0, .int .i64 0, .int .i64 0, .int .i64 0, .int .u64 0, .slice none 0 0, .slice none 0 0, .int .i64 2, .int .i64 2, .int .u64 5, .int .i64 0, .int .u64 0, .int .i64 3, .int .i64 2, .int .u64 9, .int .i64 0, .int .u64 0, .bool false] 57) mixed ⟨Q1.out, Q2.out, Q3.out⟩ (fun hHeld => ?_)
  generalize VP3.drew = WD at *
  refine pickA (v := ?_) 0 (some 34) rfl rfl (by kernel_rfl) (by kernel_rfl) (by kernel_rfl) (by decide) (fun _ _ _ h => h) (by rfl) ?_ (by assumption) ?_
  rotate_left
  · intro w'
    go_simp
    try with_reducible rfl
  try simp only [Act.put, List.setIfInBounds_toArray, List.set_cons_zero, List.set_cons_succ]
  refine pickL (v := .int .i64 1) 1 (some 35) rfl rfl (by kernel_rfl) (by kernel_rfl) (by kernel_rfl) (by decide) (by kernel_rfl) (by kernel_rfl) (fun _ _ _ h => h) (by rfl) ?_ (by assumption) ?_
  · intro w' hSw
    obtain ⟨q0, q1, q2⟩ := hSw
    have yy : w'.cell? ⟨P1, 0, none⟩ = some (.int .i64 1) := q0.cell 0
    go_simp
  try simp only [Act.put, List.setIfInBounds_toArray, List.set_cons_zero, List.set_cons_succ]
  refine pickA (v := ?_) 2 (some 36) rfl rfl (by kernel_rfl) (by kernel_rfl) (by kernel_rfl) (by decide) (fun _ _ _ h => h) (by rfl) ?_ (by assumption) ?_
  rotate_left
  · intro w'
    go_simp
    try with_reducible rfl
  try simp only [Act.put, List.setIfInBounds_toArray, List.set_cons_zero, List.set_cons_succ]
  refine pickA (v := ?_) 3 (some 37) rfl rfl (by kernel_rfl) (by kernel_rfl) (by kernel_rfl) (by decide) (fun _ _ _ h => h) (by rfl) ?_ (by assumption) ?_
  rotate_left
  · intro w'
    go_simp
    try with_reducible rfl
  try simp only [Act.put, List.setIfInBounds_toArray, List.set_cons_zero, List.set_cons_succ]
  refine pickA (v := ?_) 4 (some 38) rfl rfl (by kernel_rfl) (by kernel_rfl) (by kernel_rfl) (by decide) (fun _ _ _ h => h) (by rfl) ?_ (by assumption) ?_
  rotate_left
  · intro w'
    go_simp
    try with_reducible rfl
  try simp only [Act.put, List.setIfInBounds_toArray, List.set_cons_zero, List.set_cons_succ]
  refine pickL (v := .agg #[.int .i64 0, .int .i64 1, .int .u64 0, .int .i64 0, .int .u64 0]) 5 (some 39) rfl rfl (by kernel_rfl) (by kernel_rfl) (by kernel_rfl) (by decide) (by kernel_rfl) (by kernel_rfl) (fun _ _ _ h => h) (by rfl) ?_ (by assumption) ?_
  · intro w' hSw
    obtain ⟨q0, q1, q2⟩ := hSw
    exact exec_load rfl rfl (ld_sref (cs := _) q0 1 ⟨0, 1, 0, 0, 0⟩ rfl)
  try simp only [Act.put, List.setIfInBounds_toArray, List.set_cons_zero, List.set_cons_succ]
  refine oneL (i := 6) (by kernel_rfl) rfl (fun K hK => ?_)
  go_simp
  refine (head_any 0 WD).mono ?_
  rintro e wa ⟨rfl, hb⟩
  replace Q1 := hide (Q1.out.below hb)
  replace Q2 := hide (Q2.out.below hb)
  replace Q3 := hide (Q3.out.below hb)
  replace B := hide (B.out.trans (hb.mono B.out.size))
  clear hb
  refine hK.out _ _ ?_ ?_
  · exact ⟨Q1.out, Q2.out, Q3.out⟩
  clear hK K
  try simp only [Act.put, List.setIfInBounds_toArray, List.set_cons_zero, List.set_cons_succ]
  clear hHeld
  have hHeld : (fun w' => IsB w' P1 #[.int .i64 1, .int .i64 0, .int .i64 1, .int .u64 0, .int .i64 0, .int .u64 0, .int .i64 1, .int .i64 0, .int .u64 0, .int .i64 0, .int .i64 0, .int .u64 0, .int .i64 0, .int .u64 0, .int .i64 0, .int .i64 0, .int .u64 0, .int .i64 0, .int .u64 0, .int .i64 0, .int .i64 0, .int .i64 0, .int .u64 0, .slice none 0 0, .slice none 0 0, .int .i64 0, .int .i64 0, .int .u64 0, .int .i64 0, .int .u64 0, .int .i64 0, .int .i64 0, .int .u64 0, .int .i64 0, .int .u64 0, .bool false] 57 ∧ IsB w' P2 #[.int .i64 1, .int .i64 2, .int .i64 2, .int .u64 5, .int .i64 0, .int .u64 0, .int .i64 1, .int .i64 0, .int .u64 0, .int .i64 0, .int .i64 0, .int .u64 0, .int .i64 0, .int .u64 0, .int .i64 0, .int .i64 0, .int .u64 0, .int .i64 0, .int .u64 0, .int .i64 0, .int .i64 0, .int .i64 0, .int .u64 0, .slice none 0 0, .slice none 0 0, .int .i64 0, .int .i64 0, .int .u64 0, .int .i64 0, .int .u64 0, .int .i64 0, .int .i64 0, .int .u64 0, .int .i64 0, .int .u64 0, .bool false] 57 ∧ IsB w' P3 #[.int .i64 3, .int .i64 0, .int .i64 0, .int .u64 0, .int .i64 0, .int .u64 0, .int .i64 0, .int .i64 0, .int .u64 0, .int .i64 0, .int .i64 0, .int .u64 0, .int .i64 0, .int .u64 0, .int .i64 0, .int .i64 0, .int .u64 0, .int .i64 0, .int .u64 0, .int .i64 0, .int .i64 0, .int .i64 0, .int .u64 0, .slice none 0 0, .slice none 0 0, .int .i64 2, .int .i64 2, .int .u64 5, .int .i64 0, .int .u64 0, .int .i64 3, .int .i64 2, .int .u64 9, .int .i64 0, .int .u64 0, .bool false] 57) wa := ⟨Q1.out, Q2.out, Q3.out⟩
  refine pickA (v := .bool true) 7 (some 41) rfl rfl (by kernel_rfl) (by kernel_rfl) (by kernel_rfl) (by decide) (fun _ _ _ h => h) (by rfl) ?_ (by assumption) ?_
  · intro w'
    exact exec_bin rguard rfl rfl rfl (eqr 0 1 0 0 0 0 1 0 0 0 _)
  try simp only [Act.put, List.setIfInBounds_toArray, List.set_cons_zero, List.set_cons_succ]
  refine pickA (v := ?_) 8 (some 42) rfl rfl (by kernel_rfl) (by kernel_rfl) (by kernel_rfl) (by decide) (fun _ _ _ h => h) (by rfl) ?_ (by assumption) ?_
  rotate_left
  · intro w'
    go_simp
    try with_reducible rfl
  try simp only [Act.put, List.setIfInBounds_toArray, List.set_cons_zero, List.set_cons_succ]
  refine pickA (v := ?_) 9 (some 43) rfl rfl (by kernel_rfl) (by kernel_rfl) (by kernel_rfl) (by decide) (fun _ _ _ h => h) (by rfl) ?_ (by assumption) ?_
  rotate_left
  · intro w'
    go_simp
    try with_reducible rfl
  try simp only [Act.put, List.setIfInBounds_toArray, List.set_cons_zero, List.set_cons_succ]
  refine pickA (v := ?_) 10 (some 44) rfl rfl (by kernel_rfl) (by kernel_rfl) (by kernel_rfl) (by decide) (fun _ _ _ h => h) (by rfl) ?_ (by assumption) ?_
  rotate_left
  · intro w'
    go_simp
    try with_reducible rfl
  try simp only [Act.put, List.setIfInBounds_toArray, List.set_cons_zero, List.set_cons_succ]
  refine pickL (v := .agg #[.int .i64 2, .int .i64 2, .int .u64 5, .int .i64 0, .int .u64 0]) 11 (some 45) rfl rfl (by kernel_rfl) (by kernel_rfl) (by kernel_rfl) (by decide) (by kernel_rfl) (by kernel_rfl) (fun _ _ _ h => h) (by rfl) ?_ (by assumption) ?_
  · intro w' hSw
    obtain ⟨q0, q1, q2⟩ := hSw
    exact exec_load rfl rfl (ld_sref (cs := _) q1 1 ⟨2, 2, 5, 0, 0⟩ rfl)
  try simp only [Act.put, List.setIfInBounds_toArray, List.set_cons_zero, List.set_cons_succ]
  refine oneL (i := 12) (by kernel_rfl) rfl (fun K hK => ?_)
  go_simp
  refine (lat_any 2 5 wa).mono ?_
  rintro e wb ⟨rfl, hb⟩
  replace Q1 := hide (Q1.out.below hb)
  replace Q2 := hide (Q2.out.below hb)
  replace Q3 := hide (Q3.out.below hb)
  replace B := hide (B.out.trans (hb.mono B.out.size))
  clear hb
  refine hK.out _ _ ?_ ?_
  · exact ⟨Q1.out, Q2.out, Q3.out⟩
  clear hK K
  try simp only [Act.put, List.setIfInBounds_toArray, List.set_cons_zero, List.set_cons_succ]
  clear hHeld
  have hHeld : (fun w' => IsB w' P1 #[.int .i64 1, .int .i64 0, .int .i64 1, .int .u64 0, .int .i64 0, .int .u64 0, .int .i64 1, .int .i64 0, .int .u64 0, .int .i64 0, .int .i64 0, .int .u64 0, .int .i64 0, .int .u64 0, .int .i64 0, .int .i64 0, .int .u64 0, .int .i64 0, .int .u64 0, .int .i64 0, .int .i64 0, .int .i64 0, .int .u64 0, .slice none 0 0, .slice none 0 0, .int .i64 0, .int .i64 0, .int .u64 0, .int .i64 0, .int .u64 0, .int .i64 0, .int .i64 0, .int .u64 0, .int .i64 0, .int .u64 0, .bool false] 57 ∧ IsB w' P2 #[.int .i64 1, .int .i64 2, .int .i64 2, .int .u64 5, .int .i64 0, .int .u64 0, .int .i64 1, .int .i64 0, .int .u64 0, .int .i64 0, .int .i64 0, .int .u64 0, .int .i64 0, .int .u64 0, .int .i64 0, .int .i64 0, .int .u64 0, .int .i64 0, .int .u64 0, .int .i64 0, .int .i64 0, .int .i64 0, .int .u64 0, .slice none 0 0, .slice none 0 0, .int .i64 0, .int .i64 0, .int .u64 0, .int .i64 0, .int .u64 0, .int .i64 0, .int .i64 0, .int .u64 0, .int .i64 0, .int .u64 0, .bool false] 57 ∧ IsB w' P3 #[.int .i64 3, .int .i64 0, .int .i64 0, .int .u64 0, .int .i64 0, .int .u64 0, .int .i64 0, .int .i64 0, .int .u64 0, .int .i64 0, .int .i64 0, .int .u64 0, .int .i64 0, .int .u64 0, .int .i64 0, .int .i64 0, .int .u64 0, .int .i64 0, .int .u64 0, .int .i64 0, .int .i64 0, .int .i64 0, .int .u64 0, .slice none 0 0, .slice none 0 0, .int .i64 2, .int .i64 2, .int .u64 5, .int .i64 0, .int .u64 0, .int .i64 3, .int .i64 2, .int .u64 9, .int .i64 0, .int .u64 0, .bool false] 57) wb := ⟨Q1.out, Q2.out, Q3.out⟩
  refine pickA (v := .bool true) 13 (some 47) rfl rfl (by kernel_rfl) (by kernel_rfl) (by kernel_rfl) (by decide) (fun _ _ _ h => h) (by rfl) ?_ (by assumption) ?_
  · intro w'
    exact exec_bin rguard rfl rfl rfl (eqr 2 2 5 0 0 2 2 5 0 0 _)
  try simp only [Act.put, List.setIfInBounds_toArray, List.set_cons_zero, List.set_cons_succ]
  refine pickA (v := ?_) 14 (some 48) rfl rfl (by kernel_rfl) (by kernel_rfl) (by kernel_rfl) (by decide) (fun _ _ _ h => h) (by rfl) ?_ (by assumption) ?_
  rotate_left
  · intro w'
    go_simp
    try with_reducible rfl
  try simp only [Act.put, List.setIfInBounds_toArray, List.set_cons_zero, List.set_cons_succ]
  refine pickA (v := ?_) 15 (some 49) rfl rfl (by kernel_rfl) (by kernel_rfl) (by kernel_rfl) (by decide) (fun _ _ _ h => h) (by rfl) ?_ (by assumption) ?_
  rotate_left
  · intro w'
    go_simp
    try with_reducible rfl
  try simp only [Act.put, List.setIfInBounds_toArray, List.set_cons_zero, List.set_cons_succ]
  refine pickA (v := ?_) 16 (some 50) rfl rfl (by kernel_rfl) (by kernel_rfl) (by kernel_rfl) (by decide) (fun _ _ _ h => h) (by rfl) ?_ (by assumption) ?_
  rotate_left
  · intro w'
    go_simp
    try with_reducible rfl
  try simp only [Act.put, List.setIfInBounds_toArray, List.set_cons_zero, List.set_cons_succ]
  refine pickL (v := .int .i64 3) 17 (some 51) rfl rfl (by kernel_rfl) (by kernel_rfl) (by kernel_rfl) (by decide) (by kernel_rfl) (by kernel_rfl) (fun _ _ _ h => h) (by rfl) ?_ (by assumption) ?_
  · intro w' hSw
    obtain ⟨q0, q1, q2⟩ := hSw
    have yy : w'.cell? ⟨P3, 0, none⟩ = some (.int .i64 3) := q2.cell 0
    go_simp
  try simp only [Act.put, List.setIfInBounds_toArray, List.set_cons_zero, List.set_cons_succ]
  refine pickA (v := ?_) 18 (some 52) rfl rfl (by kernel_rfl) (by kernel_rfl) (by kernel_rfl) (by decide) (fun _ _ _ h => h) (by rfl) ?_ (by assumption) ?_
  rotate_left
  · intro w'
    go_simp
    try with_reducible rfl
  try simp only [Act.put, List.setIfInBounds_toArray, List.set_cons_zero, List.set_cons_succ]
  refine pickA (v := ?_) 19 (some 53) rfl rfl (by kernel_rfl) (by kernel_rfl) (by kernel_rfl) (by decide) (fun _ _ _ h => h) (by rfl) ?_ (by assumption) ?_
  rotate_left
  · intro w'
    go_simp
    try with_reducible rfl
  try simp only [Act.put, List.setIfInBounds_toArray, List.set_cons_zero, List.set_cons_succ]
  refine pickA (v := ?_) 20 (some 54) rfl rfl (by kernel_rfl) (by kernel_rfl) (by kernel_rfl) (by decide) (fun _ _ _ h => h) (by rfl) ?_ (by assumption) ?_
  rotate_left
  · intro w'
    go_simp
    try with_reducible rfl
  try simp only [Act.put, List.setIfInBounds_toArray, List.set_cons_zero, List.set_cons_succ]
  refine pickA (v := ?_) 21 (some 55) rfl rfl (by kernel_rfl) (by kernel_rfl) (by kernel_rfl) (by decide) (fun _ _ _ h => h) (by rfl) ?_ (by assumption) ?_
  rotate_left
  · intro w'
    go_simp
    try with_reducible rfl
  try simp only [Act.put, List.setIfInBounds_toArray, List.set_cons_zero, List.set_cons_succ]
  refine pickA (v := ?_) 22 (some 56) rfl rfl (by kernel_rfl) (by kernel_rfl) (by kernel_rfl) (by decide) (fun _ _ _ h => h) (by rfl) ?_ (by assumption) ?_
  rotate_left
  · intro w'
    go_simp
    try with_reducible rfl
  try simp only [Act.put, List.setIfInBounds_toArray, List.set_cons_zero, List.set_cons_succ]
  refine pickL (v := .int .i64 0) 23 (some 57) rfl rfl (by kernel_rfl) (by kernel_rfl) (by kernel_rfl) (by decide) (by kernel_rfl) (by kernel_rfl) (fun _ _ _ h => h) (by rfl) ?_ (by assumption) ?_
  · intro w' hSw
    obtain ⟨q0, q1, q2⟩ := hSw
    have yy : w'.cell? ⟨P3, 21, none⟩ = some (.int .i64 0) := q2.cell 21
    go_simp
  try simp only [Act.put, List.setIfInBounds_toArray, List.set_cons_zero, List.set_cons_succ]
  refine pickA (v := ?_) 24 (some 58) rfl rfl (by kernel_rfl) (by kernel_rfl) (by kernel_rfl) (by decide) (fun _ _ _ h => h) (by rfl) ?_ (by assumption) ?_
  rotate_left
  · intro w'
    go_simp
    try with_reducible rfl
  try simp only [Act.put, List.setIfInBounds_toArray, List.set_cons_zero, List.set_cons_succ]
  refine pickA (v := ?_) 25 (some 59) rfl rfl (by kernel_rfl) (by kernel_rfl) (by kernel_rfl) (by decide) (fun _ _ _ h => h) (by rfl) ?_ (by assumption) ?_
  rotate_left
  · intro w'
    go_simp
    try with_reducible rfl
  try simp only [Act.put, List.setIfInBounds_toArray, List.set_cons_zero, List.set_cons_succ]
  refine pickA (v := ?_) 26 (some 60) rfl rfl (by kernel_rfl) (by kernel_rfl) (by kernel_rfl) (by decide) (fun _ _ _ h => h) (by rfl) ?_ (by assumption) ?_
  rotate_left
  · intro w'
    go_simp
    try with_reducible rfl
  try simp only [Act.put, List.setIfInBounds_toArray, List.set_cons_zero, List.set_cons_succ]
  refine pickA (v := ?_) 27 (some 61) rfl rfl (by kernel_rfl) (by kernel_rfl) (by kernel_rfl) (by decide) (fun _ _ _ h => h) (by rfl) ?_ (by assumption) ?_
  rotate_left
  · intro w'
    go_simp
    try with_reducible rfl
  try simp only [Act.put, List.setIfInBounds_toArray, List.set_cons_zero, List.set_cons_succ]
  refine pickA (v := ?_) 28 (some 62) rfl rfl (by kernel_rfl) (by kernel_rfl) (by kernel_rfl) (by decide) (fun _ _ _ h => h) (by rfl) ?_ (by assumption) ?_
  rotate_left
  · intro w'
    go_simp
    try with_reducible rfl
  try simp only [Act.put, List.setIfInBounds_toArray, List.set_cons_zero, List.set_cons_succ]
  refine pickL (v := .agg #[.int .i64 2, .int .i64 2, .int .u64 5, .int .i64 0, .int .u64 0]) 29 (some 63) rfl rfl (by kernel_rfl) (by kernel_rfl) (by kernel_rfl) (by decide) (by kernel_rfl) (by kernel_rfl) (fun _ _ _ h => h) (by rfl) ?_ (by assumption) ?_
  · intro w' hSw
    obtain ⟨q0, q1, q2⟩ := hSw
    exact exec_load rfl rfl (ld_sref (cs := _) q2 25 ⟨2, 2, 5, 0, 0⟩ rfl)
  try simp only [Act.put, List.setIfInBounds_toArray, List.set_cons_zero, List.set_cons_succ]
  refine oneL (i := 30) (by kernel_rfl) rfl (fun K hK => ?_)
  go_simp
  refine (lat_any 2 5 wb).mono ?_
  rintro e wc ⟨rfl, hb⟩
  replace Q1 := hide (Q1.out.below hb)
  replace Q2 := hide (Q2.out.below hb)
  replace Q3 := hide (Q3.out.below hb)
  replace B := hide (B.out.trans (hb.mono B.out.size))
  clear hb
  refine hK.out _ _ ?_ ?_
  · exact ⟨Q1.out, Q2.out, Q3.out⟩
  clear hK K
  try simp only [Act.put, List.setIfInBounds_toArray, List.set_cons_zero, List.set_cons_succ]
  clear hHeld
  have hHeld : (fun w' => IsB w' P1 #[.int .i64 1, .int .i64 0, .int .i64 1, .int .u64 0, .int .i64 0, .int .u64 0, .int .i64 1, .int .i64 0, .int .u64 0, .int .i64 0, .int .i64 0, .int .u64 0, .int .i64 0, .int .u64 0, .int .i64 0, .int .i64 0, .int .u64 0, .int .i64 0, .int .u64 0, .int .i64 0, .int .i64 0, .int .i64 0, .int .u64 0, .slice none 0 0, .slice none 0 0, .int .i64 0, .int .i64 0, .int .u64 0, .int .i64 0, .int .u64 0, .int .i64 0, .int .i64 0, .int .u64 0, .int .i64 0, .int .u64 0, .bool false] 57 ∧ IsB w' P2 #[.int .i64 1, .int .i64 2, .int .i64 2, .int .u64 5, .int .i64 0, .int .u64 0, .int .i64 1, .int .i64 0, .int .u64 0, .int .i64 0, .int .i64 0, .int .u64 0, .int .i64 0, .int .u64 0, .int .i64 0, .int .i64 0, .int .u64 0, .int .i64 0, .int .u64 0, .int .i64 0, .int .i64 0, .int .i64 0, .int .u64 0, .slice none 0 0, .slice none 0 0, .int .i64 0, .int .i64 0, .int .u64 0, .int .i64 0, .int .u64 0, .int .i64 0, .int .i64 0, .int .u64 0, .int .i64 0, .int .u64 0, .bool false] 57 ∧ IsB w' P3 #[.int .i64 3, .int .i64 0, .int .i64 0, .int .u64 0, .int .i64 0, .int .u64 0, .int .i64 0, .int .i64 0, .int .u64 0, .int .i64 0, .int .i64 0, .int .u64 0, .int .i64 0, .int .u64 0, .int .i64 0, .int .i64 0, .int .u64 0, .int .i64 0, .int .u64 0, .int .i64 0, .int .i64 0, .int .i64 0, .int .u64 0, .slice none 0 0, .slice none 0 0, .int .i64 2, .int .i64 2, .int .u64 5, .int .i64 0, .int .u64 0, .int .i64 3, .int .i64 2, .int .u64 9, .int .i64 0, .int .u64 0, .bool false] 57) wc := ⟨Q1.out, Q2.out, Q3.out⟩
  refine pickA (v := .bool true) 31 (some 65) rfl rfl (by kernel_rfl) (by kernel_rfl) (by kernel_rfl) (by decide) (fun _ _ _ h => h) (by rfl) ?_ (by assumption) ?_
  · intro w'
    exact exec_bin rguard rfl rfl rfl (eqr 2 2 5 0 0 2 2 5 0 0 _)
  try simp only [Act.put, List.setIfInBounds_toArray, List.set_cons_zero, List.set_cons_succ]
  refine pickA (v := ?_) 32 (some 66) rfl rfl (by kernel_rfl) (by kernel_rfl) (by kernel_rfl) (by decide) (fun _ _ _ h => h) (by rfl) ?_ (by assumption) ?_
  rotate_left
  · intro w'
    go_simp
    try with_reducible rfl
  try simp only [Act.put, List.setIfInBounds_toArray, List.set_cons_zero, List.set_cons_succ]
  refine pickA (v := ?_) 33 (some 67) rfl rfl (by kernel_rfl) (by kernel_rfl) (by kernel_rfl) (by decide) (fun _ _ _ h => h) (by rfl) ?_ (by assumption) ?_
  rotate_left
  · intro w'
    go_simp
    try with_reducible rfl
  try simp only [Act.put, List.setIfInBounds_toArray, List.set_cons_zero, List.set_cons_succ]
  refine pickA (v := ?_) 34 (some 68) rfl rfl (by kernel_rfl) (by kernel_rfl) (by kernel_rfl) (by decide) (fun _ _ _ h => h) (by rfl) ?_ (by assumption) ?_
  rotate_left
  · intro w'
    go_simp
    try with_reducible rfl
  try simp only [Act.put, List.setIfInBounds_toArray, List.set_cons_zero, List.set_cons_succ]
  refine pickA (v := ?_) 35 (some 69) rfl rfl (by kernel_rfl) (by kernel_rfl) (by kernel_rfl) (by decide) (fun _ _ _ h => h) (by rfl) ?_ (by assumption) ?_
  rotate_left
  · intro w'
    go_simp
    try with_reducible rfl
  try simp only [Act.put, List.setIfInBounds_toArray, List.set_cons_zero, List.set_cons_succ]
  refine pickL (v := .agg #[.int .i64 3, .int .i64 2, .int .u64 9, .int .i64 0, .int .u64 0]) 36 (some 70) rfl rfl (by kernel_rfl) (by kernel_rfl) (by kernel_rfl) (by decide) (by kernel_rfl) (by kernel_rfl) (fun _ _ _ h => h) (by rfl) ?_ (by assumption) ?_
  · intro w' hSw
    obtain ⟨q0, q1, q2⟩ := hSw
    exact exec_load rfl rfl (ld_sref (cs := _) q2 30 ⟨3, 2, 9, 0, 0⟩ rfl)
  try simp only [Act.put, List.setIfInBounds_toArray, List.set_cons_zero, List.set_cons_succ]
  refine oneL (i := 37) (by kernel_rfl) rfl (fun K hK => ?_)
  go_simp
  refine (lat_any 3 9 wc).mono ?_
  rintro e wd ⟨rfl, hb⟩
  replace Q1 := hide (Q1.out.below hb)
  replace Q2 := hide (Q2.out.below hb)
  replace Q3 := hide (Q3.out.below hb)
  replace B := hide (B.out.trans (hb.mono B.out.size))
  clear hb
  refine hK.out _ _ ?_ ?_
  · exact ⟨Q1.out, Q2.out, Q3.out⟩
  clear hK K
  try simp only [Act.put, List.setIfInBounds_toArray, List.set_cons_zero, List.set_cons_succ]
  clear hHeld
  have hHeld : (fun w' => IsB w' P1 #[.int .i64 1, .int .i64 0, .int .i64 1, .int .u64 0, .int .i64 0, .int .u64 0, .int .i64 1, .int .i64 0, .int .u64 0, .int .i64 0, .int .i64 0, .int .u64 0, .int .i64 0, .int .u64 0, .int .i64 0, .int .i64 0, .int .u64 0, .int .i64 0, .int .u64 0, .int .i64 0, .int .i64 0, .int .i64 0, .int .u64 0, .slice none 0 0, .slice none 0 0, .int .i64 0, .int .i64 0, .int .u64 0, .int .i64 0, .int .u64 0, .int .i64 0, .int .i64 0, .int .u64 0, .int .i64 0, .int .u64 0, .bool false] 57 ∧ IsB w' P2 #[.int .i64 1, .int .i64 2, .int .i64 2, .int .u64 5, .int .i64 0, .int .u64 0, .int .i64 1, .int .i64 0, .int .u64 0, .int .i64 0, .int .i64 0, .int .u64 0, .int .i64 0, .int .u64 0, .int .i64 0, .int .i64 0, .int .u64 0, .int .i64 0, .int .u64 0, .int .i64 0, .int .i64 0, .int .i64 0, .int .u64 0, .slice none 0 0, .slice none 0 0, .int .i64 0, .int .i64 0, .int .u64 0, .int .i64 0, .int .u64 0, .int .i64 0, .int .i64 0, .int .u64 0, .int .i64 0, .int .u64 0, .bool false] 57 ∧ IsB w' P3 #[.int .i64 3, .int .i64 0, .int .i64 0, .int .u64 0, .int .i64 0, .int .u64 0, .int .i64 0, .int .i64 0, .int .u64 0, .int .i64 0, .int .i64 0, .int .u64 0, .int .i64 0, .int .u64 0, .int .i64 0, .int .i64 0, .int .u64 0, .int .i64 0, .int .u64 0, .int .i64 0, .int .i64 0, .int .i64 0, .int .u64 0, .slice none 0 0, .slice none 0 0, .int .i64 2, .int .i64 2, .int .u64 5, .int .i64 0, .int .u64 0, .int .i64 3, .int .i64 2, .int .u64 9, .int .i64 0, .int .u64 0, .bool false] 57) wd := ⟨Q1.out, Q2.out, Q3.out⟩
  refine pickA (v := .bool true) 38 (some 72) rfl rfl (by kernel_rfl) (by kernel_rfl) (by kernel_rfl) (by decide) (fun _ _ _ h => h) (by rfl) ?_ (by assumption) ?_
  · intro w'
    exact exec_bin rguard rfl rfl rfl (eqr 3 2 9 0 0 3 2 9 0 0 _)
  try simp only [Act.put, List.setIfInBounds_toArray, List.set_cons_zero, List.set_cons_succ]
  refine pickA (v := ?_) 39 (some 73) rfl rfl (by kernel_rfl) (by kernel_rfl) (by kernel_rfl) (by decide) (fun _ _ _ h => h) (by rfl) ?_ (by assumption) ?_
  rotate_left
  · intro w'
    go_simp
    try with_reducible rfl
  try simp only [Act.put, List.setIfInBounds_toArray, List.set_cons_zero, List.set_cons_succ]
  refine pickA (v := ?_) 40 (some 74) rfl rfl (by kernel_rfl) (by kernel_rfl) (by kernel_rfl) (by decide) (fun _ _ _ h => h) (by rfl) ?_ (by assumption) ?_
  rotate_left
  · intro w'
    go_simp
    try with_reducible rfl
  try simp only [Act.put, List.setIfInBounds_toArray, List.set_cons_zero, List.set_cons_succ]
  refine pickA (v := ?_) 41 (some 75) rfl rfl (by kernel_rfl) (by kernel_rfl) (by kernel_rfl) (by decide) (fun _ _ _ h => h) (by rfl) ?_ (by assumption) ?_
  rotate_left
  · intro w'
    go_simp
    try with_reducible rfl
  try simp only [Act.put, List.setIfInBounds_toArray, List.set_cons_zero, List.set_cons_succ]
  refine pickA (v := ?_) 42 (some 76) rfl rfl (by kernel_rfl) (by kernel_rfl) (by kernel_rfl) (by decide) (fun _ _ _ h => h) (by rfl) ?_ (by assumption) ?_
  rotate_left
  · intro w'
    go_simp
    try with_reducible rfl
  try simp only [Act.put, List.setIfInBounds_toArray, List.set_cons_zero, List.set_cons_succ]
  refine pickL (v := .bool false) 43 (some 77) rfl rfl (by kernel_rfl) (by kernel_rfl) (by kernel_rfl) (by decide) (by kernel_rfl) (by kernel_rfl) (fun _ _ _ h => h) (by rfl) ?_ (by assumption) ?_
  · intro w' hSw
    obtain ⟨q0, q1, q2⟩ := hSw
    have yy : w'.cell? ⟨P3, 35, none⟩ = some (.bool false) := q2.cell 35
    go_simp
  try simp only [Act.put, List.setIfInBounds_toArray, List.set_cons_zero, List.set_cons_succ]
  refine pickA (v := ?_) 44 (some 78) rfl rfl (by kernel_rfl) (by kernel_rfl) (by kernel_rfl) (by decide) (fun _ _ _ h => h) (by rfl) ?_ (by assumption) ?_
  rotate_left
  · intro w'
    go_simp
    try with_reducible rfl
  try simp only [Act.put, List.setIfInBounds_toArray, List.set_cons_zero, List.set_cons_succ]
  refine pickA (v := ?_) 45 (some 79) rfl rfl (by kernel_rfl) (by kernel_rfl) (by kernel_rfl) (by decide) (fun _ _ _ h => h) (by rfl) ?_ (by assumption) ?_
  rotate_left
  · intro w'
    go_simp
    try with_reducible rfl
  try simp only [Act.put, List.setIfInBounds_toArray, List.set_cons_zero, List.set_cons_succ]
  refine pickA (v := ?_) 46 (some 0) rfl rfl (by kernel_rfl) (by kernel_rfl) (by kernel_rfl) (by decide) (fun _ _ _ h => h) (by rfl) ?_ (by assumption) ?_
  rotate_left
  · intro w'
    go_simp
    try with_reducible rfl
  try simp only [Act.put, List.setIfInBounds_toArray, List.set_cons_zero]
  refine doneL (by kernel_rfl) ?_ _
  clear hHeld
  go_wp2
  go_ret
  exact ⟨rfl, B.out⟩

end Go.Proofs.YtdkadggcaobaaaaDoor
