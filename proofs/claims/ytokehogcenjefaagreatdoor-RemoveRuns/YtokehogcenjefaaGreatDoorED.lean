/- What it wants: asks, asksOwned, Next. -/
import Derived.Test.YtokehogcenjefaaGreatDoorEA
import Derived.Deep.WholeRow
namespace Go.Proofs.YtokehogcenjefaaGreatDoor
open Go.RowKit Go.Maps Go.ChangeMaps

/-- An ask's cells. -/
def akL (q x y : Int) (r1 r2 : Rf) (oa oo : Int) : List Value := [.int .i64 q, .int .i64 x, .int .u64 y, .int .i64 r1.id, .int .i64 r1.rk, .int .u64 r1.kn, .int .i64 r1.ln, .int .u64 r1.bt, .int .i64 r2.id, .int .i64 r2.rk, .int .u64 r2.kn, .int .i64 r2.ln, .int .u64 r2.bt, .int .i64 oa, .int .i64 oo]
/-- A step's cells. -/
def stL (k : Int) (r : Rf) (q x y : Int) (r1 r2 : Rf) (oa oo e : Int) (l r3 : Rf) : List Value := [.int .i64 k, .int .i64 r.id, .int .i64 r.rk, .int .u64 r.kn, .int .i64 r.ln, .int .u64 r.bt, .int .i64 q, .int .i64 x, .int .u64 y, .int .i64 r1.id, .int .i64 r1.rk, .int .u64 r1.kn, .int .i64 r1.ln, .int .u64 r1.bt, .int .i64 r2.id, .int .i64 r2.rk, .int .u64 r2.kn, .int .i64 r2.ln, .int .u64 r2.bt, .int .i64 oa, .int .i64 oo, .int .i64 e, .int .u64 0, .slice none 0 0, .slice none 0 0, .int .i64 l.id, .int .i64 l.rk, .int .u64 l.kn, .int .i64 l.ln, .int .u64 l.bt, .int .i64 r3.id, .int .i64 r3.rk, .int .u64 r3.kn, .int .i64 r3.ln, .int .u64 r3.bt, .bool false]
theorem ld_ask {w : World} {b : Nat} {q x y : Int} {r1 r2 : Rf} {oa oo : Int} (I : IsB w b (akL q x y r1 r2 oa oo).toArray 47) : (Instr.loadAt 47 (.pointer (some ⟨b, 0, none⟩))).run Tryz.prog w = .ok (.agg (akL q x y r1 r2 oa oo).toArray) w := load_mid I 0 _ (akL q x y r1 r2 oa oo) _ rfl Tryz.underlying47 rfl (by kernel_rfl)
theorem st_askw {w : World} {b : Nat} {q x y : Int} {r1 r2 : Rf} {oa oo : Int} (I : IsB w b (akL q x y r1 r2 oa oo).toArray 47) (x2 y2 : Int) : ∃ w', (Instr.storeAt 27 (.pointer (some ⟨b, 1, none⟩)) (.agg #[.int .i64 (x2), .int .u64 (y2)])).run Tryz.prog w = .ok () w' ∧ IsB w' b (akL q x2 y2 r1 r2 oa oo).toArray 47 ∧ Kp [b] w w' :=
 store_mid I 1 _ [.int .i64 x2, .int .u64 y2] (by simp [akL]) (by kernel_rfl) (by simp [Value.oneCell'])
theorem st_asko {w : World} {b : Nat} {q x y : Int} {r1 r2 : Rf} {oa oo : Int} (I : IsB w b (akL q x y r1 r2 oa oo).toArray 47) (a2 o2 : Int) : ∃ w', (Instr.storeAt 31 (.pointer (some ⟨b, 13, none⟩)) (.agg #[.int .i64 a2, .int .i64 o2])).run Tryz.prog w = .ok () w' ∧ IsB w' b (akL q x y r1 r2 a2 o2).toArray 47 ∧ Kp [b] w w' :=
 store_mid I 13 _ [.int .i64 a2, .int .i64 o2] (by simp [akL]) (by kernel_rfl) (by simp [Value.oneCell'])
theorem ust_step {w : World} {b : Nat} {cs : List Value} (I : IsB w b cs.toArray 53) (hl : cs.length = 36) (k : Int) (r : Rf) (q x y : Int) (r1 r2 : Rf) (oa oo e : Int) (l r3 : Rf) : ∃ w', (Instr.storeAt 53 (.pointer (some ⟨b, 0, none⟩)) (.agg (stL k r q x y r1 r2 oa oo e l r3).toArray)).run Tryz.prog w = .ok () w' ∧ IsB w' b (stL k r q x y r1 r2 oa oo e l r3).toArray 53 ∧ Kp [b] w w' := by
 obtain ⟨w', h1, h2, h3⟩ := store_mid I 0 53 (stL k r q x y r1 r2 oa oo e l r3) (by simp [stL, hl]) (by kernel_rfl) (by simp [stL, Value.oneCell'])
 refine ⟨w', h1, ?_, h3⟩
 have e1 : cs.drop (0 + (stL k r q x y r1 r2 oa oo e l r3).length) = [] := List.drop_eq_nil_of_le (by simp [stL, hl])
 rw [e1] at h2
 simpa using h2



set_option maxHeartbeats 2000000 in
set_option maxRecDepth 100000 in
theorem asks_any (b : Nat) (S : Us) (to : Rf) (q x y : Int) (r1 r2 : Rf) (oa oo : Int) (w : World) (X : UsAt w b S) : Calls Tryz.prog 167 #[.pointer (some ⟨b, 0, none⟩), .agg to.cells, .agg (akL q x y r1 r2 oa oo).toArray] w fun e' w' => e' = .returned (.agg (stL 1 to q S.wl S.wb r1 r2 oa oo 0 zr zr).toArray) ∧ Below w.heap.size w w' := by
 have b1 := (Below.refl w.heap.size w).alloc (Nat.le_refl _) (.cells to.cells 29)
 have b2 := b1.alloc (by simp) (.cells (akL q x y r1 r2 oa oo).toArray 47)
 have b3 := b2.alloc (by simp; omega) (.cells #[.int .i64 0, .int .i64 0, .int .i64 0, .int .u64 0, .int .i64 0, .int .u64 0, .int .i64 0, .int .i64 0, .int .u64 0, .int .i64 0, .int .i64 0, .int .u64 0, .int .i64 0, .int .u64 0, .int .i64 0, .int .i64 0, .int .u64 0, .int .i64 0, .int .u64 0, .int .i64 0, .int .i64 0, .int .i64 0, .int .u64 0, .slice none 0 0, .slice none 0 0, .int .i64 0, .int .i64 0, .int .u64 0, .int .i64 0, .int .u64 0, .int .i64 0, .int .i64 0, .int .u64 0, .int .i64 0, .int .u64 0, .bool false] 53)
 have RT0 := ((IsB.new w to.cells 29).below ((Below.refl _ _).alloc (Nat.le_refl _) (.cells (akL q x y r1 r2 oa oo).toArray 47))).below ((Below.refl _ _).alloc (Nat.le_refl _) (.cells #[.int .i64 0, .int .i64 0, .int .i64 0, .int .u64 0, .int .i64 0, .int .u64 0, .int .i64 0, .int .i64 0, .int .u64 0, .int .i64 0, .int .i64 0, .int .u64 0, .int .i64 0, .int .u64 0, .int .i64 0, .int .i64 0, .int .u64 0, .int .i64 0, .int .u64 0, .int .i64 0, .int .i64 0, .int .i64 0, .int .u64 0, .slice none 0 0, .slice none 0 0, .int .i64 0, .int .i64 0, .int .u64 0, .int .i64 0, .int .u64 0, .int .i64 0, .int .i64 0, .int .u64 0, .int .i64 0, .int .u64 0, .bool false] 53))
 have AK0 := (IsB.new (w.alloc (.cells to.cells 29)) (akL q x y r1 r2 oa oo).toArray 47).below ((Below.refl _ _).alloc (Nat.le_refl _) (.cells #[.int .i64 0, .int .i64 0, .int .i64 0, .int .u64 0, .int .i64 0, .int .u64 0, .int .i64 0, .int .i64 0, .int .u64 0, .int .i64 0, .int .i64 0, .int .u64 0, .int .i64 0, .int .u64 0, .int .i64 0, .int .i64 0, .int .u64 0, .int .i64 0, .int .u64 0, .int .i64 0, .int .i64 0, .int .i64 0, .int .u64 0, .slice none 0 0, .slice none 0 0, .int .i64 0, .int .i64 0, .int .u64 0, .int .i64 0, .int .u64 0, .int .i64 0, .int .i64 0, .int .u64 0, .int .i64 0, .int .u64 0, .bool false] 53))
 have PB0 : IsB (((w.alloc (.cells to.cells 29)).alloc (.cells (akL q x y r1 r2 oa oo).toArray 47)).alloc (.cells #[.int .i64 0, .int .i64 0, .int .i64 0, .int .u64 0, .int .i64 0, .int .u64 0, .int .i64 0, .int .i64 0, .int .u64 0, .int .i64 0, .int .i64 0, .int .u64 0, .int .i64 0, .int .u64 0, .int .i64 0, .int .i64 0, .int .u64 0, .int .i64 0, .int .u64 0, .int .i64 0, .int .i64 0, .int .i64 0, .int .u64 0, .slice none 0 0, .slice none 0 0, .int .i64 0, .int .i64 0, .int .u64 0, .int .i64 0, .int .u64 0, .int .i64 0, .int .i64 0, .int .u64 0, .int .i64 0, .int .u64 0, .bool false] 53)) ((w.alloc (.cells to.cells 29)).alloc (.cells (akL q x y r1 r2 oa oo).toArray 47)).heap.size (stL 0 zr 0 0 0 zr zr 0 0 0 zr zr).toArray 53 := IsB.new ((w.alloc (.cells to.cells 29)).alloc (.cells (akL q x y r1 r2 oa oo).toArray 47)) #[.int .i64 0, .int .i64 0, .int .i64 0, .int .u64 0, .int .i64 0, .int .u64 0, .int .i64 0, .int .i64 0, .int .u64 0, .int .i64 0, .int .i64 0, .int .u64 0, .int .i64 0, .int .u64 0, .int .i64 0, .int .i64 0, .int .u64 0, .int .i64 0, .int .u64 0, .int .i64 0, .int .i64 0, .int .i64 0, .int .u64 0, .slice none 0 0, .slice none 0 0, .int .i64 0, .int .i64 0, .int .u64 0, .int .i64 0, .int .u64 0, .int .i64 0, .int .i64 0, .int .u64 0, .int .i64 0, .int .u64 0, .bool false] 53
 rw [World.size_alloc] at AK0
 rw [World.size_alloc, World.size_alloc] at PB0
 have I := X.below b3
 have hlt := X.lt
 have LW := hide (ld_w I)
 obtain ⟨w4, hs4, A4, k4⟩ := st_askw AK0 S.wl S.wb
 have HS4 := hide hs4
 have B4 : Hid (Below w.heap.size w w4) := b3.trans (k4.to_below (by have := b3.size; omega) (by simp))
 have RT4 := RT0.kp k4 (by simp)
 have PB4 := PB0.kp k4 (by simp)
 have LR : Hid ((Instr.loadAt 29 (.pointer (some ⟨w.heap.size, 0, none⟩))).run Tryz.prog w4 = .ok (.agg #[.int .i64 to.id, .int .i64 to.rk, .int .u64 to.kn, .int .i64 to.ln, .int .u64 to.bt]) w4) := load_ref RT4 rfl
 have LA : Hid ((Instr.loadAt 47 (.pointer (some ⟨w.heap.size + 1, 0, none⟩))).run Tryz.prog w4 = .ok (.agg #[.int .i64 q, .int .i64 S.wl, .int .u64 S.wb, .int .i64 r1.id, .int .i64 r1.rk, .int .u64 r1.kn, .int .i64 r1.ln, .int .u64 r1.bt, .int .i64 r2.id, .int .i64 r2.rk, .int .u64 r2.kn, .int .i64 r2.ln, .int .u64 r2.bt, .int .i64 oa, .int .i64 oo]) w4) := ld_ask A4
 obtain ⟨w5, hs5, P5, k5⟩ := ust_step PB4 rfl 1 to q S.wl S.wb r1 r2 oa oo 0 zr zr
 have HS5 := hide hs5
 have P6 := hide P5
 have B5 : Hid (Below w.heap.size w w5) := B4.out.trans (k5.to_below (by have := B4.out.size; omega) (by simp; omega))
 clear hs4 A4 k4 RT4 PB4 hs5 P5 k5 B4 I X b1 b2 b3 RT0 AK0 PB0 hlt
 go_enter Tryz.func167, Tryz.ntmps167
 go_wp2_with (first | (focus ((with_reducible refine wpList_load_w ?_ 27 (.tmp 10) ?_ ?_ LW.out ?_); rotate_left; rfl; rfl; rotate_left; rfl)) | (focus ((with_reducible refine wpList_store_w ?_ 27 (.tmp 12) (.tmp 11) ?_ ?_ ?_ HS4.out ?_); rotate_left; rfl; rfl; rfl; rotate_left; rfl)) | (focus ((with_reducible refine wpList_load_w ?_ 29 (.tmp 4) ?_ ?_ LR.out ?_); rotate_left; rfl; rfl; rotate_left; rfl)) | (focus ((with_reducible refine wpList_load_w ?_ 47 (.tmp 5) ?_ ?_ LA.out ?_); rotate_left; rfl; rfl; rotate_left; rfl)) | (focus ((with_reducible refine wpList_store_w ?_ 53 (.tmp 6) (.tmp 15) ?_ ?_ ?_ HS5.out ?_); rotate_left; rfl; rfl; rfl; rotate_left; rfl)))
 try simp only [Act.put]
 try go_wp2
 refine ret_step (p := 6) (b := w.heap.size + 1 + 1) Tryz.results167 rfl rfl P6.out ?_
 exact ⟨rfl, B5.out⟩

set_option maxHeartbeats 2000000 in
set_option maxRecDepth 100000 in
theorem asksOwned_any (b : Nat) (S : Us) (to : Rf) (q x y : Int) (r1 r2 : Rf) (oa oo : Int) (w : World) (X : UsAt w b S) : Calls Tryz.prog 168 #[.pointer (some ⟨b, 0, none⟩), .agg to.cells, .agg (akL q x y r1 r2 oa oo).toArray] w fun e' w' => e' = .returned (.agg (stL 1 to q S.wl S.wb r1 r2 S.oa S.oo 0 zr zr).toArray) ∧ Below w.heap.size w w' := by
 have b1 := (Below.refl w.heap.size w).alloc (Nat.le_refl _) (.cells to.cells 29)
 have b2 := b1.alloc (by simp) (.cells (akL q x y r1 r2 oa oo).toArray 47)
 have b3 := b2.alloc (by simp; omega) (.cells #[.int .i64 0, .int .i64 0, .int .i64 0, .int .u64 0, .int .i64 0, .int .u64 0, .int .i64 0, .int .i64 0, .int .u64 0, .int .i64 0, .int .i64 0, .int .u64 0, .int .i64 0, .int .u64 0, .int .i64 0, .int .i64 0, .int .u64 0, .int .i64 0, .int .u64 0, .int .i64 0, .int .i64 0, .int .i64 0, .int .u64 0, .slice none 0 0, .slice none 0 0, .int .i64 0, .int .i64 0, .int .u64 0, .int .i64 0, .int .u64 0, .int .i64 0, .int .i64 0, .int .u64 0, .int .i64 0, .int .u64 0, .bool false] 53)
 have RT0 := ((IsB.new w to.cells 29).below ((Below.refl _ _).alloc (Nat.le_refl _) (.cells (akL q x y r1 r2 oa oo).toArray 47))).below ((Below.refl _ _).alloc (Nat.le_refl _) (.cells #[.int .i64 0, .int .i64 0, .int .i64 0, .int .u64 0, .int .i64 0, .int .u64 0, .int .i64 0, .int .i64 0, .int .u64 0, .int .i64 0, .int .i64 0, .int .u64 0, .int .i64 0, .int .u64 0, .int .i64 0, .int .i64 0, .int .u64 0, .int .i64 0, .int .u64 0, .int .i64 0, .int .i64 0, .int .i64 0, .int .u64 0, .slice none 0 0, .slice none 0 0, .int .i64 0, .int .i64 0, .int .u64 0, .int .i64 0, .int .u64 0, .int .i64 0, .int .i64 0, .int .u64 0, .int .i64 0, .int .u64 0, .bool false] 53))
 have AK0 := (IsB.new (w.alloc (.cells to.cells 29)) (akL q x y r1 r2 oa oo).toArray 47).below ((Below.refl _ _).alloc (Nat.le_refl _) (.cells #[.int .i64 0, .int .i64 0, .int .i64 0, .int .u64 0, .int .i64 0, .int .u64 0, .int .i64 0, .int .i64 0, .int .u64 0, .int .i64 0, .int .i64 0, .int .u64 0, .int .i64 0, .int .u64 0, .int .i64 0, .int .i64 0, .int .u64 0, .int .i64 0, .int .u64 0, .int .i64 0, .int .i64 0, .int .i64 0, .int .u64 0, .slice none 0 0, .slice none 0 0, .int .i64 0, .int .i64 0, .int .u64 0, .int .i64 0, .int .u64 0, .int .i64 0, .int .i64 0, .int .u64 0, .int .i64 0, .int .u64 0, .bool false] 53))
 have PB0 : IsB (((w.alloc (.cells to.cells 29)).alloc (.cells (akL q x y r1 r2 oa oo).toArray 47)).alloc (.cells #[.int .i64 0, .int .i64 0, .int .i64 0, .int .u64 0, .int .i64 0, .int .u64 0, .int .i64 0, .int .i64 0, .int .u64 0, .int .i64 0, .int .i64 0, .int .u64 0, .int .i64 0, .int .u64 0, .int .i64 0, .int .i64 0, .int .u64 0, .int .i64 0, .int .u64 0, .int .i64 0, .int .i64 0, .int .i64 0, .int .u64 0, .slice none 0 0, .slice none 0 0, .int .i64 0, .int .i64 0, .int .u64 0, .int .i64 0, .int .u64 0, .int .i64 0, .int .i64 0, .int .u64 0, .int .i64 0, .int .u64 0, .bool false] 53)) ((w.alloc (.cells to.cells 29)).alloc (.cells (akL q x y r1 r2 oa oo).toArray 47)).heap.size (stL 0 zr 0 0 0 zr zr 0 0 0 zr zr).toArray 53 := IsB.new ((w.alloc (.cells to.cells 29)).alloc (.cells (akL q x y r1 r2 oa oo).toArray 47)) #[.int .i64 0, .int .i64 0, .int .i64 0, .int .u64 0, .int .i64 0, .int .u64 0, .int .i64 0, .int .i64 0, .int .u64 0, .int .i64 0, .int .i64 0, .int .u64 0, .int .i64 0, .int .u64 0, .int .i64 0, .int .i64 0, .int .u64 0, .int .i64 0, .int .u64 0, .int .i64 0, .int .i64 0, .int .i64 0, .int .u64 0, .slice none 0 0, .slice none 0 0, .int .i64 0, .int .i64 0, .int .u64 0, .int .i64 0, .int .u64 0, .int .i64 0, .int .i64 0, .int .u64 0, .int .i64 0, .int .u64 0, .bool false] 53
 rw [World.size_alloc] at AK0
 rw [World.size_alloc, World.size_alloc] at PB0
 have I := X.below b3
 have hlt := X.lt
 have LW := hide (ld_owner I)
 obtain ⟨w4, hs4, A4, k4⟩ := st_asko AK0 S.oa S.oo
 have HS4 := hide hs4
 have B4 : Hid (Below w.heap.size w w4) := b3.trans (k4.to_below (by have := b3.size; omega) (by simp))
 have RT4 := RT0.kp k4 (by simp)
 have PB4 := PB0.kp k4 (by simp)
 have X4 : UsAt w4 b S := I.kp k4 (by simp; omega)
 have LR := hide (load_ref RT4 rfl)
 have LA := hide (ld_ask A4)
 have CT := hide (asks_any b S to q x y r1 r2 S.oa S.oo w4 X4)
 have P4 := hide PB4
 clear hs4 A4 k4 RT4 PB4 I X X4 b1 b2 b3 RT0 AK0 PB0 hlt
 go_enter Tryz.func168, Tryz.ntmps168
 go_wp2_with (first | (focus ((with_reducible refine wpList_load_w ?_ 31 (.tmp 10) ?_ ?_ LW.out ?_); rotate_left; rfl; rfl; rotate_left; rfl)) | (focus ((with_reducible refine wpList_store_w ?_ 31 (.tmp 12) (.tmp 11) ?_ ?_ ?_ HS4.out ?_); rotate_left; rfl; rfl; rfl; rotate_left; rfl)) | (focus ((with_reducible refine wpList_load_w ?_ 29 (.tmp 4) ?_ ?_ LR.out ?_); rotate_left; rfl; rfl; rotate_left; rfl)) | (focus ((with_reducible refine wpList_load_w ?_ 47 (.tmp 5) ?_ ?_ LA.out ?_); rotate_left; rfl; rfl; rotate_left; rfl)))
 refine CT.out.mono ?_
 rintro e' w5 ⟨rfl, hb⟩
 obtain ⟨w6, hs6, P6', k6⟩ := ust_step (P4.out.below hb) rfl 1 to q S.wl S.wb r1 r2 S.oa S.oo 0 zr zr
 have HS6 := hide hs6
 have P6 := hide P6'
 have B5 : Hid (Below w.heap.size w w6) := (B4.out.trans (hb.mono B4.out.size)).trans (k6.to_below (by have := B4.out.size; have := hb.size; omega) (by simp; omega))
 clear hs6 P6' k6 hb CT LR LA LW HS4 P4 B4
 go_wp2_with (first | (focus ((with_reducible refine wpList_store_w ?_ 53 (.tmp 6) (.tmp 16) ?_ ?_ ?_ HS6.out ?_); rotate_left; rfl; rfl; rfl; rotate_left; rfl)))
 try simp only [Act.put]
 try go_wp2
 refine ret_step (p := 6) (b := w.heap.size + 1 + 1) Tryz.results168 rfl rfl P6.out ?_
 exact ⟨rfl, B5.out⟩

/-- What it wants. -/
def Us.step (S : Us) : List Value :=
 if S.pl = 1 then stL 1 S.me 1 S.wl S.wb zr zr 0 0 0 zr zr
 else if S.pl = 2 then stL 1 S.lf 3 S.wl S.wb zr zr S.oa S.oo 0 zr zr
 else if S.pl = 3 then stL 1 S.me 3 S.wl S.wb zr zr S.oa S.oo 0 zr zr
 else if S.pl = 4 then stL 1 S.lf 5 S.wl S.wb S.rg zr S.oa S.oo 0 zr zr
 else if S.pl = 5 then stL 1 S.rg 6 S.wl S.wb S.lf zr 0 0 0 zr zr
 else if S.pl = 6 then stL 1 S.me 8 S.wl S.wb zr zr S.oa S.oo 0 zr zr
 else if S.pl = 7 then stL 1 S.me 4 S.wl S.wb zr zr S.oa S.oo 0 zr zr
 else if S.pl = 8 then stL 1 S.lf 4 S.wl S.wb zr zr S.oa S.oo 0 zr zr
 else if S.pl = 9 then stL 2 zr 0 0 0 zr zr 0 0 0 zr zr
 else stL 3 zr 0 0 0 zr zr 0 0 S.e zr zr

set_option maxHeartbeats 2000000 in
set_option maxRecDepth 100000 in
theorem next_1 (b : Nat) (S : Us) (hp : S.pl = 1) (w : World) (X : UsAt w b S) : Calls Tryz.prog 164 #[.pointer (some ⟨b, 0, none⟩)] w fun e' w' => e' = .returned (.agg (stL 1 S.me 1 S.wl S.wb zr zr 0 0 0 zr zr).toArray) ∧ Below w.heap.size w w' := by
 have mixed : Tryz.prog.follows .mixedOrders = true := by kernel_rfl
 have b1 := (Below.refl w.heap.size w).alloc (Nat.le_refl _) (.cells #[.int .i64 0, .int .i64 0, .int .i64 0, .int .u64 0, .int .i64 0, .int .u64 0, .int .i64 0, .int .i64 0, .int .u64 0, .int .i64 0, .int .i64 0, .int .u64 0, .int .i64 0, .int .u64 0, .int .i64 0, .int .i64 0, .int .u64 0, .int .i64 0, .int .u64 0, .int .i64 0, .int .i64 0, .int .i64 0, .int .u64 0, .slice none 0 0, .slice none 0 0, .int .i64 0, .int .i64 0, .int .u64 0, .int .i64 0, .int .u64 0, .int .i64 0, .int .i64 0, .int .u64 0, .int .i64 0, .int .u64 0, .bool false] 53)
 have PB0 : IsB (w.alloc (.cells #[.int .i64 0, .int .i64 0, .int .i64 0, .int .u64 0, .int .i64 0, .int .u64 0, .int .i64 0, .int .i64 0, .int .u64 0, .int .i64 0, .int .i64 0, .int .u64 0, .int .i64 0, .int .u64 0, .int .i64 0, .int .i64 0, .int .u64 0, .int .i64 0, .int .u64 0, .int .i64 0, .int .i64 0, .int .i64 0, .int .u64 0, .slice none 0 0, .slice none 0 0, .int .i64 0, .int .i64 0, .int .u64 0, .int .i64 0, .int .u64 0, .int .i64 0, .int .i64 0, .int .u64 0, .int .i64 0, .int .u64 0, .bool false] 53)) w.heap.size (stL 0 zr 0 0 0 zr zr 0 0 0 zr zr).toArray 53 := IsB.new w #[.int .i64 0, .int .i64 0, .int .i64 0, .int .u64 0, .int .i64 0, .int .u64 0, .int .i64 0, .int .i64 0, .int .u64 0, .int .i64 0, .int .i64 0, .int .u64 0, .int .i64 0, .int .u64 0, .int .i64 0, .int .i64 0, .int .u64 0, .int .i64 0, .int .u64 0, .int .i64 0, .int .i64 0, .int .i64 0, .int .u64 0, .slice none 0 0, .slice none 0 0, .int .i64 0, .int .i64 0, .int .u64 0, .int .i64 0, .int .u64 0, .int .i64 0, .int .i64 0, .int .u64 0, .int .i64 0, .int .u64 0, .bool false] 53
 have P := hide PB0
 clear PB0
 have pe := ptr_eq ⟨b, 0, none⟩ (w.alloc (.cells #[.int .i64 0, .int .i64 0, .int .i64 0, .int .u64 0, .int .i64 0, .int .u64 0, .int .i64 0, .int .i64 0, .int .u64 0, .int .i64 0, .int .i64 0, .int .u64 0, .int .i64 0, .int .u64 0, .int .i64 0, .int .i64 0, .int .u64 0, .int .i64 0, .int .u64 0, .int .i64 0, .int .i64 0, .int .i64 0, .int .u64 0, .slice none 0 0, .slice none 0 0, .int .i64 0, .int .i64 0, .int .u64 0, .int .i64 0, .int .u64 0, .int .i64 0, .int .i64 0, .int .u64 0, .int .i64 0, .int .u64 0, .bool false] 53))
 have XA := hide (X.below b1)
 have BA := hide b1
 have y9 : (w.alloc (.cells #[.int .i64 0, .int .i64 0, .int .i64 0, .int .u64 0, .int .i64 0, .int .u64 0, .int .i64 0, .int .i64 0, .int .u64 0, .int .i64 0, .int .i64 0, .int .u64 0, .int .i64 0, .int .u64 0, .int .i64 0, .int .i64 0, .int .u64 0, .int .i64 0, .int .u64 0, .int .i64 0, .int .i64 0, .int .i64 0, .int .u64 0, .slice none 0 0, .slice none 0 0, .int .i64 0, .int .i64 0, .int .u64 0, .int .i64 0, .int .u64 0, .int .i64 0, .int .i64 0, .int .u64 0, .int .i64 0, .int .u64 0, .bool false] 53)).cell? ⟨b, 9, none⟩ = some (.int .i64 S.pl) := cl_at XA.out
 rw [hp] at y9
 clear hp b1 X
 have LR := hide (ld_me XA.out)
 have CT := hide (asks_any b S S.me 1 0 0 zr zr 0 0 _ XA.out)
 clear XA
 go_enter Tryz.func164, Tryz.ntmps164
 go_wp2_with (first | (focus ((with_reducible refine wpList_load_w ?_ 29 (.tmp 16) ?_ ?_ LR.out ?_); rotate_left; rfl; rfl; rotate_left; rfl)))
 refine CT.out.mono ?_
 rintro e' w5 ⟨rfl, hb⟩
 obtain ⟨w6, hs6, P6', k6⟩ := ust_step (P.out.below hb) rfl 1 S.me 1 S.wl S.wb zr zr 0 0 0 zr zr
 have HS6 := hide hs6
 have P6 := hide P6'
 have B5 : Hid (Below w.heap.size w w6) := (BA.out.trans (hb.mono BA.out.size)).trans (k6.to_below (by have := BA.out.size; have := hb.size; omega) (by simp))
 clear hs6 P6' k6 hb P BA
 clear CT LR y9 pe
 go_wp2_with (first | (focus ((with_reducible refine wpList_store_w ?_ 53 (.tmp 2) (.tmp 19) ?_ ?_ ?_ HS6.out ?_); rotate_left; rfl; rfl; rfl; rotate_left; rfl)))
 try simp only [Act.put]
 try go_wp2
 refine ret_step (p := 2) (b := w.heap.size) Tryz.results164 rfl rfl P6.out ?_
 exact ⟨rfl, B5.out⟩

set_option maxHeartbeats 2000000 in
set_option maxRecDepth 100000 in
theorem next_2 (b : Nat) (S : Us) (hp : S.pl = 2) (w : World) (X : UsAt w b S) : Calls Tryz.prog 164 #[.pointer (some ⟨b, 0, none⟩)] w fun e' w' => e' = .returned (.agg (stL 1 S.lf 3 S.wl S.wb zr zr S.oa S.oo 0 zr zr).toArray) ∧ Below w.heap.size w w' := by
 have mixed : Tryz.prog.follows .mixedOrders = true := by kernel_rfl
 have b1 := (Below.refl w.heap.size w).alloc (Nat.le_refl _) (.cells #[.int .i64 0, .int .i64 0, .int .i64 0, .int .u64 0, .int .i64 0, .int .u64 0, .int .i64 0, .int .i64 0, .int .u64 0, .int .i64 0, .int .i64 0, .int .u64 0, .int .i64 0, .int .u64 0, .int .i64 0, .int .i64 0, .int .u64 0, .int .i64 0, .int .u64 0, .int .i64 0, .int .i64 0, .int .i64 0, .int .u64 0, .slice none 0 0, .slice none 0 0, .int .i64 0, .int .i64 0, .int .u64 0, .int .i64 0, .int .u64 0, .int .i64 0, .int .i64 0, .int .u64 0, .int .i64 0, .int .u64 0, .bool false] 53)
 have PB0 : IsB (w.alloc (.cells #[.int .i64 0, .int .i64 0, .int .i64 0, .int .u64 0, .int .i64 0, .int .u64 0, .int .i64 0, .int .i64 0, .int .u64 0, .int .i64 0, .int .i64 0, .int .u64 0, .int .i64 0, .int .u64 0, .int .i64 0, .int .i64 0, .int .u64 0, .int .i64 0, .int .u64 0, .int .i64 0, .int .i64 0, .int .i64 0, .int .u64 0, .slice none 0 0, .slice none 0 0, .int .i64 0, .int .i64 0, .int .u64 0, .int .i64 0, .int .u64 0, .int .i64 0, .int .i64 0, .int .u64 0, .int .i64 0, .int .u64 0, .bool false] 53)) w.heap.size (stL 0 zr 0 0 0 zr zr 0 0 0 zr zr).toArray 53 := IsB.new w #[.int .i64 0, .int .i64 0, .int .i64 0, .int .u64 0, .int .i64 0, .int .u64 0, .int .i64 0, .int .i64 0, .int .u64 0, .int .i64 0, .int .i64 0, .int .u64 0, .int .i64 0, .int .u64 0, .int .i64 0, .int .i64 0, .int .u64 0, .int .i64 0, .int .u64 0, .int .i64 0, .int .i64 0, .int .i64 0, .int .u64 0, .slice none 0 0, .slice none 0 0, .int .i64 0, .int .i64 0, .int .u64 0, .int .i64 0, .int .u64 0, .int .i64 0, .int .i64 0, .int .u64 0, .int .i64 0, .int .u64 0, .bool false] 53
 have P := hide PB0
 clear PB0
 have pe := ptr_eq ⟨b, 0, none⟩ (w.alloc (.cells #[.int .i64 0, .int .i64 0, .int .i64 0, .int .u64 0, .int .i64 0, .int .u64 0, .int .i64 0, .int .i64 0, .int .u64 0, .int .i64 0, .int .i64 0, .int .u64 0, .int .i64 0, .int .u64 0, .int .i64 0, .int .i64 0, .int .u64 0, .int .i64 0, .int .u64 0, .int .i64 0, .int .i64 0, .int .i64 0, .int .u64 0, .slice none 0 0, .slice none 0 0, .int .i64 0, .int .i64 0, .int .u64 0, .int .i64 0, .int .u64 0, .int .i64 0, .int .i64 0, .int .u64 0, .int .i64 0, .int .u64 0, .bool false] 53))
 have XA := hide (X.below b1)
 have BA := hide b1
 have y9 : (w.alloc (.cells #[.int .i64 0, .int .i64 0, .int .i64 0, .int .u64 0, .int .i64 0, .int .u64 0, .int .i64 0, .int .i64 0, .int .u64 0, .int .i64 0, .int .i64 0, .int .u64 0, .int .i64 0, .int .u64 0, .int .i64 0, .int .i64 0, .int .u64 0, .int .i64 0, .int .u64 0, .int .i64 0, .int .i64 0, .int .i64 0, .int .u64 0, .slice none 0 0, .slice none 0 0, .int .i64 0, .int .i64 0, .int .u64 0, .int .i64 0, .int .u64 0, .int .i64 0, .int .i64 0, .int .u64 0, .int .i64 0, .int .u64 0, .bool false] 53)).cell? ⟨b, 9, none⟩ = some (.int .i64 S.pl) := cl_at XA.out
 rw [hp] at y9
 clear hp b1 X
 have LR := hide (ld_left XA.out)
 have CT := hide (asksOwned_any b S S.lf 3 0 0 zr zr 0 0 _ XA.out)
 clear XA
 go_enter Tryz.func164, Tryz.ntmps164
 go_wp2_with (first | (focus ((with_reducible refine wpList_load_w ?_ 29 (.tmp 25) ?_ ?_ LR.out ?_); rotate_left; rfl; rfl; rotate_left; rfl)))
 refine CT.out.mono ?_
 rintro e' w5 ⟨rfl, hb⟩
 obtain ⟨w6, hs6, P6', k6⟩ := ust_step (P.out.below hb) rfl 1 S.lf 3 S.wl S.wb zr zr S.oa S.oo 0 zr zr
 have HS6 := hide hs6
 have P6 := hide P6'
 have B5 : Hid (Below w.heap.size w w6) := (BA.out.trans (hb.mono BA.out.size)).trans (k6.to_below (by have := BA.out.size; have := hb.size; omega) (by simp))
 clear hs6 P6' k6 hb P BA
 clear CT LR y9 pe
 go_wp2_with (first | (focus ((with_reducible refine wpList_store_w ?_ 53 (.tmp 2) (.tmp 28) ?_ ?_ ?_ HS6.out ?_); rotate_left; rfl; rfl; rfl; rotate_left; rfl)))
 try simp only [Act.put]
 try go_wp2
 refine ret_step (p := 2) (b := w.heap.size) Tryz.results164 rfl rfl P6.out ?_
 exact ⟨rfl, B5.out⟩

set_option maxHeartbeats 2000000 in
set_option maxRecDepth 100000 in
theorem next_3 (b : Nat) (S : Us) (hp : S.pl = 3) (w : World) (X : UsAt w b S) : Calls Tryz.prog 164 #[.pointer (some ⟨b, 0, none⟩)] w fun e' w' => e' = .returned (.agg (stL 1 S.me 3 S.wl S.wb zr zr S.oa S.oo 0 zr zr).toArray) ∧ Below w.heap.size w w' := by
 have mixed : Tryz.prog.follows .mixedOrders = true := by kernel_rfl
 have b1 := (Below.refl w.heap.size w).alloc (Nat.le_refl _) (.cells #[.int .i64 0, .int .i64 0, .int .i64 0, .int .u64 0, .int .i64 0, .int .u64 0, .int .i64 0, .int .i64 0, .int .u64 0, .int .i64 0, .int .i64 0, .int .u64 0, .int .i64 0, .int .u64 0, .int .i64 0, .int .i64 0, .int .u64 0, .int .i64 0, .int .u64 0, .int .i64 0, .int .i64 0, .int .i64 0, .int .u64 0, .slice none 0 0, .slice none 0 0, .int .i64 0, .int .i64 0, .int .u64 0, .int .i64 0, .int .u64 0, .int .i64 0, .int .i64 0, .int .u64 0, .int .i64 0, .int .u64 0, .bool false] 53)
 have PB0 : IsB (w.alloc (.cells #[.int .i64 0, .int .i64 0, .int .i64 0, .int .u64 0, .int .i64 0, .int .u64 0, .int .i64 0, .int .i64 0, .int .u64 0, .int .i64 0, .int .i64 0, .int .u64 0, .int .i64 0, .int .u64 0, .int .i64 0, .int .i64 0, .int .u64 0, .int .i64 0, .int .u64 0, .int .i64 0, .int .i64 0, .int .i64 0, .int .u64 0, .slice none 0 0, .slice none 0 0, .int .i64 0, .int .i64 0, .int .u64 0, .int .i64 0, .int .u64 0, .int .i64 0, .int .i64 0, .int .u64 0, .int .i64 0, .int .u64 0, .bool false] 53)) w.heap.size (stL 0 zr 0 0 0 zr zr 0 0 0 zr zr).toArray 53 := IsB.new w #[.int .i64 0, .int .i64 0, .int .i64 0, .int .u64 0, .int .i64 0, .int .u64 0, .int .i64 0, .int .i64 0, .int .u64 0, .int .i64 0, .int .i64 0, .int .u64 0, .int .i64 0, .int .u64 0, .int .i64 0, .int .i64 0, .int .u64 0, .int .i64 0, .int .u64 0, .int .i64 0, .int .i64 0, .int .i64 0, .int .u64 0, .slice none 0 0, .slice none 0 0, .int .i64 0, .int .i64 0, .int .u64 0, .int .i64 0, .int .u64 0, .int .i64 0, .int .i64 0, .int .u64 0, .int .i64 0, .int .u64 0, .bool false] 53
 have P := hide PB0
 clear PB0
 have pe := ptr_eq ⟨b, 0, none⟩ (w.alloc (.cells #[.int .i64 0, .int .i64 0, .int .i64 0, .int .u64 0, .int .i64 0, .int .u64 0, .int .i64 0, .int .i64 0, .int .u64 0, .int .i64 0, .int .i64 0, .int .u64 0, .int .i64 0, .int .u64 0, .int .i64 0, .int .i64 0, .int .u64 0, .int .i64 0, .int .u64 0, .int .i64 0, .int .i64 0, .int .i64 0, .int .u64 0, .slice none 0 0, .slice none 0 0, .int .i64 0, .int .i64 0, .int .u64 0, .int .i64 0, .int .u64 0, .int .i64 0, .int .i64 0, .int .u64 0, .int .i64 0, .int .u64 0, .bool false] 53))
 have XA := hide (X.below b1)
 have BA := hide b1
 have y9 : (w.alloc (.cells #[.int .i64 0, .int .i64 0, .int .i64 0, .int .u64 0, .int .i64 0, .int .u64 0, .int .i64 0, .int .i64 0, .int .u64 0, .int .i64 0, .int .i64 0, .int .u64 0, .int .i64 0, .int .u64 0, .int .i64 0, .int .i64 0, .int .u64 0, .int .i64 0, .int .u64 0, .int .i64 0, .int .i64 0, .int .i64 0, .int .u64 0, .slice none 0 0, .slice none 0 0, .int .i64 0, .int .i64 0, .int .u64 0, .int .i64 0, .int .u64 0, .int .i64 0, .int .i64 0, .int .u64 0, .int .i64 0, .int .u64 0, .bool false] 53)).cell? ⟨b, 9, none⟩ = some (.int .i64 S.pl) := cl_at XA.out
 rw [hp] at y9
 clear hp b1 X
 have LR := hide (ld_me XA.out)
 have CT := hide (asksOwned_any b S S.me 3 0 0 zr zr 0 0 _ XA.out)
 clear XA
 go_enter Tryz.func164, Tryz.ntmps164
 go_wp2_with (first | (focus ((with_reducible refine wpList_load_w ?_ 29 (.tmp 35) ?_ ?_ LR.out ?_); rotate_left; rfl; rfl; rotate_left; rfl)))
 refine CT.out.mono ?_
 rintro e' w5 ⟨rfl, hb⟩
 obtain ⟨w6, hs6, P6', k6⟩ := ust_step (P.out.below hb) rfl 1 S.me 3 S.wl S.wb zr zr S.oa S.oo 0 zr zr
 have HS6 := hide hs6
 have P6 := hide P6'
 have B5 : Hid (Below w.heap.size w w6) := (BA.out.trans (hb.mono BA.out.size)).trans (k6.to_below (by have := BA.out.size; have := hb.size; omega) (by simp))
 clear hs6 P6' k6 hb P BA
 clear CT LR y9 pe
 go_wp2_with (first | (focus ((with_reducible refine wpList_store_w ?_ 53 (.tmp 2) (.tmp 38) ?_ ?_ ?_ HS6.out ?_); rotate_left; rfl; rfl; rfl; rotate_left; rfl)))
 try simp only [Act.put]
 try go_wp2
 refine ret_step (p := 2) (b := w.heap.size) Tryz.results164 rfl rfl P6.out ?_
 exact ⟨rfl, B5.out⟩

set_option maxHeartbeats 2000000 in
set_option maxRecDepth 100000 in
theorem next_6 (b : Nat) (S : Us) (hp : S.pl = 6) (w : World) (X : UsAt w b S) : Calls Tryz.prog 164 #[.pointer (some ⟨b, 0, none⟩)] w fun e' w' => e' = .returned (.agg (stL 1 S.me 8 S.wl S.wb zr zr S.oa S.oo 0 zr zr).toArray) ∧ Below w.heap.size w w' := by
 have mixed : Tryz.prog.follows .mixedOrders = true := by kernel_rfl
 have b1 := (Below.refl w.heap.size w).alloc (Nat.le_refl _) (.cells #[.int .i64 0, .int .i64 0, .int .i64 0, .int .u64 0, .int .i64 0, .int .u64 0, .int .i64 0, .int .i64 0, .int .u64 0, .int .i64 0, .int .i64 0, .int .u64 0, .int .i64 0, .int .u64 0, .int .i64 0, .int .i64 0, .int .u64 0, .int .i64 0, .int .u64 0, .int .i64 0, .int .i64 0, .int .i64 0, .int .u64 0, .slice none 0 0, .slice none 0 0, .int .i64 0, .int .i64 0, .int .u64 0, .int .i64 0, .int .u64 0, .int .i64 0, .int .i64 0, .int .u64 0, .int .i64 0, .int .u64 0, .bool false] 53)
 have PB0 : IsB (w.alloc (.cells #[.int .i64 0, .int .i64 0, .int .i64 0, .int .u64 0, .int .i64 0, .int .u64 0, .int .i64 0, .int .i64 0, .int .u64 0, .int .i64 0, .int .i64 0, .int .u64 0, .int .i64 0, .int .u64 0, .int .i64 0, .int .i64 0, .int .u64 0, .int .i64 0, .int .u64 0, .int .i64 0, .int .i64 0, .int .i64 0, .int .u64 0, .slice none 0 0, .slice none 0 0, .int .i64 0, .int .i64 0, .int .u64 0, .int .i64 0, .int .u64 0, .int .i64 0, .int .i64 0, .int .u64 0, .int .i64 0, .int .u64 0, .bool false] 53)) w.heap.size (stL 0 zr 0 0 0 zr zr 0 0 0 zr zr).toArray 53 := IsB.new w #[.int .i64 0, .int .i64 0, .int .i64 0, .int .u64 0, .int .i64 0, .int .u64 0, .int .i64 0, .int .i64 0, .int .u64 0, .int .i64 0, .int .i64 0, .int .u64 0, .int .i64 0, .int .u64 0, .int .i64 0, .int .i64 0, .int .u64 0, .int .i64 0, .int .u64 0, .int .i64 0, .int .i64 0, .int .i64 0, .int .u64 0, .slice none 0 0, .slice none 0 0, .int .i64 0, .int .i64 0, .int .u64 0, .int .i64 0, .int .u64 0, .int .i64 0, .int .i64 0, .int .u64 0, .int .i64 0, .int .u64 0, .bool false] 53
 have P := hide PB0
 clear PB0
 have pe := ptr_eq ⟨b, 0, none⟩ (w.alloc (.cells #[.int .i64 0, .int .i64 0, .int .i64 0, .int .u64 0, .int .i64 0, .int .u64 0, .int .i64 0, .int .i64 0, .int .u64 0, .int .i64 0, .int .i64 0, .int .u64 0, .int .i64 0, .int .u64 0, .int .i64 0, .int .i64 0, .int .u64 0, .int .i64 0, .int .u64 0, .int .i64 0, .int .i64 0, .int .i64 0, .int .u64 0, .slice none 0 0, .slice none 0 0, .int .i64 0, .int .i64 0, .int .u64 0, .int .i64 0, .int .u64 0, .int .i64 0, .int .i64 0, .int .u64 0, .int .i64 0, .int .u64 0, .bool false] 53))
 have XA := hide (X.below b1)
 have BA := hide b1
 have y9 : (w.alloc (.cells #[.int .i64 0, .int .i64 0, .int .i64 0, .int .u64 0, .int .i64 0, .int .u64 0, .int .i64 0, .int .i64 0, .int .u64 0, .int .i64 0, .int .i64 0, .int .u64 0, .int .i64 0, .int .u64 0, .int .i64 0, .int .i64 0, .int .u64 0, .int .i64 0, .int .u64 0, .int .i64 0, .int .i64 0, .int .i64 0, .int .u64 0, .slice none 0 0, .slice none 0 0, .int .i64 0, .int .i64 0, .int .u64 0, .int .i64 0, .int .u64 0, .int .i64 0, .int .i64 0, .int .u64 0, .int .i64 0, .int .u64 0, .bool false] 53)).cell? ⟨b, 9, none⟩ = some (.int .i64 S.pl) := cl_at XA.out
 rw [hp] at y9
 clear hp b1 X
 have LR := hide (ld_me XA.out)
 have CT := hide (asksOwned_any b S S.me 8 0 0 zr zr 0 0 _ XA.out)
 clear XA
 go_enter Tryz.func164, Tryz.ntmps164
 go_wp2_with (first | (focus ((with_reducible refine wpList_load_w ?_ 29 (.tmp 71) ?_ ?_ LR.out ?_); rotate_left; rfl; rfl; rotate_left; rfl)))
 refine CT.out.mono ?_
 rintro e' w5 ⟨rfl, hb⟩
 obtain ⟨w6, hs6, P6', k6⟩ := ust_step (P.out.below hb) rfl 1 S.me 8 S.wl S.wb zr zr S.oa S.oo 0 zr zr
 have HS6 := hide hs6
 have P6 := hide P6'
 have B5 : Hid (Below w.heap.size w w6) := (BA.out.trans (hb.mono BA.out.size)).trans (k6.to_below (by have := BA.out.size; have := hb.size; omega) (by simp))
 clear hs6 P6' k6 hb P BA
 clear CT LR y9 pe
 go_wp2_with (first | (focus ((with_reducible refine wpList_store_w ?_ 53 (.tmp 2) (.tmp 74) ?_ ?_ ?_ HS6.out ?_); rotate_left; rfl; rfl; rfl; rotate_left; rfl)))
 try simp only [Act.put]
 try go_wp2
 refine ret_step (p := 2) (b := w.heap.size) Tryz.results164 rfl rfl P6.out ?_
 exact ⟨rfl, B5.out⟩

set_option maxHeartbeats 2000000 in
set_option maxRecDepth 100000 in
theorem next_7 (b : Nat) (S : Us) (hp : S.pl = 7) (w : World) (X : UsAt w b S) : Calls Tryz.prog 164 #[.pointer (some ⟨b, 0, none⟩)] w fun e' w' => e' = .returned (.agg (stL 1 S.me 4 S.wl S.wb zr zr S.oa S.oo 0 zr zr).toArray) ∧ Below w.heap.size w w' := by
 have mixed : Tryz.prog.follows .mixedOrders = true := by kernel_rfl
 have b1 := (Below.refl w.heap.size w).alloc (Nat.le_refl _) (.cells #[.int .i64 0, .int .i64 0, .int .i64 0, .int .u64 0, .int .i64 0, .int .u64 0, .int .i64 0, .int .i64 0, .int .u64 0, .int .i64 0, .int .i64 0, .int .u64 0, .int .i64 0, .int .u64 0, .int .i64 0, .int .i64 0, .int .u64 0, .int .i64 0, .int .u64 0, .int .i64 0, .int .i64 0, .int .i64 0, .int .u64 0, .slice none 0 0, .slice none 0 0, .int .i64 0, .int .i64 0, .int .u64 0, .int .i64 0, .int .u64 0, .int .i64 0, .int .i64 0, .int .u64 0, .int .i64 0, .int .u64 0, .bool false] 53)
 have PB0 : IsB (w.alloc (.cells #[.int .i64 0, .int .i64 0, .int .i64 0, .int .u64 0, .int .i64 0, .int .u64 0, .int .i64 0, .int .i64 0, .int .u64 0, .int .i64 0, .int .i64 0, .int .u64 0, .int .i64 0, .int .u64 0, .int .i64 0, .int .i64 0, .int .u64 0, .int .i64 0, .int .u64 0, .int .i64 0, .int .i64 0, .int .i64 0, .int .u64 0, .slice none 0 0, .slice none 0 0, .int .i64 0, .int .i64 0, .int .u64 0, .int .i64 0, .int .u64 0, .int .i64 0, .int .i64 0, .int .u64 0, .int .i64 0, .int .u64 0, .bool false] 53)) w.heap.size (stL 0 zr 0 0 0 zr zr 0 0 0 zr zr).toArray 53 := IsB.new w #[.int .i64 0, .int .i64 0, .int .i64 0, .int .u64 0, .int .i64 0, .int .u64 0, .int .i64 0, .int .i64 0, .int .u64 0, .int .i64 0, .int .i64 0, .int .u64 0, .int .i64 0, .int .u64 0, .int .i64 0, .int .i64 0, .int .u64 0, .int .i64 0, .int .u64 0, .int .i64 0, .int .i64 0, .int .i64 0, .int .u64 0, .slice none 0 0, .slice none 0 0, .int .i64 0, .int .i64 0, .int .u64 0, .int .i64 0, .int .u64 0, .int .i64 0, .int .i64 0, .int .u64 0, .int .i64 0, .int .u64 0, .bool false] 53
 have P := hide PB0
 clear PB0
 have pe := ptr_eq ⟨b, 0, none⟩ (w.alloc (.cells #[.int .i64 0, .int .i64 0, .int .i64 0, .int .u64 0, .int .i64 0, .int .u64 0, .int .i64 0, .int .i64 0, .int .u64 0, .int .i64 0, .int .i64 0, .int .u64 0, .int .i64 0, .int .u64 0, .int .i64 0, .int .i64 0, .int .u64 0, .int .i64 0, .int .u64 0, .int .i64 0, .int .i64 0, .int .i64 0, .int .u64 0, .slice none 0 0, .slice none 0 0, .int .i64 0, .int .i64 0, .int .u64 0, .int .i64 0, .int .u64 0, .int .i64 0, .int .i64 0, .int .u64 0, .int .i64 0, .int .u64 0, .bool false] 53))
 have XA := hide (X.below b1)
 have BA := hide b1
 have y9 : (w.alloc (.cells #[.int .i64 0, .int .i64 0, .int .i64 0, .int .u64 0, .int .i64 0, .int .u64 0, .int .i64 0, .int .i64 0, .int .u64 0, .int .i64 0, .int .i64 0, .int .u64 0, .int .i64 0, .int .u64 0, .int .i64 0, .int .i64 0, .int .u64 0, .int .i64 0, .int .u64 0, .int .i64 0, .int .i64 0, .int .i64 0, .int .u64 0, .slice none 0 0, .slice none 0 0, .int .i64 0, .int .i64 0, .int .u64 0, .int .i64 0, .int .u64 0, .int .i64 0, .int .i64 0, .int .u64 0, .int .i64 0, .int .u64 0, .bool false] 53)).cell? ⟨b, 9, none⟩ = some (.int .i64 S.pl) := cl_at XA.out
 rw [hp] at y9
 clear hp b1 X
 have LR := hide (ld_me XA.out)
 have CT := hide (asksOwned_any b S S.me 4 0 0 zr zr 0 0 _ XA.out)
 clear XA
 go_enter Tryz.func164, Tryz.ntmps164
 go_wp2_with (first | (focus ((with_reducible refine wpList_load_w ?_ 29 (.tmp 81) ?_ ?_ LR.out ?_); rotate_left; rfl; rfl; rotate_left; rfl)))
 refine CT.out.mono ?_
 rintro e' w5 ⟨rfl, hb⟩
 obtain ⟨w6, hs6, P6', k6⟩ := ust_step (P.out.below hb) rfl 1 S.me 4 S.wl S.wb zr zr S.oa S.oo 0 zr zr
 have HS6 := hide hs6
 have P6 := hide P6'
 have B5 : Hid (Below w.heap.size w w6) := (BA.out.trans (hb.mono BA.out.size)).trans (k6.to_below (by have := BA.out.size; have := hb.size; omega) (by simp))
 clear hs6 P6' k6 hb P BA
 clear CT LR y9 pe
 go_wp2_with (first | (focus ((with_reducible refine wpList_store_w ?_ 53 (.tmp 2) (.tmp 84) ?_ ?_ ?_ HS6.out ?_); rotate_left; rfl; rfl; rfl; rotate_left; rfl)))
 try simp only [Act.put]
 try go_wp2
 refine ret_step (p := 2) (b := w.heap.size) Tryz.results164 rfl rfl P6.out ?_
 exact ⟨rfl, B5.out⟩

set_option maxHeartbeats 2000000 in
set_option maxRecDepth 100000 in
theorem next_8 (b : Nat) (S : Us) (hp : S.pl = 8) (w : World) (X : UsAt w b S) : Calls Tryz.prog 164 #[.pointer (some ⟨b, 0, none⟩)] w fun e' w' => e' = .returned (.agg (stL 1 S.lf 4 S.wl S.wb zr zr S.oa S.oo 0 zr zr).toArray) ∧ Below w.heap.size w w' := by
 have mixed : Tryz.prog.follows .mixedOrders = true := by kernel_rfl
 have b1 := (Below.refl w.heap.size w).alloc (Nat.le_refl _) (.cells #[.int .i64 0, .int .i64 0, .int .i64 0, .int .u64 0, .int .i64 0, .int .u64 0, .int .i64 0, .int .i64 0, .int .u64 0, .int .i64 0, .int .i64 0, .int .u64 0, .int .i64 0, .int .u64 0, .int .i64 0, .int .i64 0, .int .u64 0, .int .i64 0, .int .u64 0, .int .i64 0, .int .i64 0, .int .i64 0, .int .u64 0, .slice none 0 0, .slice none 0 0, .int .i64 0, .int .i64 0, .int .u64 0, .int .i64 0, .int .u64 0, .int .i64 0, .int .i64 0, .int .u64 0, .int .i64 0, .int .u64 0, .bool false] 53)
 have PB0 : IsB (w.alloc (.cells #[.int .i64 0, .int .i64 0, .int .i64 0, .int .u64 0, .int .i64 0, .int .u64 0, .int .i64 0, .int .i64 0, .int .u64 0, .int .i64 0, .int .i64 0, .int .u64 0, .int .i64 0, .int .u64 0, .int .i64 0, .int .i64 0, .int .u64 0, .int .i64 0, .int .u64 0, .int .i64 0, .int .i64 0, .int .i64 0, .int .u64 0, .slice none 0 0, .slice none 0 0, .int .i64 0, .int .i64 0, .int .u64 0, .int .i64 0, .int .u64 0, .int .i64 0, .int .i64 0, .int .u64 0, .int .i64 0, .int .u64 0, .bool false] 53)) w.heap.size (stL 0 zr 0 0 0 zr zr 0 0 0 zr zr).toArray 53 := IsB.new w #[.int .i64 0, .int .i64 0, .int .i64 0, .int .u64 0, .int .i64 0, .int .u64 0, .int .i64 0, .int .i64 0, .int .u64 0, .int .i64 0, .int .i64 0, .int .u64 0, .int .i64 0, .int .u64 0, .int .i64 0, .int .i64 0, .int .u64 0, .int .i64 0, .int .u64 0, .int .i64 0, .int .i64 0, .int .i64 0, .int .u64 0, .slice none 0 0, .slice none 0 0, .int .i64 0, .int .i64 0, .int .u64 0, .int .i64 0, .int .u64 0, .int .i64 0, .int .i64 0, .int .u64 0, .int .i64 0, .int .u64 0, .bool false] 53
 have P := hide PB0
 clear PB0
 have pe := ptr_eq ⟨b, 0, none⟩ (w.alloc (.cells #[.int .i64 0, .int .i64 0, .int .i64 0, .int .u64 0, .int .i64 0, .int .u64 0, .int .i64 0, .int .i64 0, .int .u64 0, .int .i64 0, .int .i64 0, .int .u64 0, .int .i64 0, .int .u64 0, .int .i64 0, .int .i64 0, .int .u64 0, .int .i64 0, .int .u64 0, .int .i64 0, .int .i64 0, .int .i64 0, .int .u64 0, .slice none 0 0, .slice none 0 0, .int .i64 0, .int .i64 0, .int .u64 0, .int .i64 0, .int .u64 0, .int .i64 0, .int .i64 0, .int .u64 0, .int .i64 0, .int .u64 0, .bool false] 53))
 have XA := hide (X.below b1)
 have BA := hide b1
 have y9 : (w.alloc (.cells #[.int .i64 0, .int .i64 0, .int .i64 0, .int .u64 0, .int .i64 0, .int .u64 0, .int .i64 0, .int .i64 0, .int .u64 0, .int .i64 0, .int .i64 0, .int .u64 0, .int .i64 0, .int .u64 0, .int .i64 0, .int .i64 0, .int .u64 0, .int .i64 0, .int .u64 0, .int .i64 0, .int .i64 0, .int .i64 0, .int .u64 0, .slice none 0 0, .slice none 0 0, .int .i64 0, .int .i64 0, .int .u64 0, .int .i64 0, .int .u64 0, .int .i64 0, .int .i64 0, .int .u64 0, .int .i64 0, .int .u64 0, .bool false] 53)).cell? ⟨b, 9, none⟩ = some (.int .i64 S.pl) := cl_at XA.out
 rw [hp] at y9
 clear hp b1 X
 have LR := hide (ld_left XA.out)
 have CT := hide (asksOwned_any b S S.lf 4 0 0 zr zr 0 0 _ XA.out)
 clear XA
 go_enter Tryz.func164, Tryz.ntmps164
 go_wp2_with (first | (focus ((with_reducible refine wpList_load_w ?_ 29 (.tmp 90) ?_ ?_ LR.out ?_); rotate_left; rfl; rfl; rotate_left; rfl)))
 refine CT.out.mono ?_
 rintro e' w5 ⟨rfl, hb⟩
 obtain ⟨w6, hs6, P6', k6⟩ := ust_step (P.out.below hb) rfl 1 S.lf 4 S.wl S.wb zr zr S.oa S.oo 0 zr zr
 have HS6 := hide hs6
 have P6 := hide P6'
 have B5 : Hid (Below w.heap.size w w6) := (BA.out.trans (hb.mono BA.out.size)).trans (k6.to_below (by have := BA.out.size; have := hb.size; omega) (by simp))
 clear hs6 P6' k6 hb P BA
 clear CT LR y9 pe
 go_wp2_with (first | (focus ((with_reducible refine wpList_store_w ?_ 53 (.tmp 2) (.tmp 93) ?_ ?_ ?_ HS6.out ?_); rotate_left; rfl; rfl; rfl; rotate_left; rfl)))
 try simp only [Act.put]
 try go_wp2
 refine ret_step (p := 2) (b := w.heap.size) Tryz.results164 rfl rfl P6.out ?_
 exact ⟨rfl, B5.out⟩

set_option maxHeartbeats 2000000 in
set_option maxRecDepth 100000 in
theorem next_4 (b : Nat) (S : Us) (hp : S.pl = 4) (w : World) (X : UsAt w b S) : Calls Tryz.prog 164 #[.pointer (some ⟨b, 0, none⟩)] w fun e' w' => e' = .returned (.agg (stL 1 S.lf 5 S.wl S.wb S.rg zr S.oa S.oo 0 zr zr).toArray) ∧ Below w.heap.size w w' := by
 have mixed : Tryz.prog.follows .mixedOrders = true := by kernel_rfl
 have b1 := (Below.refl w.heap.size w).alloc (Nat.le_refl _) (.cells #[.int .i64 0, .int .i64 0, .int .i64 0, .int .u64 0, .int .i64 0, .int .u64 0, .int .i64 0, .int .i64 0, .int .u64 0, .int .i64 0, .int .i64 0, .int .u64 0, .int .i64 0, .int .u64 0, .int .i64 0, .int .i64 0, .int .u64 0, .int .i64 0, .int .u64 0, .int .i64 0, .int .i64 0, .int .i64 0, .int .u64 0, .slice none 0 0, .slice none 0 0, .int .i64 0, .int .i64 0, .int .u64 0, .int .i64 0, .int .u64 0, .int .i64 0, .int .i64 0, .int .u64 0, .int .i64 0, .int .u64 0, .bool false] 53)
 have PB0 : IsB (w.alloc (.cells #[.int .i64 0, .int .i64 0, .int .i64 0, .int .u64 0, .int .i64 0, .int .u64 0, .int .i64 0, .int .i64 0, .int .u64 0, .int .i64 0, .int .i64 0, .int .u64 0, .int .i64 0, .int .u64 0, .int .i64 0, .int .i64 0, .int .u64 0, .int .i64 0, .int .u64 0, .int .i64 0, .int .i64 0, .int .i64 0, .int .u64 0, .slice none 0 0, .slice none 0 0, .int .i64 0, .int .i64 0, .int .u64 0, .int .i64 0, .int .u64 0, .int .i64 0, .int .i64 0, .int .u64 0, .int .i64 0, .int .u64 0, .bool false] 53)) w.heap.size (stL 0 zr 0 0 0 zr zr 0 0 0 zr zr).toArray 53 := IsB.new w #[.int .i64 0, .int .i64 0, .int .i64 0, .int .u64 0, .int .i64 0, .int .u64 0, .int .i64 0, .int .i64 0, .int .u64 0, .int .i64 0, .int .i64 0, .int .u64 0, .int .i64 0, .int .u64 0, .int .i64 0, .int .i64 0, .int .u64 0, .int .i64 0, .int .u64 0, .int .i64 0, .int .i64 0, .int .i64 0, .int .u64 0, .slice none 0 0, .slice none 0 0, .int .i64 0, .int .i64 0, .int .u64 0, .int .i64 0, .int .u64 0, .int .i64 0, .int .i64 0, .int .u64 0, .int .i64 0, .int .u64 0, .bool false] 53
 have P := hide PB0
 clear PB0
 have pe := ptr_eq ⟨b, 0, none⟩ (w.alloc (.cells #[.int .i64 0, .int .i64 0, .int .i64 0, .int .u64 0, .int .i64 0, .int .u64 0, .int .i64 0, .int .i64 0, .int .u64 0, .int .i64 0, .int .i64 0, .int .u64 0, .int .i64 0, .int .u64 0, .int .i64 0, .int .i64 0, .int .u64 0, .int .i64 0, .int .u64 0, .int .i64 0, .int .i64 0, .int .i64 0, .int .u64 0, .slice none 0 0, .slice none 0 0, .int .i64 0, .int .i64 0, .int .u64 0, .int .i64 0, .int .u64 0, .int .i64 0, .int .i64 0, .int .u64 0, .int .i64 0, .int .u64 0, .bool false] 53))
 have XA := hide (X.below b1)
 have BA := hide b1
 have y9 : (w.alloc (.cells #[.int .i64 0, .int .i64 0, .int .i64 0, .int .u64 0, .int .i64 0, .int .u64 0, .int .i64 0, .int .i64 0, .int .u64 0, .int .i64 0, .int .i64 0, .int .u64 0, .int .i64 0, .int .u64 0, .int .i64 0, .int .i64 0, .int .u64 0, .int .i64 0, .int .u64 0, .int .i64 0, .int .i64 0, .int .i64 0, .int .u64 0, .slice none 0 0, .slice none 0 0, .int .i64 0, .int .i64 0, .int .u64 0, .int .i64 0, .int .u64 0, .int .i64 0, .int .i64 0, .int .u64 0, .int .i64 0, .int .u64 0, .bool false] 53)).cell? ⟨b, 9, none⟩ = some (.int .i64 S.pl) := cl_at XA.out
 rw [hp] at y9
 clear hp b1 X
 have ID := hide (XA.out.below ((Below.refl _ _).drew))
 replace P := hide (P.out.below ((Below.refl _ _).drew))
 replace BA := hide (BA.out.drew)
 clear XA
 go_enter Tryz.func164, Tryz.ntmps164
 go_wp2_with fail
 clear y9 pe
 refine regionL 11 (fun w' => UsAt w' b S) mixed ID.out (fun hHeld => ?_)
 generalize (w.alloc (.cells #[.int .i64 0, .int .i64 0, .int .i64 0, .int .u64 0, .int .i64 0, .int .u64 0, .int .i64 0, .int .i64 0, .int .u64 0, .int .i64 0, .int .i64 0, .int .u64 0, .int .i64 0, .int .u64 0, .int .i64 0, .int .i64 0, .int .u64 0, .int .i64 0, .int .u64 0, .int .i64 0, .int .i64 0, .int .i64 0, .int .u64 0, .slice none 0 0, .slice none 0 0, .int .i64 0, .int .i64 0, .int .u64 0, .int .i64 0, .int .u64 0, .int .i64 0, .int .i64 0, .int .u64 0, .int .i64 0, .int .u64 0, .bool false] 53)).drew = WD at *
 refine pkA (v := ?_) 0 (some 41) rfl rfl ?_ (by assumption) ?_
 rotate_left
 · intro w'
   go_simp
   try with_reducible rfl
 try simp only [Act.put, zqa, zqb, zqc]
 refine pkA (v := ?_) 1 (some 42) rfl rfl ?_ (by assumption) ?_
 rotate_left
 · intro w'
   go_simp
   try with_reducible rfl
 try simp only [Act.put, zqa, zqb, zqc]
 refine pkA (v := ?_) 2 (some 43) rfl rfl ?_ (by assumption) ?_
 rotate_left
 · intro w'
   go_simp
   try with_reducible rfl
 try simp only [Act.put, zqa, zqb, zqc]
 refine pkA (v := ?_) 3 (some 44) rfl rfl ?_ (by assumption) ?_
 rotate_left
 · intro w'
   go_simp
   try with_reducible rfl
 try simp only [Act.put, zqa, zqb, zqc]
 refine pkL (v := .agg S.lf.cells) 4 (some 45) rfl rfl ?_ (by assumption) ?_
 · intro w' hSw
   have q0 := hSw
   exact exec_load rfl rfl (ld_left q0)
 try simp only [Act.put, zqa, zqb, zqc]
 refine pkA (v := ?_) 5 (some 46) rfl rfl ?_ (by assumption) ?_
 rotate_left
 · intro w'
   go_simp
   try with_reducible rfl
 try simp only [Act.put, zqa, zqb, zqc]
 refine pkA (v := ?_) 6 (some 47) rfl rfl ?_ (by assumption) ?_
 rotate_left
 · intro w'
   go_simp
   try with_reducible rfl
 try simp only [Act.put, zqa, zqb, zqc]
 refine pkA (v := ?_) 7 (some 48) rfl rfl ?_ (by assumption) ?_
 rotate_left
 · intro w'
   go_simp
   try with_reducible rfl
 try simp only [Act.put, zqa, zqb, zqc]
 refine pkL (v := .agg S.rg.cells) 8 (some 49) rfl rfl ?_ (by assumption) ?_
 · intro w' hSw
   have q0 := hSw
   exact exec_load rfl rfl (ld_right q0)
 try simp only [Act.put, zqa, zqb, zqc]
 refine pkA (v := .agg (akL 5 0 0 S.rg zr 0 0).toArray) 9 (some 50) rfl rfl ?_ (by assumption) ?_
 · intro w'
   kernel_rfl
 try simp only [Act.put, zqa, zqb, zqc]
 refine oneL (i := 10) (by kernel_rfl) rfl (fun K hK => ?_)
 go_simp
 refine (asksOwned_any b S S.lf 5 0 0 S.rg zr 0 0 WD ID.out).mono ?_
 rintro e' w5 ⟨rfl, hb⟩
 have I5 := hide (ID.out.below hb)
 obtain ⟨w6, hs6, P6', k6⟩ := ust_step (P.out.below hb) rfl 1 S.lf 5 S.wl S.wb S.rg zr S.oa S.oo 0 zr zr
 have HS6 := hide hs6
 have P6 := hide P6'
 have B5 : Hid (Below w.heap.size w w6) := (BA.out.trans (hb.mono BA.out.size)).trans (k6.to_below (by have := BA.out.size; have := hb.size; omega) (by simp))
 clear hs6 P6' k6 hb P BA
 refine hK.out _ _ ?_ ?_
 · exact I5.out
 clear hK K
 try simp only [Act.put, zqa, zqb, zqc]
 clear hHeld
 have hHeld : (fun w' => UsAt w' b S) w5 := I5.out
 refine lateL (i := 11) (by kernel_rfl) rfl (by decide) (by kernel_rfl) (fun K hK => ?_)
 refine step_store_w rfl 53 (.tmp 2) (.tmp 51) rfl rfl rfl HS6.out ?_
 refine hK.out _ _ ?_
 clear hK K
 try simp only [Act.put, List.setIfInBounds_toArray]
 refine doneL (by kernel_rfl) ?_ _
 clear hHeld
 try simp only [Act.put]
 try go_wp2
 refine ret_step (p := 2) (b := w.heap.size) Tryz.results164 rfl rfl P6.out ?_
 exact ⟨rfl, B5.out⟩

set_option maxHeartbeats 2000000 in
set_option maxRecDepth 100000 in
theorem next_5 (b : Nat) (S : Us) (hp : S.pl = 5) (w : World) (X : UsAt w b S) : Calls Tryz.prog 164 #[.pointer (some ⟨b, 0, none⟩)] w fun e' w' => e' = .returned (.agg (stL 1 S.rg 6 S.wl S.wb S.lf zr 0 0 0 zr zr).toArray) ∧ Below w.heap.size w w' := by
 have mixed : Tryz.prog.follows .mixedOrders = true := by kernel_rfl
 have b1 := (Below.refl w.heap.size w).alloc (Nat.le_refl _) (.cells #[.int .i64 0, .int .i64 0, .int .i64 0, .int .u64 0, .int .i64 0, .int .u64 0, .int .i64 0, .int .i64 0, .int .u64 0, .int .i64 0, .int .i64 0, .int .u64 0, .int .i64 0, .int .u64 0, .int .i64 0, .int .i64 0, .int .u64 0, .int .i64 0, .int .u64 0, .int .i64 0, .int .i64 0, .int .i64 0, .int .u64 0, .slice none 0 0, .slice none 0 0, .int .i64 0, .int .i64 0, .int .u64 0, .int .i64 0, .int .u64 0, .int .i64 0, .int .i64 0, .int .u64 0, .int .i64 0, .int .u64 0, .bool false] 53)
 have PB0 : IsB (w.alloc (.cells #[.int .i64 0, .int .i64 0, .int .i64 0, .int .u64 0, .int .i64 0, .int .u64 0, .int .i64 0, .int .i64 0, .int .u64 0, .int .i64 0, .int .i64 0, .int .u64 0, .int .i64 0, .int .u64 0, .int .i64 0, .int .i64 0, .int .u64 0, .int .i64 0, .int .u64 0, .int .i64 0, .int .i64 0, .int .i64 0, .int .u64 0, .slice none 0 0, .slice none 0 0, .int .i64 0, .int .i64 0, .int .u64 0, .int .i64 0, .int .u64 0, .int .i64 0, .int .i64 0, .int .u64 0, .int .i64 0, .int .u64 0, .bool false] 53)) w.heap.size (stL 0 zr 0 0 0 zr zr 0 0 0 zr zr).toArray 53 := IsB.new w #[.int .i64 0, .int .i64 0, .int .i64 0, .int .u64 0, .int .i64 0, .int .u64 0, .int .i64 0, .int .i64 0, .int .u64 0, .int .i64 0, .int .i64 0, .int .u64 0, .int .i64 0, .int .u64 0, .int .i64 0, .int .i64 0, .int .u64 0, .int .i64 0, .int .u64 0, .int .i64 0, .int .i64 0, .int .i64 0, .int .u64 0, .slice none 0 0, .slice none 0 0, .int .i64 0, .int .i64 0, .int .u64 0, .int .i64 0, .int .u64 0, .int .i64 0, .int .i64 0, .int .u64 0, .int .i64 0, .int .u64 0, .bool false] 53
 have P := hide PB0
 clear PB0
 have pe := ptr_eq ⟨b, 0, none⟩ (w.alloc (.cells #[.int .i64 0, .int .i64 0, .int .i64 0, .int .u64 0, .int .i64 0, .int .u64 0, .int .i64 0, .int .i64 0, .int .u64 0, .int .i64 0, .int .i64 0, .int .u64 0, .int .i64 0, .int .u64 0, .int .i64 0, .int .i64 0, .int .u64 0, .int .i64 0, .int .u64 0, .int .i64 0, .int .i64 0, .int .i64 0, .int .u64 0, .slice none 0 0, .slice none 0 0, .int .i64 0, .int .i64 0, .int .u64 0, .int .i64 0, .int .u64 0, .int .i64 0, .int .i64 0, .int .u64 0, .int .i64 0, .int .u64 0, .bool false] 53))
 have XA := hide (X.below b1)
 have BA := hide b1
 have y9 : (w.alloc (.cells #[.int .i64 0, .int .i64 0, .int .i64 0, .int .u64 0, .int .i64 0, .int .u64 0, .int .i64 0, .int .i64 0, .int .u64 0, .int .i64 0, .int .i64 0, .int .u64 0, .int .i64 0, .int .u64 0, .int .i64 0, .int .i64 0, .int .u64 0, .int .i64 0, .int .u64 0, .int .i64 0, .int .i64 0, .int .i64 0, .int .u64 0, .slice none 0 0, .slice none 0 0, .int .i64 0, .int .i64 0, .int .u64 0, .int .i64 0, .int .u64 0, .int .i64 0, .int .i64 0, .int .u64 0, .int .i64 0, .int .u64 0, .bool false] 53)).cell? ⟨b, 9, none⟩ = some (.int .i64 S.pl) := cl_at XA.out
 rw [hp] at y9
 clear hp b1 X
 have ID := hide (XA.out.below ((Below.refl _ _).drew))
 replace P := hide (P.out.below ((Below.refl _ _).drew))
 replace BA := hide (BA.out.drew)
 clear XA
 go_enter Tryz.func164, Tryz.ntmps164
 go_wp2_with fail
 clear y9 pe
 refine regionL 11 (fun w' => UsAt w' b S) mixed ID.out (fun hHeld => ?_)
 generalize (w.alloc (.cells #[.int .i64 0, .int .i64 0, .int .i64 0, .int .u64 0, .int .i64 0, .int .u64 0, .int .i64 0, .int .i64 0, .int .u64 0, .int .i64 0, .int .i64 0, .int .u64 0, .int .i64 0, .int .u64 0, .int .i64 0, .int .i64 0, .int .u64 0, .int .i64 0, .int .u64 0, .int .i64 0, .int .i64 0, .int .i64 0, .int .u64 0, .slice none 0 0, .slice none 0 0, .int .i64 0, .int .i64 0, .int .u64 0, .int .i64 0, .int .u64 0, .int .i64 0, .int .i64 0, .int .u64 0, .int .i64 0, .int .u64 0, .bool false] 53)).drew = WD at *
 refine pkA (v := ?_) 0 (some 54) rfl rfl ?_ (by assumption) ?_
 rotate_left
 · intro w'
   go_simp
   try with_reducible rfl
 try simp only [Act.put, zqa, zqb, zqc]
 refine pkA (v := ?_) 1 (some 55) rfl rfl ?_ (by assumption) ?_
 rotate_left
 · intro w'
   go_simp
   try with_reducible rfl
 try simp only [Act.put, zqa, zqb, zqc]
 refine pkA (v := ?_) 2 (some 56) rfl rfl ?_ (by assumption) ?_
 rotate_left
 · intro w'
   go_simp
   try with_reducible rfl
 try simp only [Act.put, zqa, zqb, zqc]
 refine pkA (v := ?_) 3 (some 57) rfl rfl ?_ (by assumption) ?_
 rotate_left
 · intro w'
   go_simp
   try with_reducible rfl
 try simp only [Act.put, zqa, zqb, zqc]
 refine pkL (v := .agg S.rg.cells) 4 (some 58) rfl rfl ?_ (by assumption) ?_
 · intro w' hSw
   have q0 := hSw
   exact exec_load rfl rfl (ld_right q0)
 try simp only [Act.put, zqa, zqb, zqc]
 refine pkA (v := ?_) 5 (some 59) rfl rfl ?_ (by assumption) ?_
 rotate_left
 · intro w'
   go_simp
   try with_reducible rfl
 try simp only [Act.put, zqa, zqb, zqc]
 refine pkA (v := ?_) 6 (some 60) rfl rfl ?_ (by assumption) ?_
 rotate_left
 · intro w'
   go_simp
   try with_reducible rfl
 try simp only [Act.put, zqa, zqb, zqc]
 refine pkA (v := ?_) 7 (some 61) rfl rfl ?_ (by assumption) ?_
 rotate_left
 · intro w'
   go_simp
   try with_reducible rfl
 try simp only [Act.put, zqa, zqb, zqc]
 refine pkL (v := .agg S.lf.cells) 8 (some 62) rfl rfl ?_ (by assumption) ?_
 · intro w' hSw
   have q0 := hSw
   exact exec_load rfl rfl (ld_left q0)
 try simp only [Act.put, zqa, zqb, zqc]
 refine pkA (v := .agg (akL 6 0 0 S.lf zr 0 0).toArray) 9 (some 63) rfl rfl ?_ (by assumption) ?_
 · intro w'
   kernel_rfl
 try simp only [Act.put, zqa, zqb, zqc]
 refine oneL (i := 10) (by kernel_rfl) rfl (fun K hK => ?_)
 go_simp
 refine (asks_any b S S.rg 6 0 0 S.lf zr 0 0 WD ID.out).mono ?_
 rintro e' w5 ⟨rfl, hb⟩
 have I5 := hide (ID.out.below hb)
 obtain ⟨w6, hs6, P6', k6⟩ := ust_step (P.out.below hb) rfl 1 S.rg 6 S.wl S.wb S.lf zr 0 0 0 zr zr
 have HS6 := hide hs6
 have P6 := hide P6'
 have B5 : Hid (Below w.heap.size w w6) := (BA.out.trans (hb.mono BA.out.size)).trans (k6.to_below (by have := BA.out.size; have := hb.size; omega) (by simp))
 clear hs6 P6' k6 hb P BA
 refine hK.out _ _ ?_ ?_
 · exact I5.out
 clear hK K
 try simp only [Act.put, zqa, zqb, zqc]
 clear hHeld
 have hHeld : (fun w' => UsAt w' b S) w5 := I5.out
 refine lateL (i := 11) (by kernel_rfl) rfl (by decide) (by kernel_rfl) (fun K hK => ?_)
 refine step_store_w rfl 53 (.tmp 2) (.tmp 64) rfl rfl rfl HS6.out ?_
 refine hK.out _ _ ?_
 clear hK K
 try simp only [Act.put, List.setIfInBounds_toArray]
 refine doneL (by kernel_rfl) ?_ _
 clear hHeld
 try simp only [Act.put]
 try go_wp2
 refine ret_step (p := 2) (b := w.heap.size) Tryz.results164 rfl rfl P6.out ?_
 exact ⟨rfl, B5.out⟩

set_option maxHeartbeats 2000000 in
set_option maxRecDepth 100000 in
theorem next_9 (b : Nat) (S : Us) (hp : S.pl = 9) (w : World) (X : UsAt w b S) : Calls Tryz.prog 164 #[.pointer (some ⟨b, 0, none⟩)] w fun e' w' => e' = .returned (.agg (stL 2 zr 0 0 0 zr zr 0 0 0 zr zr).toArray) ∧ Below w.heap.size w w' := by
 have mixed : Tryz.prog.follows .mixedOrders = true := by kernel_rfl
 have b1 := (Below.refl w.heap.size w).alloc (Nat.le_refl _) (.cells #[.int .i64 0, .int .i64 0, .int .i64 0, .int .u64 0, .int .i64 0, .int .u64 0, .int .i64 0, .int .i64 0, .int .u64 0, .int .i64 0, .int .i64 0, .int .u64 0, .int .i64 0, .int .u64 0, .int .i64 0, .int .i64 0, .int .u64 0, .int .i64 0, .int .u64 0, .int .i64 0, .int .i64 0, .int .i64 0, .int .u64 0, .slice none 0 0, .slice none 0 0, .int .i64 0, .int .i64 0, .int .u64 0, .int .i64 0, .int .u64 0, .int .i64 0, .int .i64 0, .int .u64 0, .int .i64 0, .int .u64 0, .bool false] 53)
 have PB0 : IsB (w.alloc (.cells #[.int .i64 0, .int .i64 0, .int .i64 0, .int .u64 0, .int .i64 0, .int .u64 0, .int .i64 0, .int .i64 0, .int .u64 0, .int .i64 0, .int .i64 0, .int .u64 0, .int .i64 0, .int .u64 0, .int .i64 0, .int .i64 0, .int .u64 0, .int .i64 0, .int .u64 0, .int .i64 0, .int .i64 0, .int .i64 0, .int .u64 0, .slice none 0 0, .slice none 0 0, .int .i64 0, .int .i64 0, .int .u64 0, .int .i64 0, .int .u64 0, .int .i64 0, .int .i64 0, .int .u64 0, .int .i64 0, .int .u64 0, .bool false] 53)) w.heap.size (stL 0 zr 0 0 0 zr zr 0 0 0 zr zr).toArray 53 := IsB.new w #[.int .i64 0, .int .i64 0, .int .i64 0, .int .u64 0, .int .i64 0, .int .u64 0, .int .i64 0, .int .i64 0, .int .u64 0, .int .i64 0, .int .i64 0, .int .u64 0, .int .i64 0, .int .u64 0, .int .i64 0, .int .i64 0, .int .u64 0, .int .i64 0, .int .u64 0, .int .i64 0, .int .i64 0, .int .i64 0, .int .u64 0, .slice none 0 0, .slice none 0 0, .int .i64 0, .int .i64 0, .int .u64 0, .int .i64 0, .int .u64 0, .int .i64 0, .int .i64 0, .int .u64 0, .int .i64 0, .int .u64 0, .bool false] 53
 have P := hide PB0
 clear PB0
 have pe := ptr_eq ⟨b, 0, none⟩ (w.alloc (.cells #[.int .i64 0, .int .i64 0, .int .i64 0, .int .u64 0, .int .i64 0, .int .u64 0, .int .i64 0, .int .i64 0, .int .u64 0, .int .i64 0, .int .i64 0, .int .u64 0, .int .i64 0, .int .u64 0, .int .i64 0, .int .i64 0, .int .u64 0, .int .i64 0, .int .u64 0, .int .i64 0, .int .i64 0, .int .i64 0, .int .u64 0, .slice none 0 0, .slice none 0 0, .int .i64 0, .int .i64 0, .int .u64 0, .int .i64 0, .int .u64 0, .int .i64 0, .int .i64 0, .int .u64 0, .int .i64 0, .int .u64 0, .bool false] 53))
 have XA := hide (X.below b1)
 have BA := hide b1
 have y9 : (w.alloc (.cells #[.int .i64 0, .int .i64 0, .int .i64 0, .int .u64 0, .int .i64 0, .int .u64 0, .int .i64 0, .int .i64 0, .int .u64 0, .int .i64 0, .int .i64 0, .int .u64 0, .int .i64 0, .int .u64 0, .int .i64 0, .int .i64 0, .int .u64 0, .int .i64 0, .int .u64 0, .int .i64 0, .int .i64 0, .int .i64 0, .int .u64 0, .slice none 0 0, .slice none 0 0, .int .i64 0, .int .i64 0, .int .u64 0, .int .i64 0, .int .u64 0, .int .i64 0, .int .i64 0, .int .u64 0, .int .i64 0, .int .u64 0, .bool false] 53)).cell? ⟨b, 9, none⟩ = some (.int .i64 S.pl) := cl_at XA.out
 rw [hp] at y9
 clear hp b1 X
 obtain ⟨w6, hs6, P6', k6⟩ := ust_step P.out rfl 2 zr 0 0 0 zr zr 0 0 0 zr zr
 have HS6 := hide hs6
 have P6 := hide P6'
 have B5 : Hid (Below w.heap.size w w6) := BA.out.trans (k6.to_below (by have := BA.out.size; omega) (by simp))
 clear hs6 P6' k6 P BA
 clear XA
 go_enter Tryz.func164, Tryz.ntmps164
 go_wp2_with (first | (focus ((with_reducible refine wpList_store_w ?_ 53 (.tmp 2) (.tmp 96) ?_ ?_ ?_ HS6.out ?_); rotate_left; rfl; rfl; rfl; rotate_left; rfl)))
 try simp only [Act.put]
 try go_wp2
 refine ret_step (p := 2) (b := w.heap.size) Tryz.results164 rfl rfl P6.out ?_
 exact ⟨rfl, B5.out⟩

set_option maxHeartbeats 2000000 in
set_option maxRecDepth 100000 in
theorem next_10 (b : Nat) (S : Us) (hp : S.pl = 10) (w : World) (X : UsAt w b S) : Calls Tryz.prog 164 #[.pointer (some ⟨b, 0, none⟩)] w fun e' w' => e' = .returned (.agg (stL 3 zr 0 0 0 zr zr 0 0 S.e zr zr).toArray) ∧ Below w.heap.size w w' := by
 have mixed : Tryz.prog.follows .mixedOrders = true := by kernel_rfl
 have b1 := (Below.refl w.heap.size w).alloc (Nat.le_refl _) (.cells #[.int .i64 0, .int .i64 0, .int .i64 0, .int .u64 0, .int .i64 0, .int .u64 0, .int .i64 0, .int .i64 0, .int .u64 0, .int .i64 0, .int .i64 0, .int .u64 0, .int .i64 0, .int .u64 0, .int .i64 0, .int .i64 0, .int .u64 0, .int .i64 0, .int .u64 0, .int .i64 0, .int .i64 0, .int .i64 0, .int .u64 0, .slice none 0 0, .slice none 0 0, .int .i64 0, .int .i64 0, .int .u64 0, .int .i64 0, .int .u64 0, .int .i64 0, .int .i64 0, .int .u64 0, .int .i64 0, .int .u64 0, .bool false] 53)
 have PB0 : IsB (w.alloc (.cells #[.int .i64 0, .int .i64 0, .int .i64 0, .int .u64 0, .int .i64 0, .int .u64 0, .int .i64 0, .int .i64 0, .int .u64 0, .int .i64 0, .int .i64 0, .int .u64 0, .int .i64 0, .int .u64 0, .int .i64 0, .int .i64 0, .int .u64 0, .int .i64 0, .int .u64 0, .int .i64 0, .int .i64 0, .int .i64 0, .int .u64 0, .slice none 0 0, .slice none 0 0, .int .i64 0, .int .i64 0, .int .u64 0, .int .i64 0, .int .u64 0, .int .i64 0, .int .i64 0, .int .u64 0, .int .i64 0, .int .u64 0, .bool false] 53)) w.heap.size (stL 0 zr 0 0 0 zr zr 0 0 0 zr zr).toArray 53 := IsB.new w #[.int .i64 0, .int .i64 0, .int .i64 0, .int .u64 0, .int .i64 0, .int .u64 0, .int .i64 0, .int .i64 0, .int .u64 0, .int .i64 0, .int .i64 0, .int .u64 0, .int .i64 0, .int .u64 0, .int .i64 0, .int .i64 0, .int .u64 0, .int .i64 0, .int .u64 0, .int .i64 0, .int .i64 0, .int .i64 0, .int .u64 0, .slice none 0 0, .slice none 0 0, .int .i64 0, .int .i64 0, .int .u64 0, .int .i64 0, .int .u64 0, .int .i64 0, .int .i64 0, .int .u64 0, .int .i64 0, .int .u64 0, .bool false] 53
 have P := hide PB0
 clear PB0
 have pe := ptr_eq ⟨b, 0, none⟩ (w.alloc (.cells #[.int .i64 0, .int .i64 0, .int .i64 0, .int .u64 0, .int .i64 0, .int .u64 0, .int .i64 0, .int .i64 0, .int .u64 0, .int .i64 0, .int .i64 0, .int .u64 0, .int .i64 0, .int .u64 0, .int .i64 0, .int .i64 0, .int .u64 0, .int .i64 0, .int .u64 0, .int .i64 0, .int .i64 0, .int .i64 0, .int .u64 0, .slice none 0 0, .slice none 0 0, .int .i64 0, .int .i64 0, .int .u64 0, .int .i64 0, .int .u64 0, .int .i64 0, .int .i64 0, .int .u64 0, .int .i64 0, .int .u64 0, .bool false] 53))
 have XA := hide (X.below b1)
 have BA := hide b1
 have y9 : (w.alloc (.cells #[.int .i64 0, .int .i64 0, .int .i64 0, .int .u64 0, .int .i64 0, .int .u64 0, .int .i64 0, .int .i64 0, .int .u64 0, .int .i64 0, .int .i64 0, .int .u64 0, .int .i64 0, .int .u64 0, .int .i64 0, .int .i64 0, .int .u64 0, .int .i64 0, .int .u64 0, .int .i64 0, .int .i64 0, .int .i64 0, .int .u64 0, .slice none 0 0, .slice none 0 0, .int .i64 0, .int .i64 0, .int .u64 0, .int .i64 0, .int .u64 0, .int .i64 0, .int .i64 0, .int .u64 0, .int .i64 0, .int .u64 0, .bool false] 53)).cell? ⟨b, 9, none⟩ = some (.int .i64 S.pl) := cl_at XA.out
 rw [hp] at y9
 clear hp b1 X
 obtain ⟨w6, hs6, P6', k6⟩ := ust_step P.out rfl 3 zr 0 0 0 zr zr 0 0 S.e zr zr
 have HS6 := hide hs6
 have P6 := hide P6'
 have B5 : Hid (Below w.heap.size w w6) := BA.out.trans (k6.to_below (by have := BA.out.size; omega) (by simp))
 clear hs6 P6' k6 P BA
 have y21 : (w.alloc (.cells #[.int .i64 0, .int .i64 0, .int .i64 0, .int .u64 0, .int .i64 0, .int .u64 0, .int .i64 0, .int .i64 0, .int .u64 0, .int .i64 0, .int .i64 0, .int .u64 0, .int .i64 0, .int .u64 0, .int .i64 0, .int .i64 0, .int .u64 0, .int .i64 0, .int .u64 0, .int .i64 0, .int .i64 0, .int .i64 0, .int .u64 0, .slice none 0 0, .slice none 0 0, .int .i64 0, .int .i64 0, .int .u64 0, .int .i64 0, .int .u64 0, .int .i64 0, .int .i64 0, .int .u64 0, .int .i64 0, .int .u64 0, .bool false] 53)).cell? ⟨b, 21, none⟩ = some (.int .i64 S.e) := ucl_e XA.out
 clear XA
 go_enter Tryz.func164, Tryz.ntmps164
 go_wp2_with (first | (focus ((with_reducible refine wpList_store_w ?_ 53 (.tmp 2) (.tmp 104) ?_ ?_ ?_ HS6.out ?_); rotate_left; rfl; rfl; rfl; rotate_left; rfl)))
 try simp only [Act.put]
 try go_wp2
 refine ret_step (p := 2) (b := w.heap.size) Tryz.results164 rfl rfl P6.out ?_
 exact ⟨rfl, B5.out⟩

theorem unext_any (b : Nat) (S : Us) (h1 : 1 ≤ S.pl) (h2 : S.pl ≤ 10) (w : World) (X : UsAt w b S) : Calls Tryz.prog 164 #[.pointer (some ⟨b, 0, none⟩)] w fun e' w' => e' = .returned (.agg S.step.toArray) ∧ Below w.heap.size w w' := by
 unfold Us.step
 by_cases h1' : S.pl = 1
 · rw [if_pos h1']; exact next_1 b S h1' w X
 rw [if_neg h1']
 by_cases h2' : S.pl = 2
 · rw [if_pos h2']; exact next_2 b S h2' w X
 rw [if_neg h2']
 by_cases h3' : S.pl = 3
 · rw [if_pos h3']; exact next_3 b S h3' w X
 rw [if_neg h3']
 by_cases h4' : S.pl = 4
 · rw [if_pos h4']; exact next_4 b S h4' w X
 rw [if_neg h4']
 by_cases h5' : S.pl = 5
 · rw [if_pos h5']; exact next_5 b S h5' w X
 rw [if_neg h5']
 by_cases h6' : S.pl = 6
 · rw [if_pos h6']; exact next_6 b S h6' w X
 rw [if_neg h6']
 by_cases h7' : S.pl = 7
 · rw [if_pos h7']; exact next_7 b S h7' w X
 rw [if_neg h7']
 by_cases h8' : S.pl = 8
 · rw [if_pos h8']; exact next_8 b S h8' w X
 rw [if_neg h8']
 by_cases h9' : S.pl = 9
 · rw [if_pos h9']; exact next_9 b S h9' w X
 rw [if_neg h9']
 exact next_10 b S (by omega) w X

end Go.Proofs.YtokehogcenjefaaGreatDoor
