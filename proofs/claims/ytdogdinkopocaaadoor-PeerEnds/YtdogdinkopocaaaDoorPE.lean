/- Package peer: plain, ready, only, done. -/
import Derived.Test.YtdogdinkopocaaaDoorPD
import Derived.Test.YtdogdinkopocaaaDoorPB
import Derived.Test.YtdogdinkopocaaaDoorPM
import Derived.Test.YtdogdinkopocaaaDoorJB
namespace Go.Proofs.YtdogdinkopocaaaDoor
open Go.RowKit Go.Maps

theorem an_info : (Tryd.prog.info? 61).map (·.size) = some 13 := by kernel_rfl
theorem ret_an {fn : Func} {p : Tmp} (hf : fn.results = #[.cell p 61]) {Q : Ending → World → Prop} {tmps : Array Value} {w : World} {b : Nat} {cs : Array Value} (hs : cs.size = 13)
    (hp : tmps.getD p undef = .pointer (some ⟨b, 0, none⟩)) (I : IsB w b cs 61) (hQ : Q (.returned (.agg cs)) w) :
    bodyPost Tryd.prog fn Q .ret ⟨tmps, []⟩ w :=
  bodyPost_ret (results_cell_row hf tmps w b 61 cs (0, 0) _ hp I Tryd.underlying61 rfl (by rw [hs]; exact an_info)) rfl hQ
theorem load_an {w : World} {b : Nat} {cs : Array Value} (I : IsB w b cs 61) (hs : cs.size = 13) : (Instr.loadAt 61 (.pointer (some ⟨b, 0, none⟩))).run Tryd.prog w = .ok (.agg cs) w := by
  have h := run_loadVar_row (P := Tryd.prog) w b 61 61 cs (0, 0) _ I Tryd.underlying61 rfl (by rw [hs]; exact an_info)
  simp only [Instr.loadAt, Instr.sureAddr, Sem.run_bind, Sem.run_pure, Result.andThen_ok, h]
theorem ry_info : (Tryd.prog.info? 63).map (·.size) = some 14 := by kernel_rfl
theorem ret_ry {fn : Func} {p : Tmp} (hf : fn.results = #[.cell p 63]) {Q : Ending → World → Prop} {tmps : Array Value} {w : World} {b : Nat} {cs : Array Value} (hs : cs.size = 14)
    (hp : tmps.getD p undef = .pointer (some ⟨b, 0, none⟩)) (I : IsB w b cs 63) (hQ : Q (.returned (.agg cs)) w) :
    bodyPost Tryd.prog fn Q .ret ⟨tmps, []⟩ w :=
  bodyPost_ret (results_cell_row hf tmps w b 63 cs (0, 0) _ hp I Tryd.underlying63 rfl (by rw [hs]; exact ry_info)) rfl hQ

set_option maxHeartbeats 2000000 in
set_option maxRecDepth 100000 in
theorem plain_any (k : Int) (w : World) : Calls Tryd.prog 46 #[.int .i64 k] w fun e w' => e = .returned (.agg #[.int .i64 k, .bool false, .int .i64 0, .int .i64 0, .int .u64 0, .int .i64 0, .int .u64 0, .int .i64 0, .int .i64 0, .int .u64 0, .int .i64 0, .int .u64 0, .slice none 0 0]) ∧ Below w.heap.size w w' := by
  go_enter Tryd.func46, Tryd.ntmps46
  go_wp2
  refine ret_an (p := 2) (b := w.heap.size) Tryd.results46 rfl rfl (IsB.new w #[.int .i64 k, .bool false, .int .i64 0, .int .i64 0, .int .u64 0, .int .i64 0, .int .u64 0, .int .i64 0, .int .i64 0, .int .u64 0, .int .i64 0, .int .u64 0, .slice none 0 0] 61) ?_
  exact ⟨rfl, (Below.refl _ w).alloc (Nat.le_refl _) _⟩

set_option maxHeartbeats 4000000 in
set_option maxRecDepth 100000 in
theorem ready_any (t : Int) (k : Int) (m : Bool) (l0 l1 l2 l3 l4 r0 r1 r2 r3 r4 : Int) (va : Option Addr) (vn vc : Nat) (w : World) : Calls Tryd.prog 44 #[.int .i64 t, .agg #[.int .i64 k, .bool m, .int .i64 l0, .int .i64 l1, .int .u64 l2, .int .i64 l3, .int .u64 l4, .int .i64 r0, .int .i64 r1, .int .u64 r2, .int .i64 r3, .int .u64 r4, .slice va vn vc]] w fun e w' => e = .returned (.agg #[.int .i64 t, .int .i64 k, .bool m, .int .i64 l0, .int .i64 l1, .int .u64 l2, .int .i64 l3, .int .u64 l4, .int .i64 r0, .int .i64 r1, .int .u64 r2, .int .i64 r3, .int .u64 r4, .slice va vn vc]) ∧ Below w.heap.size w w' := by
  have ld := hide (load_an ((IsB.new w #[.int .i64 k, .bool m, .int .i64 l0, .int .i64 l1, .int .u64 l2, .int .i64 l3, .int .u64 l4, .int .i64 r0, .int .i64 r1, .int .u64 r2, .int .i64 r3, .int .u64 r4, .slice va vn vc] 61).alloc (.cells #[.int .i64 0, .int .i64 0, .bool false, .int .i64 0, .int .i64 0, .int .u64 0, .int .i64 0, .int .u64 0, .int .i64 0, .int .i64 0, .int .u64 0, .int .i64 0, .int .u64 0, .slice none 0 0] 63)) rfl)
  go_enter Tryd.func44, Tryd.ntmps44
  go_wp2_with (first | (refine wpList_load_w rfl 61 (.tmp 3) rfl rfl ld.out ?_))
  have I := IsB.new (w.alloc (.cells #[.int .i64 k, .bool m, .int .i64 l0, .int .i64 l1, .int .u64 l2, .int .i64 l3, .int .u64 l4, .int .i64 r0, .int .i64 r1, .int .u64 r2, .int .i64 r3, .int .u64 r4, .slice va vn vc] 61)) #[.int .i64 t, .int .i64 k, .bool m, .int .i64 l0, .int .i64 l1, .int .u64 l2, .int .i64 l3, .int .u64 l4, .int .i64 r0, .int .i64 r1, .int .u64 r2, .int .i64 r3, .int .u64 r4, .slice va vn vc] 63
  rw [World.size_alloc] at I
  refine ret_ry (p := 4) (b := w.heap.size + 1) Tryd.results44 rfl rfl I ?_
  exact ⟨rfl, ((Below.refl _ w).alloc (Nat.le_refl _) _).alloc (by simp) _⟩

set_option maxHeartbeats 4000000 in
set_option maxRecDepth 100000 in
theorem only_any (t : Int) (k : Int) (m : Bool) (l0 l1 l2 l3 l4 r0 r1 r2 r3 r4 : Int) (va : Option Addr) (vn vc : Nat) (w : World) : Calls Tryd.prog 30 #[.int .i64 t, .agg #[.int .i64 k, .bool m, .int .i64 l0, .int .i64 l1, .int .u64 l2, .int .i64 l3, .int .u64 l4, .int .i64 r0, .int .i64 r1, .int .u64 r2, .int .i64 r3, .int .u64 r4, .slice va vn vc]] w fun e w' => ∃ b, e = .returned (.slice (some ⟨b, 0, none⟩) 1 1) ∧ w.heap.size ≤ b ∧ IsB w' b #[.int .i64 t, .int .i64 k, .bool m, .int .i64 l0, .int .i64 l1, .int .u64 l2, .int .i64 l3, .int .u64 l4, .int .i64 r0, .int .i64 r1, .int .u64 r2, .int .i64 r3, .int .u64 r4, .slice va vn vc] 63 ∧ Below w.heap.size w w' := by
  have ld := hide (load_an (IsB.new w #[.int .i64 k, .bool m, .int .i64 l0, .int .i64 l1, .int .u64 l2, .int .i64 l3, .int .u64 l4, .int .i64 r0, .int .i64 r1, .int .u64 r2, .int .i64 r3, .int .u64 r4, .slice va vn vc] 61) rfl)
  go_enter Tryd.func30, Tryd.ntmps30
  go_wp2_with (first | (refine wpList_load_w rfl 61 (.tmp 3) rfl rfl ld.out ?_))
  clear ld
  have B := hide (show Below w.heap.size w (w.alloc (.cells #[.int .i64 k, .bool m, .int .i64 l0, .int .i64 l1, .int .u64 l2, .int .i64 l3, .int .u64 l4, .int .i64 r0, .int .i64 r1, .int .u64 r2, .int .i64 r3, .int .u64 r4, .slice va vn vc] 61)) from (Below.refl _ w).alloc (Nat.le_refl _) _)
  generalize w.alloc (.cells #[.int .i64 k, .bool m, .int .i64 l0, .int .i64 l1, .int .u64 l2, .int .i64 l3, .int .u64 l4, .int .i64 r0, .int .i64 r1, .int .u64 r2, .int .i64 r3, .int .u64 r4, .slice va vn vc] 61) = W1 at B ⊢
  refine (ready_any t k m l0 l1 l2 l3 l4 r0 r1 r2 r3 r4 va vn vc _).mono ?_; rintro e w2 ⟨rfl, hb⟩
  replace B := hide (B.out.trans (hb.mono B.out.size))
  clear hb
  go_wp2
  go_ret
  have I := IsB.new w2 #[.int .i64 t, .int .i64 k, .bool m, .int .i64 l0, .int .i64 l1, .int .u64 l2, .int .i64 l3, .int .u64 l4, .int .i64 r0, .int .i64 r1, .int .u64 r2, .int .i64 r3, .int .u64 r4, .slice va vn vc] 63
  exact ⟨w2.heap.size, rfl, B.out.size, I, B.out.alloc B.out.size _⟩

set_option maxHeartbeats 4000000 in
set_option maxRecDepth 100000 in
theorem done_ok (E : Int) (hE : E = 0) (w : World) : Calls Tryd.prog 34 #[.int .i64 E] w fun e w' => e = .returned (.agg #[.int .i64 1, .bool false, .int .i64 0, .int .i64 0, .int .u64 0, .int .i64 0, .int .u64 0, .int .i64 0, .int .i64 0, .int .u64 0, .int .i64 0, .int .u64 0, .slice none 0 0]) ∧ Below w.heap.size w w' := by
  have F := hide (IsB.new w #[.int .i64 0, .bool false, .int .i64 0, .int .i64 0, .int .u64 0, .int .i64 0, .int .u64 0, .int .i64 0, .int .i64 0, .int .u64 0, .int .i64 0, .int .u64 0, .slice none 0 0] 61)
  have B := hide (show Below w.heap.size w (w.alloc (.cells #[.int .i64 0, .bool false, .int .i64 0, .int .i64 0, .int .u64 0, .int .i64 0, .int .u64 0, .int .i64 0, .int .i64 0, .int .u64 0, .int .i64 0, .int .u64 0, .slice none 0 0] 61)) from (Below.refl _ w).alloc (Nat.le_refl _) _)
  subst hE
  go_enter Tryd.func34, Tryd.ntmps34
  go_wp2_with fail
  generalize w.alloc (.cells #[.int .i64 0, .bool false, .int .i64 0, .int .i64 0, .int .u64 0, .int .i64 0, .int .u64 0, .int .i64 0, .int .i64 0, .int .u64 0, .int .i64 0, .int .u64 0, .slice none 0 0] 61) = W1 at F B ⊢
  have hB1 := B.out.size
  generalize hH : w.heap.size = H at F B hB1 ⊢
  replace hH := hide hH
  refine (plain_any 1 _).mono ?_; rintro e w2 ⟨rfl, hb⟩
  replace F := hide (F.out.below hb)
  replace B := hide (B.out.trans (hb.mono hB1))
  clear hb
  have z0 : w2.frozen? ⟨H, 0, none⟩ = false := F.out.free 0
  have c0 : w2.cell? ⟨H, 0, none⟩ = some (.int .i64 0) := F.out.cell 0
  have z1 : w2.frozen? ⟨H, 1, none⟩ = false := F.out.free 1
  have c1 : w2.cell? ⟨H, 1, none⟩ = some (.bool false) := F.out.cell 1
  have z2 : w2.frozen? ⟨H, 2, none⟩ = false := F.out.free 2
  have c2 : w2.cell? ⟨H, 2, none⟩ = some (.int .i64 0) := F.out.cell 2
  have z3 : w2.frozen? ⟨H, 3, none⟩ = false := F.out.free 3
  have c3 : w2.cell? ⟨H, 3, none⟩ = some (.int .i64 0) := F.out.cell 3
  have z4 : w2.frozen? ⟨H, 4, none⟩ = false := F.out.free 4
  have c4 : w2.cell? ⟨H, 4, none⟩ = some (.int .u64 0) := F.out.cell 4
  have z5 : w2.frozen? ⟨H, 5, none⟩ = false := F.out.free 5
  have c5 : w2.cell? ⟨H, 5, none⟩ = some (.int .i64 0) := F.out.cell 5
  have z6 : w2.frozen? ⟨H, 6, none⟩ = false := F.out.free 6
  have c6 : w2.cell? ⟨H, 6, none⟩ = some (.int .u64 0) := F.out.cell 6
  have z7 : w2.frozen? ⟨H, 7, none⟩ = false := F.out.free 7
  have c7 : w2.cell? ⟨H, 7, none⟩ = some (.int .i64 0) := F.out.cell 7
  have z8 : w2.frozen? ⟨H, 8, none⟩ = false := F.out.free 8
  have c8 : w2.cell? ⟨H, 8, none⟩ = some (.int .i64 0) := F.out.cell 8
  have z9 : w2.frozen? ⟨H, 9, none⟩ = false := F.out.free 9
  have c9 : w2.cell? ⟨H, 9, none⟩ = some (.int .u64 0) := F.out.cell 9
  have z10 : w2.frozen? ⟨H, 10, none⟩ = false := F.out.free 10
  have c10 : w2.cell? ⟨H, 10, none⟩ = some (.int .i64 0) := F.out.cell 10
  have z11 : w2.frozen? ⟨H, 11, none⟩ = false := F.out.free 11
  have c11 : w2.cell? ⟨H, 11, none⟩ = some (.int .u64 0) := F.out.cell 11
  have z12 : w2.frozen? ⟨H, 12, none⟩ = false := F.out.free 12
  have c12 : w2.cell? ⟨H, 12, none⟩ = some (.slice none 0 0) := F.out.cell 12
  have fl := F.out.lt
  go_wp2
  clear z0 c0 z1 c1 z2 c2 z3 c3 z4 c4 z5 c5 z6 c6 z7 c7 z8 c8 z9 c9 z10 c10 z11 c11 z12 c12
  have hW : (((((((((((((w2.setCell ⟨H, 0, none⟩ (.int .i64 1)).setCell ⟨H, 1, none⟩ (.bool false)).setCell ⟨H, 2, none⟩ (.int .i64 0)).setCell ⟨H, 3, none⟩ (.int .i64 0)).setCell ⟨H, 4, none⟩ (.int .u64 0)).setCell ⟨H, 5, none⟩ (.int .i64 0)).setCell ⟨H, 6, none⟩ (.int .u64 0)).setCell ⟨H, 7, none⟩ (.int .i64 0)).setCell ⟨H, 8, none⟩ (.int .i64 0)).setCell ⟨H, 9, none⟩ (.int .u64 0)).setCell ⟨H, 10, none⟩ (.int .i64 0)).setCell ⟨H, 11, none⟩ (.int .u64 0)).setCell ⟨H, 12, none⟩ (.slice none 0 0)) = putCells w2 (H) 0 [.int .i64 1, .bool false, .int .i64 0, .int .i64 0, .int .u64 0, .int .i64 0, .int .u64 0, .int .i64 0, .int .i64 0, .int .u64 0, .int .i64 0, .int .u64 0, .slice none 0 0] := rfl
  rw [hW]
  clear hW
  have F9 := putCells_is (cs := [.int .i64 0, .bool false, .int .i64 0, .int .i64 0, .int .u64 0, .int .i64 0, .int .u64 0, .int .i64 0, .int .i64 0, .int .u64 0, .int .i64 0, .int .u64 0, .slice none 0 0]) F.out [.int .i64 1, .bool false, .int .i64 0, .int .i64 0, .int .u64 0, .int .i64 0, .int .u64 0, .int .i64 0, .int .i64 0, .int .u64 0, .int .i64 0, .int .u64 0, .slice none 0 0] rfl
  have k9 := putCells_kp (H) [.int .i64 1, .bool false, .int .i64 0, .int .i64 0, .int .u64 0, .int .i64 0, .int .u64 0, .int .i64 0, .int .i64 0, .int .u64 0, .int .i64 0, .int .u64 0, .slice none 0 0] w2 0
  refine ret_an (p := 2) (b := H) Tryd.results34 rfl rfl F9 ?_
  exact ⟨rfl, (Kp.of_below (S := []) (by rw [← hH.out] at B; exact B.out)).trans k9 (fun j hj => by simp at hj; right; rw [hj, hH.out]; exact Nat.le_refl _) |>.to_below (by rw [hH.out]; exact Nat.le_refl _) (by simp)⟩

set_option maxHeartbeats 4000000 in
set_option maxRecDepth 100000 in
theorem done_no (E : Int) (hE : E ≠ 0) (w : World) : Calls Tryd.prog 34 #[.int .i64 E] w fun e w' => e = .returned (.agg #[.int .i64 4, .bool false, .int .i64 0, .int .i64 0, .int .u64 0, .int .i64 0, .int .u64 0, .int .i64 0, .int .i64 0, .int .u64 0, .int .i64 0, .int .u64 0, .slice none 0 0]) ∧ Below w.heap.size w w' := by
  have F := hide (IsB.new w #[.int .i64 0, .bool false, .int .i64 0, .int .i64 0, .int .u64 0, .int .i64 0, .int .u64 0, .int .i64 0, .int .i64 0, .int .u64 0, .int .i64 0, .int .u64 0, .slice none 0 0] 61)
  have B := hide (show Below w.heap.size w (w.alloc (.cells #[.int .i64 0, .bool false, .int .i64 0, .int .i64 0, .int .u64 0, .int .i64 0, .int .u64 0, .int .i64 0, .int .i64 0, .int .u64 0, .int .i64 0, .int .u64 0, .slice none 0 0] 61)) from (Below.refl _ w).alloc (Nat.le_refl _) _)
  have hd : (E == 0) = false := by simpa using hE
  go_enter Tryd.func34, Tryd.ntmps34
  go_wp2_with fail
  generalize w.alloc (.cells #[.int .i64 0, .bool false, .int .i64 0, .int .i64 0, .int .u64 0, .int .i64 0, .int .u64 0, .int .i64 0, .int .i64 0, .int .u64 0, .int .i64 0, .int .u64 0, .slice none 0 0] 61) = W1 at F B ⊢
  have hB1 := B.out.size
  generalize hH : w.heap.size = H at F B hB1 ⊢
  replace hH := hide hH
  refine (plain_any 4 _).mono ?_; rintro e w2 ⟨rfl, hb⟩
  replace F := hide (F.out.below hb)
  replace B := hide (B.out.trans (hb.mono hB1))
  clear hb
  have z0 : w2.frozen? ⟨H, 0, none⟩ = false := F.out.free 0
  have c0 : w2.cell? ⟨H, 0, none⟩ = some (.int .i64 0) := F.out.cell 0
  have z1 : w2.frozen? ⟨H, 1, none⟩ = false := F.out.free 1
  have c1 : w2.cell? ⟨H, 1, none⟩ = some (.bool false) := F.out.cell 1
  have z2 : w2.frozen? ⟨H, 2, none⟩ = false := F.out.free 2
  have c2 : w2.cell? ⟨H, 2, none⟩ = some (.int .i64 0) := F.out.cell 2
  have z3 : w2.frozen? ⟨H, 3, none⟩ = false := F.out.free 3
  have c3 : w2.cell? ⟨H, 3, none⟩ = some (.int .i64 0) := F.out.cell 3
  have z4 : w2.frozen? ⟨H, 4, none⟩ = false := F.out.free 4
  have c4 : w2.cell? ⟨H, 4, none⟩ = some (.int .u64 0) := F.out.cell 4
  have z5 : w2.frozen? ⟨H, 5, none⟩ = false := F.out.free 5
  have c5 : w2.cell? ⟨H, 5, none⟩ = some (.int .i64 0) := F.out.cell 5
  have z6 : w2.frozen? ⟨H, 6, none⟩ = false := F.out.free 6
  have c6 : w2.cell? ⟨H, 6, none⟩ = some (.int .u64 0) := F.out.cell 6
  have z7 : w2.frozen? ⟨H, 7, none⟩ = false := F.out.free 7
  have c7 : w2.cell? ⟨H, 7, none⟩ = some (.int .i64 0) := F.out.cell 7
  have z8 : w2.frozen? ⟨H, 8, none⟩ = false := F.out.free 8
  have c8 : w2.cell? ⟨H, 8, none⟩ = some (.int .i64 0) := F.out.cell 8
  have z9 : w2.frozen? ⟨H, 9, none⟩ = false := F.out.free 9
  have c9 : w2.cell? ⟨H, 9, none⟩ = some (.int .u64 0) := F.out.cell 9
  have z10 : w2.frozen? ⟨H, 10, none⟩ = false := F.out.free 10
  have c10 : w2.cell? ⟨H, 10, none⟩ = some (.int .i64 0) := F.out.cell 10
  have z11 : w2.frozen? ⟨H, 11, none⟩ = false := F.out.free 11
  have c11 : w2.cell? ⟨H, 11, none⟩ = some (.int .u64 0) := F.out.cell 11
  have z12 : w2.frozen? ⟨H, 12, none⟩ = false := F.out.free 12
  have c12 : w2.cell? ⟨H, 12, none⟩ = some (.slice none 0 0) := F.out.cell 12
  have fl := F.out.lt
  go_wp2
  clear z0 c0 z1 c1 z2 c2 z3 c3 z4 c4 z5 c5 z6 c6 z7 c7 z8 c8 z9 c9 z10 c10 z11 c11 z12 c12
  have hW : (((((((((((((w2.setCell ⟨H, 0, none⟩ (.int .i64 4)).setCell ⟨H, 1, none⟩ (.bool false)).setCell ⟨H, 2, none⟩ (.int .i64 0)).setCell ⟨H, 3, none⟩ (.int .i64 0)).setCell ⟨H, 4, none⟩ (.int .u64 0)).setCell ⟨H, 5, none⟩ (.int .i64 0)).setCell ⟨H, 6, none⟩ (.int .u64 0)).setCell ⟨H, 7, none⟩ (.int .i64 0)).setCell ⟨H, 8, none⟩ (.int .i64 0)).setCell ⟨H, 9, none⟩ (.int .u64 0)).setCell ⟨H, 10, none⟩ (.int .i64 0)).setCell ⟨H, 11, none⟩ (.int .u64 0)).setCell ⟨H, 12, none⟩ (.slice none 0 0)) = putCells w2 (H) 0 [.int .i64 4, .bool false, .int .i64 0, .int .i64 0, .int .u64 0, .int .i64 0, .int .u64 0, .int .i64 0, .int .i64 0, .int .u64 0, .int .i64 0, .int .u64 0, .slice none 0 0] := rfl
  rw [hW]
  clear hW
  have F9 := putCells_is (cs := [.int .i64 0, .bool false, .int .i64 0, .int .i64 0, .int .u64 0, .int .i64 0, .int .u64 0, .int .i64 0, .int .i64 0, .int .u64 0, .int .i64 0, .int .u64 0, .slice none 0 0]) F.out [.int .i64 4, .bool false, .int .i64 0, .int .i64 0, .int .u64 0, .int .i64 0, .int .u64 0, .int .i64 0, .int .i64 0, .int .u64 0, .int .i64 0, .int .u64 0, .slice none 0 0] rfl
  have k9 := putCells_kp (H) [.int .i64 4, .bool false, .int .i64 0, .int .i64 0, .int .u64 0, .int .i64 0, .int .u64 0, .int .i64 0, .int .i64 0, .int .u64 0, .int .i64 0, .int .u64 0, .slice none 0 0] w2 0
  refine ret_an (p := 2) (b := H) Tryd.results34 rfl rfl F9 ?_
  exact ⟨rfl, (Kp.of_below (S := []) (by rw [← hH.out] at B; exact B.out)).trans k9 (fun j hj => by simp at hj; right; rw [hj, hH.out]; exact Nat.le_refl _) |>.to_below (by rw [hH.out]; exact Nat.le_refl _) (by simp)⟩

end Go.Proofs.YtdogdinkopocaaaDoor
