/- Package peer: the ends; wait, called. -/
import Derived.Test.YtdogdinkopocaaaDoorPF
namespace Go.Proofs.YtdogdinkopocaaaDoor
open Go.RowKit Go.Maps

theorem ret_rt {fn : Func} {p u : Tmp} (hf : fn.results = #[.cell p 29, .tmp u]) {Q : Ending → World → Prop} {tmps : Array Value} {w : World} {b : Nat} {cs : Array Value} {v : Value} (hs : cs.size = 5)
    (hp : tmps.getD p undef = .pointer (some ⟨b, 0, none⟩)) (hu : tmps.getD u undef = v) (I : IsB w b cs 29) (hQ : Q (.returned (.tuple #[.agg cs, v])) w) :
    bodyPost Tryd.prog fn Q .ret ⟨tmps, []⟩ w := by
  refine bodyPost_ret ?_ rfl hQ
  rw [results_cell_tmp hf, hp, hu]
  have h := run_loadVar_row (P := Tryd.prog) w b 29 29 cs (0, 0) _ I Tryd.underlying29 rfl (by rw [hs]; exact ref_info)
  simp [asAddr, h, Result.andThen]
theorem wrap_small (x : Int) (h0 : 0 ≤ x) (h1 : x < 9223372036854775808) : IntKind.i64.wrap x = x := by
  have h2 : x % 18446744073709551616 = x := Int.emod_eq_of_lt h0 (by omega)
  have h3 : ¬ (9223372036854775808 ≤ x) := by omega
  simp [IntKind.wrap, IntKind.bits, IntKind.signed, h2, h3]
theorem wt_info : (Tryd.prog.info? 116).map (·.size) = some 2 := by kernel_rfl
theorem ret_wt {fn : Func} {p : Tmp} (hf : fn.results = #[.cell p 116]) {Q : Ending → World → Prop} {tmps : Array Value} {w : World} {b : Nat} {cs : Array Value} (hs : cs.size = 2)
    (hp : tmps.getD p undef = .pointer (some ⟨b, 0, none⟩)) (I : IsB w b cs 116) (hQ : Q (.returned (.agg cs)) w) :
    bodyPost Tryd.prog fn Q .ret ⟨tmps, []⟩ w :=
  bodyPost_ret (results_cell_row hf tmps w b 116 cs (0, 0) _ hp I Tryd.underlying116 rfl (by rw [hs]; exact wt_info)) rfl hQ

theorem PAt.setn {w : World} {base p lp lm km : Nat} {va : Option Addr} {vc : Nat} {ma : Option Addr} {mc : Nat} {s : PS} (h : PAt w base p lp lm km va vc ma mc s) (m : Int) : PAt (w.setCell ⟨p, 11, none⟩ (.int .i64 m)) base p lp lm km va vc ma mc { s with n := m } ∧ Kpt km lm w (w.setCell ⟨p, 11, none⟩ (.int .i64 m)) ∧ (base ≤ w.heap.size → Below base w (w.setCell ⟨p, 11, none⟩ (.int .i64 m))) := by
  have hk : Kp [p] w (w.setCell ⟨p, 11, none⟩ (.int .i64 m)) := (Kp.refl _ w).set _ _ (Or.inl (by simp))
  obtain ⟨h1, h2, h3, h4, h5, h6⟩ := h.own hk
  have hb := h.blk.set 11 (.int .i64 m)
  simp at hb
  exact ⟨⟨hb, h1, h2, h3, h4, h.ne, h.lo⟩, h5, h6⟩

set_option maxHeartbeats 1000000 in
set_option maxRecDepth 100000 in
theorem endOf_ok (i k n : Int) (h0 : 0 ≤ n) (h1 : n ≤ 32) (w : World) : Calls Tryd.prog 10 #[.int .i64 i, .int .i64 k, .int .i64 n] w fun e w' => e = .returned (.tuple #[.agg #[.int .i64 i, .int .i64 k, .int .u64 0, .int .i64 n, .int .u64 0], .int .i64 0]) ∧ Below w.heap.size w w' := by
  have d0 : decide (n < 0) = false := decide_eq_false (by omega)
  have d1 : decide (32 < n) = false := decide_eq_false (by omega)
  go_enter Tryd.func10, Tryd.ntmps10
  go_wp2
  refine ret_rt (p := 6) (u := 7) (b := w.heap.size) Tryd.results10 rfl rfl rfl (IsB.new w #[.int .i64 i, .int .i64 k, .int .u64 0, .int .i64 n, .int .u64 0] 29) ?_
  exact ⟨rfl, (Below.refl _ w).alloc (Nat.le_refl _) _⟩

set_option maxHeartbeats 1000000 in
set_option maxRecDepth 100000 in
theorem endOf_bad (i k n : Int) (hn0 : n < 0 ∨ 32 < n) (w : World) : Calls Tryd.prog 10 #[.int .i64 i, .int .i64 k, .int .i64 n] w fun e w' => e = .returned (.tuple #[.agg #[.int .i64 0, .int .i64 0, .int .u64 0, .int .i64 0, .int .u64 0], .int .i64 90]) ∧ Below w.heap.size w w' := by
  by_cases hn : n < 0
  · have d0 : decide (n < 0) = true := decide_eq_true hn
    go_enter Tryd.func10, Tryd.ntmps10
    go_wp2
    refine ret_rt (p := 6) (u := 7) (b := w.heap.size) Tryd.results10 rfl rfl rfl (IsB.new w #[.int .i64 0, .int .i64 0, .int .u64 0, .int .i64 0, .int .u64 0] 29) ?_
    exact ⟨rfl, (Below.refl _ w).alloc (Nat.le_refl _) _⟩
  · have d0 : decide (n < 0) = false := decide_eq_false hn
    have d1 : decide (32 < n) = true := decide_eq_true (by omega)
    go_enter Tryd.func10, Tryd.ntmps10
    go_wp2
    refine ret_rt (p := 6) (u := 7) (b := w.heap.size) Tryd.results10 rfl rfl rfl (IsB.new w #[.int .i64 0, .int .i64 0, .int .u64 0, .int .i64 0, .int .u64 0] 29) ?_
    exact ⟨rfl, (Below.refl _ w).alloc (Nat.le_refl _) _⟩

set_option maxHeartbeats 2000000 in
set_option maxRecDepth 100000 in
theorem head_ok (n : Int) (h0 : 0 ≤ n) (h1 : n ≤ 32) (w : World) : Calls Tryd.prog 4 #[.int .i64 n] w fun e w' => e = .returned (.tuple #[.agg #[.int .i64 0, .int .i64 1, .int .u64 0, .int .i64 n, .int .u64 0], .int .i64 0]) ∧ Below w.heap.size w w' := by
  have F := hide (IsB.new w #[.int .i64 0, .int .i64 0, .int .u64 0, .int .i64 0, .int .u64 0] 29)
  have B := hide (show Below w.heap.size w (w.alloc (.cells #[.int .i64 0, .int .i64 0, .int .u64 0, .int .i64 0, .int .u64 0] 29)) from (Below.refl _ w).alloc (Nat.le_refl _) _)
  go_enter Tryd.func4, Tryd.ntmps4
  go_wp2_with fail
  generalize w.alloc (.cells #[.int .i64 0, .int .i64 0, .int .u64 0, .int .i64 0, .int .u64 0] 29) = W1 at F B ⊢
  generalize hH : w.heap.size = H at F ⊢
  replace hH := hide hH
  refine (endOf_ok 0 1 n h0 h1 _).mono ?_; rintro e w2 ⟨rfl, hb⟩
  replace F := hide (F.out.below hb)
  replace B := hide (B.out.trans (hb.mono B.out.size))
  clear hb
  have z0 : w2.frozen? ⟨H, 0, none⟩ = false := F.out.free 0
  have c0 : w2.cell? ⟨H, 0, none⟩ = some (.int .i64 0) := F.out.cell 0
  have z1 : w2.frozen? ⟨H, 1, none⟩ = false := F.out.free 1
  have c1 : w2.cell? ⟨H, 1, none⟩ = some (.int .i64 0) := F.out.cell 1
  have z2 : w2.frozen? ⟨H, 2, none⟩ = false := F.out.free 2
  have c2 : w2.cell? ⟨H, 2, none⟩ = some (.int .u64 0) := F.out.cell 2
  have z3 : w2.frozen? ⟨H, 3, none⟩ = false := F.out.free 3
  have c3 : w2.cell? ⟨H, 3, none⟩ = some (.int .i64 0) := F.out.cell 3
  have z4 : w2.frozen? ⟨H, 4, none⟩ = false := F.out.free 4
  have c4 : w2.cell? ⟨H, 4, none⟩ = some (.int .u64 0) := F.out.cell 4
  have fl := F.out.lt
  go_wp2
  clear z0 c0 z1 c1 z2 c2 z3 c3 z4 c4
  have hW : (((((w2.setCell ⟨H, 0, none⟩ (.int .i64 0)).setCell ⟨H, 1, none⟩ (.int .i64 1)).setCell ⟨H, 2, none⟩ (.int .u64 0)).setCell ⟨H, 3, none⟩ (.int .i64 n)).setCell ⟨H, 4, none⟩ (.int .u64 0)) = putCells w2 (H) 0 [.int .i64 0, .int .i64 1, .int .u64 0, .int .i64 n, .int .u64 0] := rfl
  rw [hW]
  clear hW
  have F9 := putCells_is (cs := [.int .i64 0, .int .i64 0, .int .u64 0, .int .i64 0, .int .u64 0]) F.out [.int .i64 0, .int .i64 1, .int .u64 0, .int .i64 n, .int .u64 0] rfl
  have k9 := putCells_kp (H) [.int .i64 0, .int .i64 1, .int .u64 0, .int .i64 n, .int .u64 0] w2 0
  refine ret_rt (p := 2) (u := 3) (b := H) Tryd.results4 rfl rfl rfl F9 ?_
  exact ⟨rfl, (Kp.of_below (S := []) B.out).trans k9 (fun j hj => by simp at hj; right; rw [hj, hH.out]; exact Nat.le_refl _) |>.to_below (Nat.le_refl _) (by simp)⟩

set_option maxHeartbeats 2000000 in
set_option maxRecDepth 100000 in
theorem head_bad (n : Int) (hn : n < 0 ∨ 32 < n) (w : World) : Calls Tryd.prog 4 #[.int .i64 n] w fun e w' => e = .returned (.tuple #[.agg #[.int .i64 0, .int .i64 0, .int .u64 0, .int .i64 0, .int .u64 0], .int .i64 90]) ∧ Below w.heap.size w w' := by
  have F := hide (IsB.new w #[.int .i64 0, .int .i64 0, .int .u64 0, .int .i64 0, .int .u64 0] 29)
  have B := hide (show Below w.heap.size w (w.alloc (.cells #[.int .i64 0, .int .i64 0, .int .u64 0, .int .i64 0, .int .u64 0] 29)) from (Below.refl _ w).alloc (Nat.le_refl _) _)
  go_enter Tryd.func4, Tryd.ntmps4
  go_wp2_with fail
  generalize w.alloc (.cells #[.int .i64 0, .int .i64 0, .int .u64 0, .int .i64 0, .int .u64 0] 29) = W1 at F B ⊢
  generalize hH : w.heap.size = H at F ⊢
  replace hH := hide hH
  refine (endOf_bad 0 1 n hn _).mono ?_; rintro e w2 ⟨rfl, hb⟩
  replace F := hide (F.out.below hb)
  replace B := hide (B.out.trans (hb.mono B.out.size))
  clear hb
  have z0 : w2.frozen? ⟨H, 0, none⟩ = false := F.out.free 0
  have c0 : w2.cell? ⟨H, 0, none⟩ = some (.int .i64 0) := F.out.cell 0
  have z1 : w2.frozen? ⟨H, 1, none⟩ = false := F.out.free 1
  have c1 : w2.cell? ⟨H, 1, none⟩ = some (.int .i64 0) := F.out.cell 1
  have z2 : w2.frozen? ⟨H, 2, none⟩ = false := F.out.free 2
  have c2 : w2.cell? ⟨H, 2, none⟩ = some (.int .u64 0) := F.out.cell 2
  have z3 : w2.frozen? ⟨H, 3, none⟩ = false := F.out.free 3
  have c3 : w2.cell? ⟨H, 3, none⟩ = some (.int .i64 0) := F.out.cell 3
  have z4 : w2.frozen? ⟨H, 4, none⟩ = false := F.out.free 4
  have c4 : w2.cell? ⟨H, 4, none⟩ = some (.int .u64 0) := F.out.cell 4
  have fl := F.out.lt
  go_wp2
  clear z0 c0 z1 c1 z2 c2 z3 c3 z4 c4
  have hW : (((((w2.setCell ⟨H, 0, none⟩ (.int .i64 0)).setCell ⟨H, 1, none⟩ (.int .i64 0)).setCell ⟨H, 2, none⟩ (.int .u64 0)).setCell ⟨H, 3, none⟩ (.int .i64 0)).setCell ⟨H, 4, none⟩ (.int .u64 0)) = putCells w2 (H) 0 [.int .i64 0, .int .i64 0, .int .u64 0, .int .i64 0, .int .u64 0] := rfl
  rw [hW]
  clear hW
  have F9 := putCells_is (cs := [.int .i64 0, .int .i64 0, .int .u64 0, .int .i64 0, .int .u64 0]) F.out [.int .i64 0, .int .i64 0, .int .u64 0, .int .i64 0, .int .u64 0] rfl
  have k9 := putCells_kp (H) [.int .i64 0, .int .i64 0, .int .u64 0, .int .i64 0, .int .u64 0] w2 0
  refine ret_rt (p := 2) (u := 3) (b := H) Tryd.results4 rfl rfl rfl F9 ?_
  exact ⟨rfl, (Kp.of_below (S := []) B.out).trans k9 (fun j hj => by simp at hj; right; rw [hj, hH.out]; exact Nat.le_refl _) |>.to_below (Nat.le_refl _) (by simp)⟩

set_option maxHeartbeats 2000000 in
set_option maxRecDepth 100000 in
theorem tail_ok (n : Int) (h0 : 0 ≤ n) (h1 : n ≤ 32) (w : World) : Calls Tryd.prog 6 #[.int .i64 n] w fun e w' => e = .returned (.tuple #[.agg #[.int .i64 1, .int .i64 3, .int .u64 0, .int .i64 n, .int .u64 0], .int .i64 0]) ∧ Below w.heap.size w w' := by
  have F := hide (IsB.new w #[.int .i64 0, .int .i64 0, .int .u64 0, .int .i64 0, .int .u64 0] 29)
  have B := hide (show Below w.heap.size w (w.alloc (.cells #[.int .i64 0, .int .i64 0, .int .u64 0, .int .i64 0, .int .u64 0] 29)) from (Below.refl _ w).alloc (Nat.le_refl _) _)
  go_enter Tryd.func6, Tryd.ntmps6
  go_wp2_with fail
  generalize w.alloc (.cells #[.int .i64 0, .int .i64 0, .int .u64 0, .int .i64 0, .int .u64 0] 29) = W1 at F B ⊢
  generalize hH : w.heap.size = H at F ⊢
  replace hH := hide hH
  refine (endOf_ok 1 3 n h0 h1 _).mono ?_; rintro e w2 ⟨rfl, hb⟩
  replace F := hide (F.out.below hb)
  replace B := hide (B.out.trans (hb.mono B.out.size))
  clear hb
  have z0 : w2.frozen? ⟨H, 0, none⟩ = false := F.out.free 0
  have c0 : w2.cell? ⟨H, 0, none⟩ = some (.int .i64 0) := F.out.cell 0
  have z1 : w2.frozen? ⟨H, 1, none⟩ = false := F.out.free 1
  have c1 : w2.cell? ⟨H, 1, none⟩ = some (.int .i64 0) := F.out.cell 1
  have z2 : w2.frozen? ⟨H, 2, none⟩ = false := F.out.free 2
  have c2 : w2.cell? ⟨H, 2, none⟩ = some (.int .u64 0) := F.out.cell 2
  have z3 : w2.frozen? ⟨H, 3, none⟩ = false := F.out.free 3
  have c3 : w2.cell? ⟨H, 3, none⟩ = some (.int .i64 0) := F.out.cell 3
  have z4 : w2.frozen? ⟨H, 4, none⟩ = false := F.out.free 4
  have c4 : w2.cell? ⟨H, 4, none⟩ = some (.int .u64 0) := F.out.cell 4
  have fl := F.out.lt
  go_wp2
  clear z0 c0 z1 c1 z2 c2 z3 c3 z4 c4
  have hW : (((((w2.setCell ⟨H, 0, none⟩ (.int .i64 1)).setCell ⟨H, 1, none⟩ (.int .i64 3)).setCell ⟨H, 2, none⟩ (.int .u64 0)).setCell ⟨H, 3, none⟩ (.int .i64 n)).setCell ⟨H, 4, none⟩ (.int .u64 0)) = putCells w2 (H) 0 [.int .i64 1, .int .i64 3, .int .u64 0, .int .i64 n, .int .u64 0] := rfl
  rw [hW]
  clear hW
  have F9 := putCells_is (cs := [.int .i64 0, .int .i64 0, .int .u64 0, .int .i64 0, .int .u64 0]) F.out [.int .i64 1, .int .i64 3, .int .u64 0, .int .i64 n, .int .u64 0] rfl
  have k9 := putCells_kp (H) [.int .i64 1, .int .i64 3, .int .u64 0, .int .i64 n, .int .u64 0] w2 0
  refine ret_rt (p := 2) (u := 3) (b := H) Tryd.results6 rfl rfl rfl F9 ?_
  exact ⟨rfl, (Kp.of_below (S := []) B.out).trans k9 (fun j hj => by simp at hj; right; rw [hj, hH.out]; exact Nat.le_refl _) |>.to_below (Nat.le_refl _) (by simp)⟩

set_option maxHeartbeats 2000000 in
set_option maxRecDepth 100000 in
theorem tail_bad (n : Int) (hn : n < 0 ∨ 32 < n) (w : World) : Calls Tryd.prog 6 #[.int .i64 n] w fun e w' => e = .returned (.tuple #[.agg #[.int .i64 0, .int .i64 0, .int .u64 0, .int .i64 0, .int .u64 0], .int .i64 90]) ∧ Below w.heap.size w w' := by
  have F := hide (IsB.new w #[.int .i64 0, .int .i64 0, .int .u64 0, .int .i64 0, .int .u64 0] 29)
  have B := hide (show Below w.heap.size w (w.alloc (.cells #[.int .i64 0, .int .i64 0, .int .u64 0, .int .i64 0, .int .u64 0] 29)) from (Below.refl _ w).alloc (Nat.le_refl _) _)
  go_enter Tryd.func6, Tryd.ntmps6
  go_wp2_with fail
  generalize w.alloc (.cells #[.int .i64 0, .int .i64 0, .int .u64 0, .int .i64 0, .int .u64 0] 29) = W1 at F B ⊢
  generalize hH : w.heap.size = H at F ⊢
  replace hH := hide hH
  refine (endOf_bad 1 3 n hn _).mono ?_; rintro e w2 ⟨rfl, hb⟩
  replace F := hide (F.out.below hb)
  replace B := hide (B.out.trans (hb.mono B.out.size))
  clear hb
  have z0 : w2.frozen? ⟨H, 0, none⟩ = false := F.out.free 0
  have c0 : w2.cell? ⟨H, 0, none⟩ = some (.int .i64 0) := F.out.cell 0
  have z1 : w2.frozen? ⟨H, 1, none⟩ = false := F.out.free 1
  have c1 : w2.cell? ⟨H, 1, none⟩ = some (.int .i64 0) := F.out.cell 1
  have z2 : w2.frozen? ⟨H, 2, none⟩ = false := F.out.free 2
  have c2 : w2.cell? ⟨H, 2, none⟩ = some (.int .u64 0) := F.out.cell 2
  have z3 : w2.frozen? ⟨H, 3, none⟩ = false := F.out.free 3
  have c3 : w2.cell? ⟨H, 3, none⟩ = some (.int .i64 0) := F.out.cell 3
  have z4 : w2.frozen? ⟨H, 4, none⟩ = false := F.out.free 4
  have c4 : w2.cell? ⟨H, 4, none⟩ = some (.int .u64 0) := F.out.cell 4
  have fl := F.out.lt
  go_wp2
  clear z0 c0 z1 c1 z2 c2 z3 c3 z4 c4
  have hW : (((((w2.setCell ⟨H, 0, none⟩ (.int .i64 0)).setCell ⟨H, 1, none⟩ (.int .i64 0)).setCell ⟨H, 2, none⟩ (.int .u64 0)).setCell ⟨H, 3, none⟩ (.int .i64 0)).setCell ⟨H, 4, none⟩ (.int .u64 0)) = putCells w2 (H) 0 [.int .i64 0, .int .i64 0, .int .u64 0, .int .i64 0, .int .u64 0] := rfl
  rw [hW]
  clear hW
  have F9 := putCells_is (cs := [.int .i64 0, .int .i64 0, .int .u64 0, .int .i64 0, .int .u64 0]) F.out [.int .i64 0, .int .i64 0, .int .u64 0, .int .i64 0, .int .u64 0] rfl
  have k9 := putCells_kp (H) [.int .i64 0, .int .i64 0, .int .u64 0, .int .i64 0, .int .u64 0] w2 0
  refine ret_rt (p := 2) (u := 3) (b := H) Tryd.results6 rfl rfl rfl F9 ?_
  exact ⟨rfl, (Kp.of_below (S := []) B.out).trans k9 (fun j hj => by simp at hj; right; rw [hj, hH.out]; exact Nat.le_refl _) |>.to_below (Nat.le_refl _) (by simp)⟩

set_option maxHeartbeats 2000000 in
set_option maxRecDepth 100000 in
theorem wait_any (base p lp lm km : Nat) (va : Option Addr) (vc : Nat) (ma : Option Addr) (mc : Nat) (s : PS) (w : World) (h : PAt w base p lp lm km va vc ma mc s) (hB : base ≤ w.heap.size) (t : Int) (hn0 : 0 ≤ s.n) (hn1 : s.n < 4611686018427387904) : Calls Tryd.prog 48 #[.pointer (some ⟨p, 0, none⟩), .int .i64 t] w fun e w' => e = .returned (.agg #[.int .i64 (s.n + 1), .int .i64 t]) ∧ PAt w' base p lp lm km va vc ma mc { s with n := s.n + 1 } ∧ Kpt km lm w w' ∧ Below base w w' := by
  have hwr : IntKind.i64.wrap (s.n + 1) = s.n + 1 := wrap_small _ (by omega) (by omega)
  have c11 := h.blk.cell 11
  have z11 := h.blk.free 11
  simp at c11
  have hlt := h.blk.lt
  have X := hide (h.setn (s.n + 1))
  have X2 := hide ((h.setn (s.n + 1)).1.blk.cell 11)
  clear h
  generalize hnn : s.n = nn at c11 hwr X X2 ⊢
  replace hnn := hide hnn
  go_enter Tryd.func48, Tryd.ntmps48
  go_wp2
  have I := IsB.new (w.setCell ⟨p, 11, none⟩ (.int .i64 (nn + 1))) #[.int .i64 (nn + 1), .int .i64 t] 116
  rw [World.size_setCell] at I
  refine ret_wt (p := 4) (b := w.heap.size) Tryd.results48 rfl rfl I ?_
  have ba := (Below.refl _ (w.setCell ⟨p, 11, none⟩ (.int .i64 (nn + 1)))).alloc (Nat.le_refl _) (.cells #[.int .i64 (nn + 1), .int .i64 t] 116)
  refine ⟨rfl, X.out.1.below ba, X.out.2.1.trans (Kpt.of_below ba), (X.out.2.2 hB).trans (ba.mono ?_)⟩
  rw [World.size_setCell]
  exact hB

set_option maxHeartbeats 4000000 in
set_option maxRecDepth 100000 in
theorem called_any (base p lp lm km : Nat) (va : Option Addr) (vc : Nat) (ma : Option Addr) (mc : Nat) (s : PS) (w : World) (h : PAt w base p lp lm km va vc ma mc s) (hB : base ≤ w.heap.size) (x y a o : Int) (hv : okC (x, y, a, o)) (tn tk : Int) (hin : ((x, y, a, o), (tn, tk)) ∈ s.K) : Calls Tryd.prog 50 #[.pointer (some ⟨p, 0, none⟩), .agg #[.int .i64 x, .int .u64 y], .agg #[.int .i64 a, .int .i64 o]] w fun e w' => e = .returned (.int .i64 tk) ∧ PAt w' base p lp lm km va vc ma mc { s with K := s.K.filter (fun e => decide (e.1 ≠ (x, y, a, o))) } ∧ Kpt km lm w w' ∧ Below base w w' := by
  have mixed : Tryd.prog.follows .mixedOrders = true := by kernel_rfl
  have hfd : ∀ w', (Instr.field 116 (.agg #[.int .i64 tn, .int .i64 tk]) 1).run Tryd.prog w' = .ok (.int .i64 tk) w' := fun w' => by kernel_rfl
  have hin := hide hin
  have hv := hide hv
  have b3 : Below w.heap.size w (((w.alloc (.cells #[.int .i64 x, .int .u64 y] 27)).alloc (.cells #[.int .i64 a, .int .i64 o] 52)).alloc (.cells #[.int .i64 x, .int .u64 y, .int .i64 a, .int .i64 o] 114)) := (((Below.refl _ w).alloc (Nat.le_refl _) _).alloc (by simp) _).alloc (by simp; omega) _
  have X := hide (h.below b3)
  have C0 := IsB.new ((w.alloc (.cells #[.int .i64 x, .int .u64 y] 27)).alloc (.cells #[.int .i64 a, .int .i64 o] 52)) #[.int .i64 x, .int .u64 y, .int .i64 a, .int .i64 o] 114
  simp only [World.size_alloc] at C0
  have C := hide C0
  have B := hide b3
  clear h b3 C0
  go_enter Tryd.func50, Tryd.ntmps50
  go_wp2_with fail
  generalize ((w.alloc (.cells #[.int .i64 x, .int .u64 y] 27)).alloc (.cells #[.int .i64 a, .int .i64 o] 52)).alloc (.cells #[.int .i64 x, .int .u64 y, .int .i64 a, .int .i64 o] 114) = W1 at X C B ⊢
  generalize hH : w.heap.size = H at C ⊢
  replace hH := hide hH
  refine regionL 8 (fun w' => w'.cell? ⟨p, 9, none⟩ = some (.map (some km)) ∧ w'.cell? ⟨H + 1 + 1, 0, none⟩ = some (.int .i64 x) ∧ w'.cell? ⟨H + 1 + 1, 1, none⟩ = some (.int .u64 y) ∧ w'.cell? ⟨H + 1 + 1, 2, none⟩ = some (.int .i64 a) ∧ w'.cell? ⟨H + 1 + 1, 3, none⟩ = some (.int .i64 o) ∧ WMp w' km s.K) mixed ⟨X.out.blk.cell 9, C.out.cell 0, C.out.cell 1, C.out.cell 2, C.out.cell 3, X.out.kmap⟩ (fun hHeld => ?_)
  refine pickA (v := ?_) 0 (some 12) rfl rfl (by kernel_rfl) (by kernel_rfl) (by kernel_rfl) (by decide) (fun _ _ _ h => h) (by rfl) ?_ (by assumption) ?_
  rotate_left
  · intro w'
    go_simp
    try with_reducible rfl
  try simp only [Act.put, List.setIfInBounds_toArray, List.set_cons_zero, List.set_cons_succ]
  refine pickA (v := ?_) 1 (some 13) rfl rfl (by kernel_rfl) (by kernel_rfl) (by kernel_rfl) (by decide) (fun _ _ _ h => h) (by rfl) ?_ (by assumption) ?_
  rotate_left
  · intro w'
    go_simp
    try with_reducible rfl
  try simp only [Act.put, List.setIfInBounds_toArray, List.set_cons_zero, List.set_cons_succ]
  refine pickA (v := ?_) 2 (some 14) rfl rfl (by kernel_rfl) (by kernel_rfl) (by kernel_rfl) (by decide) (fun _ _ _ h => h) (by rfl) ?_ (by assumption) ?_
  rotate_left
  · intro w'
    go_simp
    try with_reducible rfl
  try simp only [Act.put, List.setIfInBounds_toArray, List.set_cons_zero, List.set_cons_succ]
  refine pickL (v := ?_) 3 (some 15) rfl rfl (by kernel_rfl) (by kernel_rfl) (by kernel_rfl) (by decide) (by kernel_rfl) (by kernel_rfl) (fun _ _ _ h => h) (by rfl) ?_ (by assumption) ?_
  rotate_left
  · intro w' hSw
    obtain ⟨q0, q1, q2, q3, q4, q5⟩ := hSw; have hlk : (Instr.lookup 75 (.map (some km)) (.agg #[.int .i64 x, .int .u64 y, .int .i64 a, .int .i64 o]) false).run Tryd.prog w' = .ok (.agg #[.int .i64 tn, .int .i64 tk]) w' := q5.look_in (x, y, a, o) hv.out (tn, tk) hin.out
    go_simp
    try with_reducible rfl
  try simp only [Act.put, List.setIfInBounds_toArray, List.set_cons_zero, List.set_cons_succ]
  refine pickL (v := ?_) 4 (some 16) rfl rfl (by kernel_rfl) (by kernel_rfl) (by kernel_rfl) (by decide) (by kernel_rfl) (by kernel_rfl) (fun _ _ _ h => h) (by rfl) ?_ (by assumption) ?_
  rotate_left
  · intro w' hSw
    obtain ⟨q0, q1, q2, q3, q4, q5⟩ := hSw; have hlk : (Instr.lookup 75 (.map (some km)) (.agg #[.int .i64 x, .int .u64 y, .int .i64 a, .int .i64 o]) false).run Tryd.prog w' = .ok (.agg #[.int .i64 tn, .int .i64 tk]) w' := q5.look_in (x, y, a, o) hv.out (tn, tk) hin.out
    go_simp
    try with_reducible rfl
  try simp only [Act.put, List.setIfInBounds_toArray, List.set_cons_zero, List.set_cons_succ]
  refine pickL (v := ?_) 5 (some 17) rfl rfl (by kernel_rfl) (by kernel_rfl) (by kernel_rfl) (by decide) (by kernel_rfl) (by kernel_rfl) (fun _ _ _ h => h) (by rfl) ?_ (by assumption) ?_
  rotate_left
  · intro w' hSw
    obtain ⟨q0, q1, q2, q3, q4, q5⟩ := hSw; have hlk : (Instr.lookup 75 (.map (some km)) (.agg #[.int .i64 x, .int .u64 y, .int .i64 a, .int .i64 o]) false).run Tryd.prog w' = .ok (.agg #[.int .i64 tn, .int .i64 tk]) w' := q5.look_in (x, y, a, o) hv.out (tn, tk) hin.out
    go_simp
    try with_reducible rfl
  try simp only [Act.put, List.setIfInBounds_toArray, List.set_cons_zero, List.set_cons_succ]
  refine pickA (v := ?_) 6 (some 18) rfl rfl (by kernel_rfl) (by kernel_rfl) (by kernel_rfl) (by decide) (fun _ _ _ h => h) (by rfl) ?_ (by assumption) ?_
  rotate_left
  · intro w'
    go_simp
    try with_reducible rfl
  try simp only [Act.put, List.setIfInBounds_toArray, List.set_cons_zero, List.set_cons_succ]
  refine pickA (v := ?_) 7 (some 8) rfl rfl (by kernel_rfl) (by kernel_rfl) (by kernel_rfl) (by decide) (fun _ _ _ h => h) (by rfl) ?_ (by assumption) ?_
  rotate_left
  · intro w'
    go_simp
    try with_reducible rfl
  try simp only [Act.put, List.setIfInBounds_toArray, List.set_cons_zero, List.set_cons_succ]
  refine doneL (by kernel_rfl) ?_ _
  clear hHeld
  replace X := hide (X.out.below (Below.refl _ _).drew)
  replace C := hide (C.out.below (Below.refl _ _).drew)
  replace B := hide B.out.drew
  generalize W1.drew = W2 at X C B ⊢
  go_wp2
  have Xd := hide (X.out.below (Below.refl _ _).drew)
  have Cd := hide (C.out.below (Below.refl _ _).drew)
  have Bd := hide B.out.drew
  refine regionL 6 (fun w' => w'.cell? ⟨p, 9, none⟩ = some (.map (some km)) ∧ w'.cell? ⟨H + 1 + 1, 0, none⟩ = some (.int .i64 x) ∧ w'.cell? ⟨H + 1 + 1, 1, none⟩ = some (.int .u64 y) ∧ w'.cell? ⟨H + 1 + 1, 2, none⟩ = some (.int .i64 a) ∧ w'.cell? ⟨H + 1 + 1, 3, none⟩ = some (.int .i64 o)) mixed ⟨Xd.out.blk.cell 9, Cd.out.cell 0, Cd.out.cell 1, Cd.out.cell 2, Cd.out.cell 3⟩ (fun hHeld => ?_)
  refine pickA (v := ?_) 0 (some 19) rfl rfl (by kernel_rfl) (by kernel_rfl) (by kernel_rfl) (by decide) (fun _ _ _ h => h) (by rfl) ?_ (by assumption) ?_
  rotate_left
  · intro w'
    go_simp
    try with_reducible rfl
  try simp only [Act.put, List.setIfInBounds_toArray, List.set_cons_zero, List.set_cons_succ]
  refine pickA (v := ?_) 1 (some 20) rfl rfl (by kernel_rfl) (by kernel_rfl) (by kernel_rfl) (by decide) (fun _ _ _ h => h) (by rfl) ?_ (by assumption) ?_
  rotate_left
  · intro w'
    go_simp
    try with_reducible rfl
  try simp only [Act.put, List.setIfInBounds_toArray, List.set_cons_zero, List.set_cons_succ]
  refine pickA (v := ?_) 2 (some 21) rfl rfl (by kernel_rfl) (by kernel_rfl) (by kernel_rfl) (by decide) (fun _ _ _ h => h) (by rfl) ?_ (by assumption) ?_
  rotate_left
  · intro w'
    go_simp
    try with_reducible rfl
  try simp only [Act.put, List.setIfInBounds_toArray, List.set_cons_zero, List.set_cons_succ]
  refine pickL (v := ?_) 3 (some 22) rfl rfl (by kernel_rfl) (by kernel_rfl) (by kernel_rfl) (by decide) (by kernel_rfl) (by kernel_rfl) (fun _ _ _ h => h) (by rfl) ?_ (by assumption) ?_
  rotate_left
  · intro w' hSw
    obtain ⟨q0, q1, q2, q3, q4⟩ := hSw
    go_simp
    try with_reducible rfl
  try simp only [Act.put, List.setIfInBounds_toArray, List.set_cons_zero, List.set_cons_succ]
  refine pickL (v := ?_) 4 (some 23) rfl rfl (by kernel_rfl) (by kernel_rfl) (by kernel_rfl) (by decide) (by kernel_rfl) (by kernel_rfl) (fun _ _ _ h => h) (by rfl) ?_ (by assumption) ?_
  rotate_left
  · intro w' hSw
    obtain ⟨q0, q1, q2, q3, q4⟩ := hSw
    go_simp
    try with_reducible rfl
  try simp only [Act.put, List.setIfInBounds_toArray, List.set_cons_zero, List.set_cons_succ]
  refine oneL (i := 5) (by kernel_rfl) rfl (fun K hK => ?_)
  obtain ⟨w9, hrun, hm9, hg9⟩ := Xd.out.kmap.drop (x, y, a, o) hv.out 0
  have hrun2 : (Builtin.delete_ #[75, 114] 0 #[.map (some km), .agg #[.int .i64 x, .int .u64 y, .int .i64 a, .int .i64 o]]).run Tryd.prog W2.drew = .ok (.tuple #[]) w9 := hrun
  have K9 := kp_of_grown hg9
  go_simp
  have X9 := hide (Xd.out.tomap K9 hm9)
  have C9 := hide (Cd.out.kp K9 (by simp; exact Xd.out.kmap.off Cd.out))
  clear hrun hrun2 hm9 hg9 K9
  refine hK.out _ _ ?_ ?_
  · exact ⟨X9.out.1.blk.cell 9, C9.out.cell 0, C9.out.cell 1, C9.out.cell 2, C9.out.cell 3⟩
  clear hK K
  try simp only [Act.put, List.setIfInBounds_toArray, List.set_cons_zero, List.set_cons_succ]
  clear hHeld
  have hHeld : (fun w' => w'.cell? ⟨p, 9, none⟩ = some (.map (some km)) ∧ w'.cell? ⟨H + 1 + 1, 0, none⟩ = some (.int .i64 x) ∧ w'.cell? ⟨H + 1 + 1, 1, none⟩ = some (.int .u64 y) ∧ w'.cell? ⟨H + 1 + 1, 2, none⟩ = some (.int .i64 a) ∧ w'.cell? ⟨H + 1 + 1, 3, none⟩ = some (.int .i64 o)) w9 := ⟨X9.out.1.blk.cell 9, C9.out.cell 0, C9.out.cell 1, C9.out.cell 2, C9.out.cell 3⟩
  refine doneL (by kernel_rfl) ?_ _
  clear hHeld
  go_wp2
  go_ret
  have hsz : w.heap.size ≤ W2.drew.heap.size := Bd.out.size
  refine ⟨rfl, X9.out.1, (Kpt.of_below Bd.out).trans X9.out.2.1, (Bd.out.mono hB).trans (X9.out.2.2 (by omega))⟩

end Go.Proofs.YtdogdinkopocaaaDoor
