/- Package msg: the parts that an ask of a kind has; an ask without them. -/
import Derived.Test.YtdogdinkopocaaaDoorPK
import Derived.Test.YtdogdinkopocaaaDoorKLD
namespace Go.Proofs.YtdogdinkopocaaaDoor
open Go.RowKit Go.Maps

theorem ap_info : (Tryd.prog.info? 81).map (·.size) = some 4 := by kernel_rfl
theorem ask_info : (Tryd.prog.info? 58).map (·.size) = some 15 := by kernel_rfl
theorem load_ask {w : World} {b : Nat} {cs : Array Value} (I : IsB w b cs 58) (hs : cs.size = 15) : (Instr.loadAt 58 (.pointer (some ⟨b, 0, none⟩))).run Tryd.prog w = .ok (.agg cs) w := by
  have h := run_loadVar_row (P := Tryd.prog) w b 58 58 cs (0, 0) _ I Tryd.underlying58 rfl (by rw [hs]; exact ask_info)
  simp only [Instr.loadAt, Instr.sureAddr, Sem.run_bind, Sem.run_pure, Result.andThen_ok, h]
theorem ret_ap {fn : Func} {p u : Tmp} (hf : fn.results = #[.cell p 81, .tmp u]) {Q : Ending → World → Prop} {tmps : Array Value} {w : World} {b : Nat} {cs : Array Value} {v : Value} (hs : cs.size = 4)
    (hp : tmps.getD p undef = .pointer (some ⟨b, 0, none⟩)) (hu : tmps.getD u undef = v) (I : IsB w b cs 81) (hQ : Q (.returned (.tuple #[.agg cs, v])) w) :
    bodyPost Tryd.prog fn Q .ret ⟨tmps, []⟩ w := by
  refine bodyPost_ret ?_ rfl hQ
  rw [results_cell_tmp hf, hp, hu]
  have h := run_loadVar_row (P := Tryd.prog) w b 81 81 cs (0, 0) _ I Tryd.underlying81 rfl (by rw [hs]; exact ap_info)
  simp [asAddr, h, Result.andThen]
theorem ret_ask {fn : Func} {p : Tmp} (hf : fn.results = #[.cell p 58]) {Q : Ending → World → Prop} {tmps : Array Value} {w : World} {b : Nat} {cs : Array Value} (hs : cs.size = 15)
    (hp : tmps.getD p undef = .pointer (some ⟨b, 0, none⟩)) (I : IsB w b cs 58) (hQ : Q (.returned (.agg cs)) w) :
    bodyPost Tryd.prog fn Q .ret ⟨tmps, []⟩ w :=
  bodyPost_ret (results_cell_row hf tmps w b 58 cs (0, 0) _ hp I Tryd.underlying58 rfl (by rw [hs]; exact ask_info)) rfl hQ

set_option maxHeartbeats 2000000 in
set_option maxRecDepth 100000 in
theorem parts_1 (k : Int) (hk : k = 1) (w : World) : Calls Tryd.prog 25 #[.int .i64 k] w fun e w' => e = .returned (.tuple #[.agg #[.bool true, .bool false, .bool false, .bool false], .bool true]) ∧ Below w.heap.size w w' := by
  subst hk
  go_enter Tryd.func25, Tryd.ntmps25
  go_wp2
  refine ret_ap (p := 2) (u := 3) (b := w.heap.size) Tryd.results25 rfl rfl rfl (IsB.new w #[.bool true, .bool false, .bool false, .bool false] 81) ?_
  exact ⟨rfl, (Below.refl _ w).alloc (Nat.le_refl _) _⟩

set_option maxHeartbeats 2000000 in
set_option maxRecDepth 100000 in
theorem parts_2 (k : Int) (hk : k = 2 ∨ k = 9 ∨ k = 10) (w : World) : Calls Tryd.prog 25 #[.int .i64 k] w fun e w' => e = .returned (.tuple #[.agg #[.bool false, .bool false, .bool false, .bool false], .bool true]) ∧ Below w.heap.size w w' := by
  rcases hk with rfl | rfl | rfl
  · go_enter Tryd.func25, Tryd.ntmps25
    go_wp2
    refine ret_ap (p := 2) (u := 3) (b := w.heap.size) Tryd.results25 rfl rfl rfl (IsB.new w #[.bool false, .bool false, .bool false, .bool false] 81) ?_
    exact ⟨rfl, (Below.refl _ w).alloc (Nat.le_refl _) _⟩
  · go_enter Tryd.func25, Tryd.ntmps25
    go_wp2
    refine ret_ap (p := 2) (u := 3) (b := w.heap.size) Tryd.results25 rfl rfl rfl (IsB.new w #[.bool false, .bool false, .bool false, .bool false] 81) ?_
    exact ⟨rfl, (Below.refl _ w).alloc (Nat.le_refl _) _⟩
  · go_enter Tryd.func25, Tryd.ntmps25
    go_wp2
    refine ret_ap (p := 2) (u := 3) (b := w.heap.size) Tryd.results25 rfl rfl rfl (IsB.new w #[.bool false, .bool false, .bool false, .bool false] 81) ?_
    exact ⟨rfl, (Below.refl _ w).alloc (Nat.le_refl _) _⟩

set_option maxHeartbeats 2000000 in
set_option maxRecDepth 100000 in
theorem parts_3 (k : Int) (hk : k = 3 ∨ k = 4 ∨ k = 8) (w : World) : Calls Tryd.prog 25 #[.int .i64 k] w fun e w' => e = .returned (.tuple #[.agg #[.bool true, .bool false, .bool false, .bool true], .bool true]) ∧ Below w.heap.size w w' := by
  rcases hk with rfl | rfl | rfl
  · go_enter Tryd.func25, Tryd.ntmps25
    go_wp2
    refine ret_ap (p := 2) (u := 3) (b := w.heap.size) Tryd.results25 rfl rfl rfl (IsB.new w #[.bool true, .bool false, .bool false, .bool true] 81) ?_
    exact ⟨rfl, (Below.refl _ w).alloc (Nat.le_refl _) _⟩
  · go_enter Tryd.func25, Tryd.ntmps25
    go_wp2
    refine ret_ap (p := 2) (u := 3) (b := w.heap.size) Tryd.results25 rfl rfl rfl (IsB.new w #[.bool true, .bool false, .bool false, .bool true] 81) ?_
    exact ⟨rfl, (Below.refl _ w).alloc (Nat.le_refl _) _⟩
  · go_enter Tryd.func25, Tryd.ntmps25
    go_wp2
    refine ret_ap (p := 2) (u := 3) (b := w.heap.size) Tryd.results25 rfl rfl rfl (IsB.new w #[.bool true, .bool false, .bool false, .bool true] 81) ?_
    exact ⟨rfl, (Below.refl _ w).alloc (Nat.le_refl _) _⟩

set_option maxHeartbeats 2000000 in
set_option maxRecDepth 100000 in
theorem parts_5 (k : Int) (hk : k = 5) (w : World) : Calls Tryd.prog 25 #[.int .i64 k] w fun e w' => e = .returned (.tuple #[.agg #[.bool true, .bool true, .bool false, .bool true], .bool true]) ∧ Below w.heap.size w w' := by
  subst hk
  go_enter Tryd.func25, Tryd.ntmps25
  go_wp2
  refine ret_ap (p := 2) (u := 3) (b := w.heap.size) Tryd.results25 rfl rfl rfl (IsB.new w #[.bool true, .bool true, .bool false, .bool true] 81) ?_
  exact ⟨rfl, (Below.refl _ w).alloc (Nat.le_refl _) _⟩

set_option maxHeartbeats 2000000 in
set_option maxRecDepth 100000 in
theorem parts_6 (k : Int) (hk : k = 6) (w : World) : Calls Tryd.prog 25 #[.int .i64 k] w fun e w' => e = .returned (.tuple #[.agg #[.bool true, .bool true, .bool false, .bool false], .bool true]) ∧ Below w.heap.size w w' := by
  subst hk
  go_enter Tryd.func25, Tryd.ntmps25
  go_wp2
  refine ret_ap (p := 2) (u := 3) (b := w.heap.size) Tryd.results25 rfl rfl rfl (IsB.new w #[.bool true, .bool true, .bool false, .bool false] 81) ?_
  exact ⟨rfl, (Below.refl _ w).alloc (Nat.le_refl _) _⟩

set_option maxHeartbeats 2000000 in
set_option maxRecDepth 100000 in
theorem parts_7 (k : Int) (hk : k = 7) (w : World) : Calls Tryd.prog 25 #[.int .i64 k] w fun e w' => e = .returned (.tuple #[.agg #[.bool true, .bool true, .bool true, .bool true], .bool true]) ∧ Below w.heap.size w w' := by
  subst hk
  go_enter Tryd.func25, Tryd.ntmps25
  go_wp2
  refine ret_ap (p := 2) (u := 3) (b := w.heap.size) Tryd.results25 rfl rfl rfl (IsB.new w #[.bool true, .bool true, .bool true, .bool true] 81) ?_
  exact ⟨rfl, (Below.refl _ w).alloc (Nat.le_refl _) _⟩

set_option maxHeartbeats 2000000 in
set_option maxRecDepth 100000 in
theorem parts_no (k : Int) (hk : k ≠ 1 ∧ k ≠ 2 ∧ k ≠ 3 ∧ k ≠ 4 ∧ k ≠ 5 ∧ k ≠ 6 ∧ k ≠ 7 ∧ k ≠ 8 ∧ k ≠ 9 ∧ k ≠ 10) (w : World) : Calls Tryd.prog 25 #[.int .i64 k] w fun e w' => e = .returned (.tuple #[.agg #[.bool false, .bool false, .bool false, .bool false], .bool false]) ∧ Below w.heap.size w w' := by
  obtain ⟨g1, g2, g3, g4, g5, g6, g7, g8, g9, g10⟩ := hk
  have h1 : (k == 1) = false := by simpa using g1
  have h2 : (k == 2) = false := by simpa using g2
  have h3 : (k == 3) = false := by simpa using g3
  have h4 : (k == 4) = false := by simpa using g4
  have h5 : (k == 5) = false := by simpa using g5
  have h6 : (k == 6) = false := by simpa using g6
  have h7 : (k == 7) = false := by simpa using g7
  have h8 : (k == 8) = false := by simpa using g8
  have h9 : (k == 9) = false := by simpa using g9
  have h10 : (k == 10) = false := by simpa using g10
  go_enter Tryd.func25, Tryd.ntmps25
  go_wp2
  refine ret_ap (p := 2) (u := 3) (b := w.heap.size) Tryd.results25 rfl rfl rfl (IsB.new w #[.bool false, .bool false, .bool false, .bool false] 81) ?_
  exact ⟨rfl, (Below.refl _ w).alloc (Nat.le_refl _) _⟩

set_option maxHeartbeats 4000000 in
set_option maxRecDepth 100000 in
theorem strange_1 (k x y r0 r1 r2 r3 r4 s0 s1 s2 s3 s4 a o : Int) (w : World) : Calls Tryd.prog 27 #[.agg #[.int .i64 k, .int .i64 x, .int .u64 y, .int .i64 r0, .int .i64 r1, .int .u64 r2, .int .i64 r3, .int .u64 r4, .int .i64 s0, .int .i64 s1, .int .u64 s2, .int .i64 s3, .int .u64 s4, .int .i64 a, .int .i64 o], .agg #[.bool true, .bool false, .bool false, .bool false]] w fun e w' => e = .returned (.agg #[.int .i64 0, .int .i64 0, .int .u64 0, .int .i64 r0, .int .i64 r1, .int .u64 r2, .int .i64 r3, .int .u64 r4, .int .i64 s0, .int .i64 s1, .int .u64 s2, .int .i64 s3, .int .u64 s4, .int .i64 a, .int .i64 o]) ∧ Below w.heap.size w w' := by
  have ld := hide (load_ask (((IsB.new w #[.int .i64 0, .int .i64 0, .int .u64 0, .int .i64 r0, .int .i64 r1, .int .u64 r2, .int .i64 r3, .int .u64 r4, .int .i64 s0, .int .i64 s1, .int .u64 s2, .int .i64 s3, .int .u64 s4, .int .i64 a, .int .i64 o] 58).alloc (.cells #[.bool true, .bool false, .bool false, .bool false] 81)).alloc (.cells #[.int .i64 0, .int .i64 0, .int .u64 0, .int .i64 0, .int .i64 0, .int .u64 0, .int .i64 0, .int .u64 0, .int .i64 0, .int .i64 0, .int .u64 0, .int .i64 0, .int .u64 0, .int .i64 0, .int .i64 0] 58)) rfl)
  go_enter Tryd.func27, Tryd.ntmps27
  go_wp2_with (first | (refine wpList_load_w rfl 58 (.tmp 2) rfl rfl ld.out ?_))
  have I := IsB.new ((w.alloc (.cells #[.int .i64 0, .int .i64 0, .int .u64 0, .int .i64 r0, .int .i64 r1, .int .u64 r2, .int .i64 r3, .int .u64 r4, .int .i64 s0, .int .i64 s1, .int .u64 s2, .int .i64 s3, .int .u64 s4, .int .i64 a, .int .i64 o] 58)).alloc (.cells #[.bool true, .bool false, .bool false, .bool false] 81)) #[.int .i64 0, .int .i64 0, .int .u64 0, .int .i64 r0, .int .i64 r1, .int .u64 r2, .int .i64 r3, .int .u64 r4, .int .i64 s0, .int .i64 s1, .int .u64 s2, .int .i64 s3, .int .u64 s4, .int .i64 a, .int .i64 o] 58
  simp only [World.size_alloc] at I
  refine ret_ask (p := 4) (b := w.heap.size + 1 + 1) Tryd.results27 rfl rfl I ?_
  exact ⟨rfl, (((Below.refl _ w).alloc (Nat.le_refl _) _).alloc (by simp) _).alloc (by simp; omega) _⟩

set_option maxHeartbeats 4000000 in
set_option maxRecDepth 100000 in
theorem strange_2 (k x y r0 r1 r2 r3 r4 s0 s1 s2 s3 s4 a o : Int) (w : World) : Calls Tryd.prog 27 #[.agg #[.int .i64 k, .int .i64 x, .int .u64 y, .int .i64 r0, .int .i64 r1, .int .u64 r2, .int .i64 r3, .int .u64 r4, .int .i64 s0, .int .i64 s1, .int .u64 s2, .int .i64 s3, .int .u64 s4, .int .i64 a, .int .i64 o], .agg #[.bool false, .bool false, .bool false, .bool false]] w fun e w' => e = .returned (.agg #[.int .i64 0, .int .i64 x, .int .u64 y, .int .i64 r0, .int .i64 r1, .int .u64 r2, .int .i64 r3, .int .u64 r4, .int .i64 s0, .int .i64 s1, .int .u64 s2, .int .i64 s3, .int .u64 s4, .int .i64 a, .int .i64 o]) ∧ Below w.heap.size w w' := by
  have ld := hide (load_ask (((IsB.new w #[.int .i64 0, .int .i64 x, .int .u64 y, .int .i64 r0, .int .i64 r1, .int .u64 r2, .int .i64 r3, .int .u64 r4, .int .i64 s0, .int .i64 s1, .int .u64 s2, .int .i64 s3, .int .u64 s4, .int .i64 a, .int .i64 o] 58).alloc (.cells #[.bool false, .bool false, .bool false, .bool false] 81)).alloc (.cells #[.int .i64 0, .int .i64 0, .int .u64 0, .int .i64 0, .int .i64 0, .int .u64 0, .int .i64 0, .int .u64 0, .int .i64 0, .int .i64 0, .int .u64 0, .int .i64 0, .int .u64 0, .int .i64 0, .int .i64 0] 58)) rfl)
  go_enter Tryd.func27, Tryd.ntmps27
  go_wp2_with (first | (refine wpList_load_w rfl 58 (.tmp 2) rfl rfl ld.out ?_))
  have I := IsB.new ((w.alloc (.cells #[.int .i64 0, .int .i64 x, .int .u64 y, .int .i64 r0, .int .i64 r1, .int .u64 r2, .int .i64 r3, .int .u64 r4, .int .i64 s0, .int .i64 s1, .int .u64 s2, .int .i64 s3, .int .u64 s4, .int .i64 a, .int .i64 o] 58)).alloc (.cells #[.bool false, .bool false, .bool false, .bool false] 81)) #[.int .i64 0, .int .i64 x, .int .u64 y, .int .i64 r0, .int .i64 r1, .int .u64 r2, .int .i64 r3, .int .u64 r4, .int .i64 s0, .int .i64 s1, .int .u64 s2, .int .i64 s3, .int .u64 s4, .int .i64 a, .int .i64 o] 58
  simp only [World.size_alloc] at I
  refine ret_ask (p := 4) (b := w.heap.size + 1 + 1) Tryd.results27 rfl rfl I ?_
  exact ⟨rfl, (((Below.refl _ w).alloc (Nat.le_refl _) _).alloc (by simp) _).alloc (by simp; omega) _⟩

set_option maxHeartbeats 4000000 in
set_option maxRecDepth 100000 in
theorem strange_3 (k x y r0 r1 r2 r3 r4 s0 s1 s2 s3 s4 a o : Int) (w : World) : Calls Tryd.prog 27 #[.agg #[.int .i64 k, .int .i64 x, .int .u64 y, .int .i64 r0, .int .i64 r1, .int .u64 r2, .int .i64 r3, .int .u64 r4, .int .i64 s0, .int .i64 s1, .int .u64 s2, .int .i64 s3, .int .u64 s4, .int .i64 a, .int .i64 o], .agg #[.bool true, .bool false, .bool false, .bool true]] w fun e w' => e = .returned (.agg #[.int .i64 0, .int .i64 0, .int .u64 0, .int .i64 r0, .int .i64 r1, .int .u64 r2, .int .i64 r3, .int .u64 r4, .int .i64 s0, .int .i64 s1, .int .u64 s2, .int .i64 s3, .int .u64 s4, .int .i64 0, .int .i64 0]) ∧ Below w.heap.size w w' := by
  have ld := hide (load_ask (((IsB.new w #[.int .i64 0, .int .i64 0, .int .u64 0, .int .i64 r0, .int .i64 r1, .int .u64 r2, .int .i64 r3, .int .u64 r4, .int .i64 s0, .int .i64 s1, .int .u64 s2, .int .i64 s3, .int .u64 s4, .int .i64 0, .int .i64 0] 58).alloc (.cells #[.bool true, .bool false, .bool false, .bool true] 81)).alloc (.cells #[.int .i64 0, .int .i64 0, .int .u64 0, .int .i64 0, .int .i64 0, .int .u64 0, .int .i64 0, .int .u64 0, .int .i64 0, .int .i64 0, .int .u64 0, .int .i64 0, .int .u64 0, .int .i64 0, .int .i64 0] 58)) rfl)
  go_enter Tryd.func27, Tryd.ntmps27
  go_wp2_with (first | (refine wpList_load_w rfl 58 (.tmp 2) rfl rfl ld.out ?_))
  have I := IsB.new ((w.alloc (.cells #[.int .i64 0, .int .i64 0, .int .u64 0, .int .i64 r0, .int .i64 r1, .int .u64 r2, .int .i64 r3, .int .u64 r4, .int .i64 s0, .int .i64 s1, .int .u64 s2, .int .i64 s3, .int .u64 s4, .int .i64 0, .int .i64 0] 58)).alloc (.cells #[.bool true, .bool false, .bool false, .bool true] 81)) #[.int .i64 0, .int .i64 0, .int .u64 0, .int .i64 r0, .int .i64 r1, .int .u64 r2, .int .i64 r3, .int .u64 r4, .int .i64 s0, .int .i64 s1, .int .u64 s2, .int .i64 s3, .int .u64 s4, .int .i64 0, .int .i64 0] 58
  simp only [World.size_alloc] at I
  refine ret_ask (p := 4) (b := w.heap.size + 1 + 1) Tryd.results27 rfl rfl I ?_
  exact ⟨rfl, (((Below.refl _ w).alloc (Nat.le_refl _) _).alloc (by simp) _).alloc (by simp; omega) _⟩

set_option maxHeartbeats 4000000 in
set_option maxRecDepth 100000 in
theorem strange_5 (k x y r0 r1 r2 r3 r4 s0 s1 s2 s3 s4 a o : Int) (w : World) : Calls Tryd.prog 27 #[.agg #[.int .i64 k, .int .i64 x, .int .u64 y, .int .i64 r0, .int .i64 r1, .int .u64 r2, .int .i64 r3, .int .u64 r4, .int .i64 s0, .int .i64 s1, .int .u64 s2, .int .i64 s3, .int .u64 s4, .int .i64 a, .int .i64 o], .agg #[.bool true, .bool true, .bool false, .bool true]] w fun e w' => e = .returned (.agg #[.int .i64 0, .int .i64 0, .int .u64 0, .int .i64 0, .int .i64 0, .int .u64 0, .int .i64 0, .int .u64 0, .int .i64 s0, .int .i64 s1, .int .u64 s2, .int .i64 s3, .int .u64 s4, .int .i64 0, .int .i64 0]) ∧ Below w.heap.size w w' := by
  have ld := hide (load_ask (((IsB.new w #[.int .i64 0, .int .i64 0, .int .u64 0, .int .i64 0, .int .i64 0, .int .u64 0, .int .i64 0, .int .u64 0, .int .i64 s0, .int .i64 s1, .int .u64 s2, .int .i64 s3, .int .u64 s4, .int .i64 0, .int .i64 0] 58).alloc (.cells #[.bool true, .bool true, .bool false, .bool true] 81)).alloc (.cells #[.int .i64 0, .int .i64 0, .int .u64 0, .int .i64 0, .int .i64 0, .int .u64 0, .int .i64 0, .int .u64 0, .int .i64 0, .int .i64 0, .int .u64 0, .int .i64 0, .int .u64 0, .int .i64 0, .int .i64 0] 58)) rfl)
  go_enter Tryd.func27, Tryd.ntmps27
  go_wp2_with (first | (refine wpList_load_w rfl 58 (.tmp 2) rfl rfl ld.out ?_))
  have I := IsB.new ((w.alloc (.cells #[.int .i64 0, .int .i64 0, .int .u64 0, .int .i64 0, .int .i64 0, .int .u64 0, .int .i64 0, .int .u64 0, .int .i64 s0, .int .i64 s1, .int .u64 s2, .int .i64 s3, .int .u64 s4, .int .i64 0, .int .i64 0] 58)).alloc (.cells #[.bool true, .bool true, .bool false, .bool true] 81)) #[.int .i64 0, .int .i64 0, .int .u64 0, .int .i64 0, .int .i64 0, .int .u64 0, .int .i64 0, .int .u64 0, .int .i64 s0, .int .i64 s1, .int .u64 s2, .int .i64 s3, .int .u64 s4, .int .i64 0, .int .i64 0] 58
  simp only [World.size_alloc] at I
  refine ret_ask (p := 4) (b := w.heap.size + 1 + 1) Tryd.results27 rfl rfl I ?_
  exact ⟨rfl, (((Below.refl _ w).alloc (Nat.le_refl _) _).alloc (by simp) _).alloc (by simp; omega) _⟩

set_option maxHeartbeats 4000000 in
set_option maxRecDepth 100000 in
theorem strange_6 (k x y r0 r1 r2 r3 r4 s0 s1 s2 s3 s4 a o : Int) (w : World) : Calls Tryd.prog 27 #[.agg #[.int .i64 k, .int .i64 x, .int .u64 y, .int .i64 r0, .int .i64 r1, .int .u64 r2, .int .i64 r3, .int .u64 r4, .int .i64 s0, .int .i64 s1, .int .u64 s2, .int .i64 s3, .int .u64 s4, .int .i64 a, .int .i64 o], .agg #[.bool true, .bool true, .bool false, .bool false]] w fun e w' => e = .returned (.agg #[.int .i64 0, .int .i64 0, .int .u64 0, .int .i64 0, .int .i64 0, .int .u64 0, .int .i64 0, .int .u64 0, .int .i64 s0, .int .i64 s1, .int .u64 s2, .int .i64 s3, .int .u64 s4, .int .i64 a, .int .i64 o]) ∧ Below w.heap.size w w' := by
  have ld := hide (load_ask (((IsB.new w #[.int .i64 0, .int .i64 0, .int .u64 0, .int .i64 0, .int .i64 0, .int .u64 0, .int .i64 0, .int .u64 0, .int .i64 s0, .int .i64 s1, .int .u64 s2, .int .i64 s3, .int .u64 s4, .int .i64 a, .int .i64 o] 58).alloc (.cells #[.bool true, .bool true, .bool false, .bool false] 81)).alloc (.cells #[.int .i64 0, .int .i64 0, .int .u64 0, .int .i64 0, .int .i64 0, .int .u64 0, .int .i64 0, .int .u64 0, .int .i64 0, .int .i64 0, .int .u64 0, .int .i64 0, .int .u64 0, .int .i64 0, .int .i64 0] 58)) rfl)
  go_enter Tryd.func27, Tryd.ntmps27
  go_wp2_with (first | (refine wpList_load_w rfl 58 (.tmp 2) rfl rfl ld.out ?_))
  have I := IsB.new ((w.alloc (.cells #[.int .i64 0, .int .i64 0, .int .u64 0, .int .i64 0, .int .i64 0, .int .u64 0, .int .i64 0, .int .u64 0, .int .i64 s0, .int .i64 s1, .int .u64 s2, .int .i64 s3, .int .u64 s4, .int .i64 a, .int .i64 o] 58)).alloc (.cells #[.bool true, .bool true, .bool false, .bool false] 81)) #[.int .i64 0, .int .i64 0, .int .u64 0, .int .i64 0, .int .i64 0, .int .u64 0, .int .i64 0, .int .u64 0, .int .i64 s0, .int .i64 s1, .int .u64 s2, .int .i64 s3, .int .u64 s4, .int .i64 a, .int .i64 o] 58
  simp only [World.size_alloc] at I
  refine ret_ask (p := 4) (b := w.heap.size + 1 + 1) Tryd.results27 rfl rfl I ?_
  exact ⟨rfl, (((Below.refl _ w).alloc (Nat.le_refl _) _).alloc (by simp) _).alloc (by simp; omega) _⟩

set_option maxHeartbeats 4000000 in
set_option maxRecDepth 100000 in
theorem strange_7 (k x y r0 r1 r2 r3 r4 s0 s1 s2 s3 s4 a o : Int) (w : World) : Calls Tryd.prog 27 #[.agg #[.int .i64 k, .int .i64 x, .int .u64 y, .int .i64 r0, .int .i64 r1, .int .u64 r2, .int .i64 r3, .int .u64 r4, .int .i64 s0, .int .i64 s1, .int .u64 s2, .int .i64 s3, .int .u64 s4, .int .i64 a, .int .i64 o], .agg #[.bool true, .bool true, .bool true, .bool true]] w fun e w' => e = .returned (.agg #[.int .i64 0, .int .i64 0, .int .u64 0, .int .i64 0, .int .i64 0, .int .u64 0, .int .i64 0, .int .u64 0, .int .i64 0, .int .i64 0, .int .u64 0, .int .i64 0, .int .u64 0, .int .i64 0, .int .i64 0]) ∧ Below w.heap.size w w' := by
  have ld := hide (load_ask (((IsB.new w #[.int .i64 0, .int .i64 0, .int .u64 0, .int .i64 0, .int .i64 0, .int .u64 0, .int .i64 0, .int .u64 0, .int .i64 0, .int .i64 0, .int .u64 0, .int .i64 0, .int .u64 0, .int .i64 0, .int .i64 0] 58).alloc (.cells #[.bool true, .bool true, .bool true, .bool true] 81)).alloc (.cells #[.int .i64 0, .int .i64 0, .int .u64 0, .int .i64 0, .int .i64 0, .int .u64 0, .int .i64 0, .int .u64 0, .int .i64 0, .int .i64 0, .int .u64 0, .int .i64 0, .int .u64 0, .int .i64 0, .int .i64 0] 58)) rfl)
  go_enter Tryd.func27, Tryd.ntmps27
  go_wp2_with (first | (refine wpList_load_w rfl 58 (.tmp 2) rfl rfl ld.out ?_))
  have I := IsB.new ((w.alloc (.cells #[.int .i64 0, .int .i64 0, .int .u64 0, .int .i64 0, .int .i64 0, .int .u64 0, .int .i64 0, .int .u64 0, .int .i64 0, .int .i64 0, .int .u64 0, .int .i64 0, .int .u64 0, .int .i64 0, .int .i64 0] 58)).alloc (.cells #[.bool true, .bool true, .bool true, .bool true] 81)) #[.int .i64 0, .int .i64 0, .int .u64 0, .int .i64 0, .int .i64 0, .int .u64 0, .int .i64 0, .int .u64 0, .int .i64 0, .int .i64 0, .int .u64 0, .int .i64 0, .int .u64 0, .int .i64 0, .int .i64 0] 58
  simp only [World.size_alloc] at I
  refine ret_ask (p := 4) (b := w.heap.size + 1 + 1) Tryd.results27 rfl rfl I ?_
  exact ⟨rfl, (((Below.refl _ w).alloc (Nat.le_refl _) _).alloc (by simp) _).alloc (by simp; omega) _⟩

set_option maxHeartbeats 400000 in
set_option maxRecDepth 100000 in
theorem allowed_yes (w : World) : Calls Tryd.prog 26 #[.bool true] w fun e w' => e = .returned (.int .i64 0) ∧ w' = w := by
  go_enter Tryd.func26, Tryd.ntmps26
  go_wp2
  go_ret
  exact ⟨rfl, rfl⟩

set_option maxHeartbeats 400000 in
set_option maxRecDepth 100000 in
theorem allowed_no (w : World) : Calls Tryd.prog 26 #[.bool false] w fun e w' => e = .returned (.int .i64 40) ∧ w' = w := by
  go_enter Tryd.func26, Tryd.ntmps26
  go_wp2
  go_ret
  exact ⟨rfl, rfl⟩

end Go.Proofs.YtdogdinkopocaaaDoor
