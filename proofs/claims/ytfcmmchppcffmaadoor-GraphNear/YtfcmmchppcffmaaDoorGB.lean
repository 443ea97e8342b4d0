/- The ends; package graph: names, may, beside. -/
import Derived.Test.YtfcmmchppcffmaaDoorGA
namespace Go.Proofs.YtfcmmchppcffmaaDoor
open Go.RowKit Go.Maps

/-- The world behind the writing of cells, one behind the other. -/
def putCells (w : World) (b : Nat) : Nat → List Value → World
  | _, [] => w
  | j, v :: vs => putCells (w.setCell ⟨b, j, none⟩ v) b (j + 1) vs
theorem IsB.setj {w : World} {b : Nat} {cs : Array Value} {t : TypeId} (h : IsB w b cs t) (j : Nat) (v : Value) : IsB (w.setCell ⟨b, j, none⟩ v) b (cs.setIfInBounds j v) t := by
  unfold IsB at *
  rw [Sort.setCell_eq]
  simp only [Sort.mapBlock, Array.getElem?_modify, if_true, h, Option.map_some, Sort.onCells]
theorem putCells_at {b : Nat} {t : TypeId} (vs : List Value) : ∀ (w : World) (j : Nat) (pre : List Value) (cs : List Value), IsB w b cs.toArray t → cs.length = j + vs.length → cs.take j = pre → pre.length = j → IsB (putCells w b j vs) b (pre ++ vs).toArray t := by
  induction vs with
  | nil =>
    intro w j pre cs h hl hp hpl
    have : cs = pre := by rw [← hp, List.take_of_length_le (by simp at hl; omega)]
    unfold putCells
    rw [List.append_nil, ← this]; exact h
  | cons v vs ih =>
    intro w j pre cs h hl hp hpl
    unfold putCells
    have h2 := h.setj j v
    rw [List.setIfInBounds_toArray] at h2
    have := ih _ (j + 1) (pre ++ [v]) (cs.set j v) h2 (by simp at hl ⊢; omega) (by
      rw [List.take_succ_eq_append_getElem (by simp at hl ⊢; omega), List.take_set_of_le (Nat.le_refl _), hp]
      simp) (by simp [hpl])
    rw [List.append_assoc] at this
    exact this
theorem putCells_is {w : World} {b : Nat} {t : TypeId} {cs : List Value} (h : IsB w b cs.toArray t) (vs : List Value) (hl : cs.length = vs.length) : IsB (putCells w b 0 vs) b vs.toArray t := by
  have := putCells_at vs w 0 [] cs h (by omega) rfl rfl
  exact this
theorem putCells_other {b c : Nat} {cs : Array Value} {t : TypeId} (hne : c ≠ b) (vs : List Value) : ∀ (w : World) (j : Nat), IsB w c cs t → IsB (putCells w b j vs) c cs t := by
  induction vs with
  | nil => intro w j h; exact h
  | cons v vs ih => intro w j h; exact ih _ (j + 1) (h.setOther (a := ⟨b, j, none⟩) hne v)
theorem putCells_kp (b : Nat) (vs : List Value) : ∀ (w : World) (j : Nat), Kp [b] w (putCells w b j vs) := by
  induction vs with
  | nil => intro w j; exact Kp.refl _ _
  | cons v vs ih => intro w j; exact ((Kp.refl [b] w).set ⟨b, j, none⟩ v (Or.inl (by simp))).trans (ih _ (j + 1)) (by simp)
theorem ret_rt {fn : Func} {p u : Tmp} (hf : fn.results = #[.cell p 30, .tmp u]) {Q : Ending → World → Prop} {tmps : Array Value} {w : World} {b : Nat} {cs : Array Value} {v : Value} (hs : cs.size = 5)
    (hp : tmps.getD p undef = .pointer (some ⟨b, 0, none⟩)) (hu : tmps.getD u undef = v) (I : IsB w b cs 30) (hQ : Q (.returned (.tuple #[.agg cs, v])) w) :
    bodyPost Tryd.prog fn Q .ret ⟨tmps, []⟩ w := by
  refine bodyPost_ret ?_ rfl hQ
  rw [results_cell_tmp hf, hp, hu]
  have h := run_loadVar_row (P := Tryd.prog) w b 30 30 cs (0, 0) _ I Tryd.underlying30 rfl (by rw [hs]; exact ref_info)
  simp [asAddr, h, Result.andThen]


set_option maxHeartbeats 1000000 in
set_option maxRecDepth 100000 in
theorem endOf_ok (i k n : Int) (h0 : 0 ≤ n) (h1 : n ≤ 32) (w : World) : Calls Tryd.prog 55 #[.int .i64 i, .int .i64 k, .int .i64 n] w fun e w' => e = .returned (.tuple #[.agg #[.int .i64 i, .int .i64 k, .int .u64 0, .int .i64 n, .int .u64 0], .int .i64 0]) ∧ Below w.heap.size w w' := by
  have d0 : decide (n < 0) = false := decide_eq_false (by omega)
  have d1 : decide (32 < n) = false := decide_eq_false (by omega)
  go_enter Tryd.func55, Tryd.ntmps55
  go_wp2
  refine ret_rt (p := 6) (u := 7) (b := w.heap.size) Tryd.results55 rfl rfl rfl (IsB.new w #[.int .i64 i, .int .i64 k, .int .u64 0, .int .i64 n, .int .u64 0] 30) ?_
  exact ⟨rfl, (Below.refl _ w).alloc (Nat.le_refl _) _⟩

set_option maxHeartbeats 1000000 in
set_option maxRecDepth 100000 in
theorem endOf_bad (i k n : Int) (hn0 : n < 0 ∨ 32 < n) (w : World) : Calls Tryd.prog 55 #[.int .i64 i, .int .i64 k, .int .i64 n] w fun e w' => e = .returned (.tuple #[.agg #[.int .i64 0, .int .i64 0, .int .u64 0, .int .i64 0, .int .u64 0], .int .i64 90]) ∧ Below w.heap.size w w' := by
  by_cases hn : n < 0
  · have d0 : decide (n < 0) = true := decide_eq_true hn
    go_enter Tryd.func55, Tryd.ntmps55
    go_wp2
    refine ret_rt (p := 6) (u := 7) (b := w.heap.size) Tryd.results55 rfl rfl rfl (IsB.new w #[.int .i64 0, .int .i64 0, .int .u64 0, .int .i64 0, .int .u64 0] 30) ?_
    exact ⟨rfl, (Below.refl _ w).alloc (Nat.le_refl _) _⟩
  · have d0 : decide (n < 0) = false := decide_eq_false hn
    have d1 : decide (32 < n) = true := decide_eq_true (by omega)
    go_enter Tryd.func55, Tryd.ntmps55
    go_wp2
    refine ret_rt (p := 6) (u := 7) (b := w.heap.size) Tryd.results55 rfl rfl rfl (IsB.new w #[.int .i64 0, .int .i64 0, .int .u64 0, .int .i64 0, .int .u64 0] 30) ?_
    exact ⟨rfl, (Below.refl _ w).alloc (Nat.le_refl _) _⟩

set_option maxHeartbeats 2000000 in
set_option maxRecDepth 100000 in
theorem head_ok (n : Int) (h0 : 0 ≤ n) (h1 : n ≤ 32) (w : World) : Calls Tryd.prog 34 #[.int .i64 n] w fun e w' => e = .returned (.tuple #[.agg #[.int .i64 0, .int .i64 1, .int .u64 0, .int .i64 n, .int .u64 0], .int .i64 0]) ∧ Below w.heap.size w w' := by
  have F := hide (IsB.new w #[.int .i64 0, .int .i64 0, .int .u64 0, .int .i64 0, .int .u64 0] 30)
  have B := hide (show Below w.heap.size w (w.alloc (.cells #[.int .i64 0, .int .i64 0, .int .u64 0, .int .i64 0, .int .u64 0] 30)) from (Below.refl _ w).alloc (Nat.le_refl _) _)
  go_enter Tryd.func34, Tryd.ntmps34
  go_wp2_with fail
  generalize w.alloc (.cells #[.int .i64 0, .int .i64 0, .int .u64 0, .int .i64 0, .int .u64 0] 30) = W1 at F B ⊢
  generalize hH : w.heap.size = H at F ⊢
  replace hH := hide hH
  refine (endOf_ok 0 1 n h0 h1 _).mono ?_; rintro e w2 ⟨rfl, hb⟩
  replace F := hide (F.out.below hb)
  replace B := hide (B.out.trans (hb.mono B.out.size))
  clear hb
  have z0 : w2.frozen? ⟨H, 0, none⟩ = false := F.out.free 0
  have c0 : w2.cell? ⟨H, 0, none⟩ = some (.int .i64 0) := F.out.cell 0
  have z1 : w2.frozen? ⟨H, 1, none⟩ = false := F.out.free 1
  have c1 : w2.cell? ⟨H, 1, none⟩ = some (.int .i64 0) := F.out.cell 1
  have z2 : w2.frozen? ⟨H, 2, none⟩ = false := F.out.free 2
  have c2 : w2.cell? ⟨H, 2, none⟩ = some (.int .u64 0) := F.out.cell 2
  have z3 : w2.frozen? ⟨H, 3, none⟩ = false := F.out.free 3
  have c3 : w2.cell? ⟨H, 3, none⟩ = some (.int .i64 0) := F.out.cell 3
  have z4 : w2.frozen? ⟨H, 4, none⟩ = false := F.out.free 4
  have c4 : w2.cell? ⟨H, 4, none⟩ = some (.int .u64 0) := F.out.cell 4
  have fl := F.out.lt
  go_wp2
  clear z0 c0 z1 c1 z2 c2 z3 c3 z4 c4
  have hW : (((((w2.setCell ⟨H, 0, none⟩ (.int .i64 0)).setCell ⟨H, 1, none⟩ (.int .i64 1)).setCell ⟨H, 2, none⟩ (.int .u64 0)).setCell ⟨H, 3, none⟩ (.int .i64 n)).setCell ⟨H, 4, none⟩ (.int .u64 0)) = putCells w2 (H) 0 [.int .i64 0, .int .i64 1, .int .u64 0, .int .i64 n, .int .u64 0] := rfl
  rw [hW]
  clear hW
  have F9 := putCells_is (cs := [.int .i64 0, .int .i64 0, .int .u64 0, .int .i64 0, .int .u64 0]) F.out [.int .i64 0, .int .i64 1, .int .u64 0, .int .i64 n, .int .u64 0] rfl
  have k9 := putCells_kp (H) [.int .i64 0, .int .i64 1, .int .u64 0, .int .i64 n, .int .u64 0] w2 0
  refine ret_rt (p := 2) (u := 3) (b := H) Tryd.results34 rfl rfl rfl F9 ?_
  exact ⟨rfl, (Kp.of_below (S := []) B.out).trans k9 (fun j hj => by simp at hj; right; rw [hj, hH.out]; exact Nat.le_refl _) |>.to_below (Nat.le_refl _) (by simp)⟩

set_option maxHeartbeats 2000000 in
set_option maxRecDepth 100000 in
theorem tail_ok (n : Int) (h0 : 0 ≤ n) (h1 : n ≤ 32) (w : World) : Calls Tryd.prog 35 #[.int .i64 n] w fun e w' => e = .returned (.tuple #[.agg #[.int .i64 1, .int .i64 3, .int .u64 0, .int .i64 n, .int .u64 0], .int .i64 0]) ∧ Below w.heap.size w w' := by
  have F := hide (IsB.new w #[.int .i64 0, .int .i64 0, .int .u64 0, .int .i64 0, .int .u64 0] 30)
  have B := hide (show Below w.heap.size w (w.alloc (.cells #[.int .i64 0, .int .i64 0, .int .u64 0, .int .i64 0, .int .u64 0] 30)) from (Below.refl _ w).alloc (Nat.le_refl _) _)
  go_enter Tryd.func35, Tryd.ntmps35
  go_wp2_with fail
  generalize w.alloc (.cells #[.int .i64 0, .int .i64 0, .int .u64 0, .int .i64 0, .int .u64 0] 30) = W1 at F B ⊢
  generalize hH : w.heap.size = H at F ⊢
  replace hH := hide hH
  refine (endOf_ok 1 3 n h0 h1 _).mono ?_; rintro e w2 ⟨rfl, hb⟩
  replace F := hide (F.out.below hb)
  replace B := hide (B.out.trans (hb.mono B.out.size))
  clear hb
  have z0 : w2.frozen? ⟨H, 0, none⟩ = false := F.out.free 0
  have c0 : w2.cell? ⟨H, 0, none⟩ = some (.int .i64 0) := F.out.cell 0
  have z1 : w2.frozen? ⟨H, 1, none⟩ = false := F.out.free 1
  have c1 : w2.cell? ⟨H, 1, none⟩ = some (.int .i64 0) := F.out.cell 1
  have z2 : w2.frozen? ⟨H, 2, none⟩ = false := F.out.free 2
  have c2 : w2.cell? ⟨H, 2, none⟩ = some (.int .u64 0) := F.out.cell 2
  have z3 : w2.frozen? ⟨H, 3, none⟩ = false := F.out.free 3
  have c3 : w2.cell? ⟨H, 3, none⟩ = some (.int .i64 0) := F.out.cell 3
  have z4 : w2.frozen? ⟨H, 4, none⟩ = false := F.out.free 4
  have c4 : w2.cell? ⟨H, 4, none⟩ = some (.int .u64 0) := F.out.cell 4
  have fl := F.out.lt
  go_wp2
  clear z0 c0 z1 c1 z2 c2 z3 c3 z4 c4
  have hW : (((((w2.setCell ⟨H, 0, none⟩ (.int .i64 1)).setCell ⟨H, 1, none⟩ (.int .i64 3)).setCell ⟨H, 2, none⟩ (.int .u64 0)).setCell ⟨H, 3, none⟩ (.int .i64 n)).setCell ⟨H, 4, none⟩ (.int .u64 0)) = putCells w2 (H) 0 [.int .i64 1, .int .i64 3, .int .u64 0, .int .i64 n, .int .u64 0] := rfl
  rw [hW]
  clear hW
  have F9 := putCells_is (cs := [.int .i64 0, .int .i64 0, .int .u64 0, .int .i64 0, .int .u64 0]) F.out [.int .i64 1, .int .i64 3, .int .u64 0, .int .i64 n, .int .u64 0] rfl
  have k9 := putCells_kp (H) [.int .i64 1, .int .i64 3, .int .u64 0, .int .i64 n, .int .u64 0] w2 0
  refine ret_rt (p := 2) (u := 3) (b := H) Tryd.results35 rfl rfl rfl F9 ?_
  exact ⟨rfl, (Kp.of_below (S := []) B.out).trans k9 (fun j hj => by simp at hj; right; rw [hj, hH.out]; exact Nat.le_refl _) |>.to_below (Nat.le_refl _) (by simp)⟩

set_option maxHeartbeats 2000000 in
set_option maxRecDepth 100000 in
theorem head_bad (n : Int) (hn : n < 0 ∨ 32 < n) (w : World) : Calls Tryd.prog 34 #[.int .i64 n] w fun e w' => e = .returned (.tuple #[.agg #[.int .i64 0, .int .i64 0, .int .u64 0, .int .i64 0, .int .u64 0], .int .i64 90]) ∧ Below w.heap.size w w' := by
  have F := hide (IsB.new w #[.int .i64 0, .int .i64 0, .int .u64 0, .int .i64 0, .int .u64 0] 30)
  have B := hide (show Below w.heap.size w (w.alloc (.cells #[.int .i64 0, .int .i64 0, .int .u64 0, .int .i64 0, .int .u64 0] 30)) from (Below.refl _ w).alloc (Nat.le_refl _) _)
  go_enter Tryd.func34, Tryd.ntmps34
  go_wp2_with fail
  generalize w.alloc (.cells #[.int .i64 0, .int .i64 0, .int .u64 0, .int .i64 0, .int .u64 0] 30) = W1 at F B ⊢
  generalize hH : w.heap.size = H at F ⊢
  replace hH := hide hH
  refine (endOf_bad 0 1 n hn _).mono ?_; rintro e w2 ⟨rfl, hb⟩
  replace F := hide (F.out.below hb)
  replace B := hide (B.out.trans (hb.mono B.out.size))
  clear hb
  have z0 : w2.frozen? ⟨H, 0, none⟩ = false := F.out.free 0
  have c0 : w2.cell? ⟨H, 0, none⟩ = some (.int .i64 0) := F.out.cell 0
  have z1 : w2.frozen? ⟨H, 1, none⟩ = false := F.out.free 1
  have c1 : w2.cell? ⟨H, 1, none⟩ = some (.int .i64 0) := F.out.cell 1
  have z2 : w2.frozen? ⟨H, 2, none⟩ = false := F.out.free 2
  have c2 : w2.cell? ⟨H, 2, none⟩ = some (.int .u64 0) := F.out.cell 2
  have z3 : w2.frozen? ⟨H, 3, none⟩ = false := F.out.free 3
  have c3 : w2.cell? ⟨H, 3, none⟩ = some (.int .i64 0) := F.out.cell 3
  have z4 : w2.frozen? ⟨H, 4, none⟩ = false := F.out.free 4
  have c4 : w2.cell? ⟨H, 4, none⟩ = some (.int .u64 0) := F.out.cell 4
  have fl := F.out.lt
  go_wp2
  clear z0 c0 z1 c1 z2 c2 z3 c3 z4 c4
  have hW : (((((w2.setCell ⟨H, 0, none⟩ (.int .i64 0)).setCell ⟨H, 1, none⟩ (.int .i64 0)).setCell ⟨H, 2, none⟩ (.int .u64 0)).setCell ⟨H, 3, none⟩ (.int .i64 0)).setCell ⟨H, 4, none⟩ (.int .u64 0)) = putCells w2 (H) 0 [.int .i64 0, .int .i64 0, .int .u64 0, .int .i64 0, .int .u64 0] := rfl
  rw [hW]
  clear hW
  have F9 := putCells_is (cs := [.int .i64 0, .int .i64 0, .int .u64 0, .int .i64 0, .int .u64 0]) F.out [.int .i64 0, .int .i64 0, .int .u64 0, .int .i64 0, .int .u64 0] rfl
  have k9 := putCells_kp (H) [.int .i64 0, .int .i64 0, .int .u64 0, .int .i64 0, .int .u64 0] w2 0
  refine ret_rt (p := 2) (u := 3) (b := H) Tryd.results34 rfl rfl rfl F9 ?_
  exact ⟨rfl, (Kp.of_below (S := []) B.out).trans k9 (fun j hj => by simp at hj; right; rw [hj, hH.out]; exact Nat.le_refl _) |>.to_below (Nat.le_refl _) (by simp)⟩

set_option maxHeartbeats 2000000 in
set_option maxRecDepth 100000 in
theorem tail_bad (n : Int) (hn : n < 0 ∨ 32 < n) (w : World) : Calls Tryd.prog 35 #[.int .i64 n] w fun e w' => e = .returned (.tuple #[.agg #[.int .i64 0, .int .i64 0, .int .u64 0, .int .i64 0, .int .u64 0], .int .i64 90]) ∧ Below w.heap.size w w' := by
  have F := hide (IsB.new w #[.int .i64 0, .int .i64 0, .int .u64 0, .int .i64 0, .int .u64 0] 30)
  have B := hide (show Below w.heap.size w (w.alloc (.cells #[.int .i64 0, .int .i64 0, .int .u64 0, .int .i64 0, .int .u64 0] 30)) from (Below.refl _ w).alloc (Nat.le_refl _) _)
  go_enter Tryd.func35, Tryd.ntmps35
  go_wp2_with fail
  generalize w.alloc (.cells #[.int .i64 0, .int .i64 0, .int .u64 0, .int .i64 0, .int .u64 0] 30) = W1 at F B ⊢
  generalize hH : w.heap.size = H at F ⊢
  replace hH := hide hH
  refine (endOf_bad 1 3 n hn _).mono ?_; rintro e w2 ⟨rfl, hb⟩
  replace F := hide (F.out.below hb)
  replace B := hide (B.out.trans (hb.mono B.out.size))
  clear hb
  have z0 : w2.frozen? ⟨H, 0, none⟩ = false := F.out.free 0
  have c0 : w2.cell? ⟨H, 0, none⟩ = some (.int .i64 0) := F.out.cell 0
  have z1 : w2.frozen? ⟨H, 1, none⟩ = false := F.out.free 1
  have c1 : w2.cell? ⟨H, 1, none⟩ = some (.int .i64 0) := F.out.cell 1
  have z2 : w2.frozen? ⟨H, 2, none⟩ = false := F.out.free 2
  have c2 : w2.cell? ⟨H, 2, none⟩ = some (.int .u64 0) := F.out.cell 2
  have z3 : w2.frozen? ⟨H, 3, none⟩ = false := F.out.free 3
  have c3 : w2.cell? ⟨H, 3, none⟩ = some (.int .i64 0) := F.out.cell 3
  have z4 : w2.frozen? ⟨H, 4, none⟩ = false := F.out.free 4
  have c4 : w2.cell? ⟨H, 4, none⟩ = some (.int .u64 0) := F.out.cell 4
  have fl := F.out.lt
  go_wp2
  clear z0 c0 z1 c1 z2 c2 z3 c3 z4 c4
  have hW : (((((w2.setCell ⟨H, 0, none⟩ (.int .i64 0)).setCell ⟨H, 1, none⟩ (.int .i64 0)).setCell ⟨H, 2, none⟩ (.int .u64 0)).setCell ⟨H, 3, none⟩ (.int .i64 0)).setCell ⟨H, 4, none⟩ (.int .u64 0)) = putCells w2 (H) 0 [.int .i64 0, .int .i64 0, .int .u64 0, .int .i64 0, .int .u64 0] := rfl
  rw [hW]
  clear hW
  have F9 := putCells_is (cs := [.int .i64 0, .int .i64 0, .int .u64 0, .int .i64 0, .int .u64 0]) F.out [.int .i64 0, .int .i64 0, .int .u64 0, .int .i64 0, .int .u64 0] rfl
  have k9 := putCells_kp (H) [.int .i64 0, .int .i64 0, .int .u64 0, .int .i64 0, .int .u64 0] w2 0
  refine ret_rt (p := 2) (u := 3) (b := H) Tryd.results35 rfl rfl rfl F9 ?_
  exact ⟨rfl, (Kp.of_below (S := []) B.out).trans k9 (fun j hj => by simp at hj; right; rw [hj, hH.out]; exact Nat.le_refl _) |>.to_below (Nat.le_refl _) (by simp)⟩

/-- May one be a member? -/
def mayR (h : Int) (x : Rf) : Bool := decide (2 ≤ x.id) && (decide (x.id < 1024) && (decide (x.rk = 2) && (rt x.ln x.bt && decide (x.ln = h))))

set_option maxHeartbeats 2000000 in
set_option maxRecDepth 100000 in
theorem may_any (h : Int) (x : Rf) (hb : 0 ≤ x.bt) (w : World) : Calls Tryd.prog 56 #[.int .i64 h, .agg x.cells] w fun e w' => e = .returned (.bool (mayR h x)) ∧ Below w.heap.size w w' := by
  obtain ⟨x0, x1, x2, x3, x4⟩ := x
  simp only [Rf.cells, mayR] at hb ⊢
  have b1 := (Below.refl w.heap.size w).alloc (Nat.le_refl _) (.cells #[.int .i64 x0, .int .i64 x1, .int .u64 x2, .int .i64 x3, .int .u64 x4] 30)
  have Vb := hide (IsB.new w #[.int .i64 x0, .int .i64 x1, .int .u64 x2, .int .i64 x3, .int .u64 x4] 30)
  have B1 := hide b1
  clear b1
  by_cases h0 : 2 ≤ x0
  rotate_left
  · have d0 : decide (2 ≤ x0) = false := by simpa using h0
    rw [d0]
    go_enter Tryd.func56, Tryd.ntmps56
    go_wp2
    go_ret
    exact ⟨rfl, B1.out⟩
  have d0 : decide (2 ≤ x0) = true := by simpa using h0
  by_cases h1 : x0 < 1024
  rotate_left
  · have d1 : decide (x0 < 1024) = false := by simpa using h1
    rw [d1]
    go_enter Tryd.func56, Tryd.ntmps56
    go_wp2
    go_ret
    exact ⟨by simp, B1.out⟩
  have d1 : decide (x0 < 1024) = true := by simpa using h1
  by_cases h2 : x1 = 2
  rotate_left
  · have d2 : (x1 == 2) = false := by simpa using h2
    have d3 : decide (x1 = 2) = false := by simpa using h2
    rw [d3]
    go_enter Tryd.func56, Tryd.ntmps56
    go_wp2
    go_ret
    exact ⟨by simp, B1.out⟩
  subst h2
  have VR := hide (vright_any x3 x4 hb (w.alloc (.cells #[.int .i64 x0, .int .i64 2, .int .u64 x2, .int .i64 x3, .int .u64 x4] 30)))
  cases hr : rt x3 x4 with
  | false =>
    rw [reS_no hr] at VR
    go_enter Tryd.func56, Tryd.ntmps56
    go_wp2_with fail
    refine VR.out.mono ?_
    rintro e w2 ⟨rfl, hb2⟩
    replace B1 := hide (B1.out.trans (hb2.mono B1.out.size))
    clear hb2 VR
    go_wp2
    go_ret
    exact ⟨by simp, B1.out⟩
  | true =>
    rw [reS_yes hr] at VR
    have hE : Hid ((decide (2 ≤ x0) && (decide (x0 < 1024) && (decide ((2 : Int) = 2) && (true && decide (x3 = h))))) = decide (x3 = h)) := by
      show _ = _
      simp [h0, h1]
    rw [hE.out]
    go_enter Tryd.func56, Tryd.ntmps56
    go_wp2_with fail
    generalize w.alloc (.cells #[.int .i64 x0, .int .i64 2, .int .u64 x2, .int .i64 x3, .int .u64 x4] 30) = W1 at *
    generalize hH : w.heap.size = H at Vb ⊢
    replace hH := hide hH
    refine VR.out.mono ?_
    rintro e w2 ⟨rfl, hb2⟩
    have y3 := (Vb.out.below hb2).cell 3
    simp at y3
    replace B1 := hide (B1.out.trans (hb2.mono B1.out.size))
    clear hb2 VR
    by_cases hh : x3 = h
    · subst hh
      go_wp2
      go_ret
      exact ⟨by simp, B1.out⟩
    · have hd : (x3 == h) = false := by simpa using hh
      go_wp2
      go_ret
      exact ⟨by simp [hh], B1.out⟩

/-- What stands ahead of a place, and behind it. -/
def besL (l : List Rf) (i : Nat) : Rf := if i = 0 then zr else l.getD (i - 1) zr
def besR (l : List Rf) (i : Nat) : Rf := l.getD (i + 1) zr
theorem results_cc {fn : Func} {p q : Tmp} {ty ty2 : TypeId} (h : fn.results = #[.cell p ty, .cell q ty2]) (tmps : Array Value) (P : Program) (w : World) :
    (results fn tmps).run P w =
      ((asAddr (tmps.getD p undef)).run P w).andThen fun a w₁ => ((loadVar ty a).run P w₁).andThen fun v w₂ => ((asAddr (tmps.getD q undef)).run P w₂).andThen fun b w₃ => ((loadVar ty2 b).run P w₃).andThen fun u w₄ => .ok (.tuple #[v, u]) w₄ := by
  simp only [results, h]
  simp [Sem.run_bind, Result.andThen]
theorem ret_rr {fn : Func} {p q : Tmp} (hf : fn.results = #[.cell p 30, .cell q 30]) {Q : Ending → World → Prop} {tmps : Array Value} {w : World} {a b : Nat} {cs ds : Array Value} (hs : cs.size = 5) (hs2 : ds.size = 5)
    (hp : tmps.getD p undef = .pointer (some ⟨a, 0, none⟩)) (hq : tmps.getD q undef = .pointer (some ⟨b, 0, none⟩)) (I : IsB w a cs 30) (J : IsB w b ds 30) (hQ : Q (.returned (.tuple #[.agg cs, .agg ds])) w) :
    bodyPost Tryd.prog fn Q .ret ⟨tmps, []⟩ w := by
  refine bodyPost_ret ?_ rfl hQ
  rw [results_cc hf, hp, hq]
  have h := run_loadVar_row (P := Tryd.prog) w a 30 30 cs (0, 0) _ I Tryd.underlying30 rfl (by rw [hs]; exact ref_info)
  have h2 := run_loadVar_row (P := Tryd.prog) w b 30 30 ds (0, 0) _ J Tryd.underlying30 rfl (by rw [hs2]; exact ref_info)
  simp [asAddr, h, h2, Result.andThen]

end Go.Proofs.YtfcmmchppcffmaaDoor
