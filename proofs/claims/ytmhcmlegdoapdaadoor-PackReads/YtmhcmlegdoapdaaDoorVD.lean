/- The document's reader: fields of a number, an int, a truth, a vector, a key. -/
import Derived.Test.YtmhcmlegdoapdaaDoorVA
namespace Go.Proofs.YtmhcmlegdoapdaaDoor
open Go.RowKit

theorem putCells_dr {b : Nat} {Q sb : Nat} {L : List Int} {p : Nat} {e : Int} (hq : Q ≠ b) (hs : sb ≠ b) (vs : List Value) : ∀ (w : World) (j : Nat), DR w Q sb L p e → DR (putCells w b j vs) Q sb L p e := by
  induction vs with
  | nil => intro w j h; exact h
  | cons v vs ih => intro w j h; exact ih _ (j + 1) (h.set (a := ⟨b, j, none⟩) hq hs v)
theorem rfield_results (W : World) (g : Nat) (cs : Array Value) (h : IsB W g cs 34) (hs : cs.size = 14) (T : Array Value) (hp : T.getD 4 undef = .pointer (some ⟨g, 0, none⟩)) : (results Tryd.f37 T).run Tryd.prog W = .ok (.agg cs) W :=
  results_cell_row rfl T W g 34 cs (0, 0) _ hp h Tryd.underlying34 rfl (by rw [hs]; exact field_info)

set_option maxHeartbeats 4000000 in
set_option maxRecDepth 100000 in
theorem rfield_num (Q sb : Nat) (L : List Int) (x : Int) (q : Nat) (er : Int) (w : World) (hQ : Q < w.heap.size) (hsb : sb < w.heap.size)
    (hb : ∀ W, Gr w W → Calls Tryd.prog 57 #[.pointer (some ⟨Q, 0, none⟩), .int .u64 18446744073709551615] W fun r w' => r = .returned (.int .u64 x) ∧ DR w' Q sb L q er ∧ W.grownBy w' (some Q)) :
    Calls Tryd.prog 37 #[.pointer (some ⟨Q, 0, none⟩), .int .i64 1] w fun e w' => e = .returned (.agg #[.int .i64 1, .int .u64 x, .int .i64 0, .bool false, .slice none 0 0, .int .i64 0, .int .u64 0, .int .i64 0, .int .u64 0, .int .i64 0, .int .i64 0, .int .u64 0, .int .i64 0, .int .u64 0]) ∧ DR w' Q sb L q er ∧ w.grownBy w' (some Q) := by
  have I0 := (IsB.new w #[.int .i64 0, .int .u64 0, .int .i64 0, .bool false, .slice none 0 0, .int .i64 0, .int .u64 0, .int .i64 0, .int .u64 0, .int .i64 0, .int .i64 0, .int .u64 0, .int .i64 0, .int .u64 0] 34).alloc (.cells #[.int .i64 1, .int .u64 0, .int .i64 0, .bool false, .slice none 0 0, .int .i64 0, .int .u64 0, .int .i64 0, .int .u64 0, .int .i64 0, .int .i64 0, .int .u64 0, .int .i64 0, .int .u64 0] 34)
  have I1 := IsB.new (w.alloc (.cells #[.int .i64 0, .int .u64 0, .int .i64 0, .bool false, .slice none 0 0, .int .i64 0, .int .u64 0, .int .i64 0, .int .u64 0, .int .i64 0, .int .i64 0, .int .u64 0, .int .i64 0, .int .u64 0] 34)) #[.int .i64 1, .int .u64 0, .int .i64 0, .bool false, .slice none 0 0, .int .i64 0, .int .u64 0, .int .i64 0, .int .u64 0, .int .i64 0, .int .i64 0, .int .u64 0, .int .i64 0, .int .u64 0] 34
  rw [World.size_alloc] at I1
  have HG := hide (show Gr w ((w.alloc (.cells #[.int .i64 0, .int .u64 0, .int .i64 0, .bool false, .slice none 0 0, .int .i64 0, .int .u64 0, .int .i64 0, .int .u64 0, .int .i64 0, .int .i64 0, .int .u64 0, .int .i64 0, .int .u64 0] 34)).alloc (.cells #[.int .i64 1, .int .u64 0, .int .i64 0, .bool false, .slice none 0 0, .int .i64 0, .int .u64 0, .int .i64 0, .int .u64 0, .int .i64 0, .int .i64 0, .int .u64 0, .int .i64 0, .int .u64 0] 34)) from ((Gr.refl w).alloc _).alloc _)
  have hrow := hide (hb _ HG.out)
  have hl01 := I1.lt
  replace I0 := hide I0
  replace I1 := hide I1
  clear hb
  go_enter Tryd.func37, Tryd.ntmps37
  go_wp2_with fail
  generalize (w.alloc (.cells #[.int .i64 0, .int .u64 0, .int .i64 0, .bool false, .slice none 0 0, .int .i64 0, .int .u64 0, .int .i64 0, .int .u64 0, .int .i64 0, .int .i64 0, .int .u64 0, .int .i64 0, .int .u64 0] 34)).alloc (.cells #[.int .i64 1, .int .u64 0, .int .i64 0, .bool false, .slice none 0 0, .int .i64 0, .int .u64 0, .int .i64 0, .int .u64 0, .int .i64 0, .int .i64 0, .int .u64 0, .int .i64 0, .int .u64 0] 34) = W0 at I0 I1 HG hrow hl01 ⊢
  refine hrow.out.mono ?_
  rintro e w1 ⟨rfl, hrd, hgr⟩
  replace I0 := hide (I0.out.grown hgr (by intro h; simp only [Option.some.injEq] at h; omega))
  replace I1 := hide (I1.out.grown hgr (by intro h; simp only [Option.some.injEq] at h; omega))
  have HRD := hide hrd
  have HGR := hide (grown_trans (grown_of_gr HG.out _) hgr)
  have hlW := I0.out.lt
  have hlW0 : w.heap.size + 1 < W0.heap.size := hl01
  clear hrow hrd hgr
  have a0 : w1.cell? ⟨w.heap.size, 0, none⟩ = some (.int .i64 0) := I0.out.cell 0
  have a1 : w1.cell? ⟨w.heap.size, 1, none⟩ = some (.int .u64 0) := I0.out.cell 1
  have a2 : w1.cell? ⟨w.heap.size, 2, none⟩ = some (.int .i64 0) := I0.out.cell 2
  have a3 : w1.cell? ⟨w.heap.size, 3, none⟩ = some (.bool false) := I0.out.cell 3
  have a4 : w1.cell? ⟨w.heap.size, 4, none⟩ = some (.slice none 0 0) := I0.out.cell 4
  have a5 : w1.cell? ⟨w.heap.size, 5, none⟩ = some (.int .i64 0) := I0.out.cell 5
  have a6 : w1.cell? ⟨w.heap.size, 6, none⟩ = some (.int .u64 0) := I0.out.cell 6
  have a7 : w1.cell? ⟨w.heap.size, 7, none⟩ = some (.int .i64 0) := I0.out.cell 7
  have a8 : w1.cell? ⟨w.heap.size, 8, none⟩ = some (.int .u64 0) := I0.out.cell 8
  have a9 : w1.cell? ⟨w.heap.size, 9, none⟩ = some (.int .i64 0) := I0.out.cell 9
  have a10 : w1.cell? ⟨w.heap.size, 10, none⟩ = some (.int .i64 0) := I0.out.cell 10
  have a11 : w1.cell? ⟨w.heap.size, 11, none⟩ = some (.int .u64 0) := I0.out.cell 11
  have a12 : w1.cell? ⟨w.heap.size, 12, none⟩ = some (.int .i64 0) := I0.out.cell 12
  have a13 : w1.cell? ⟨w.heap.size, 13, none⟩ = some (.int .u64 0) := I0.out.cell 13
  have b0 : w1.cell? ⟨w.heap.size + 1, 0, none⟩ = some (.int .i64 1) := I1.out.cell 0
  have b1 : w1.cell? ⟨w.heap.size + 1, 1, none⟩ = some (.int .u64 0) := I1.out.cell 1
  have b2 : w1.cell? ⟨w.heap.size + 1, 2, none⟩ = some (.int .i64 0) := I1.out.cell 2
  have b3 : w1.cell? ⟨w.heap.size + 1, 3, none⟩ = some (.bool false) := I1.out.cell 3
  have b4 : w1.cell? ⟨w.heap.size + 1, 4, none⟩ = some (.slice none 0 0) := I1.out.cell 4
  have b5 : w1.cell? ⟨w.heap.size + 1, 5, none⟩ = some (.int .i64 0) := I1.out.cell 5
  have b6 : w1.cell? ⟨w.heap.size + 1, 6, none⟩ = some (.int .u64 0) := I1.out.cell 6
  have b7 : w1.cell? ⟨w.heap.size + 1, 7, none⟩ = some (.int .i64 0) := I1.out.cell 7
  have b8 : w1.cell? ⟨w.heap.size + 1, 8, none⟩ = some (.int .u64 0) := I1.out.cell 8
  have b9 : w1.cell? ⟨w.heap.size + 1, 9, none⟩ = some (.int .i64 0) := I1.out.cell 9
  have b10 : w1.cell? ⟨w.heap.size + 1, 10, none⟩ = some (.int .i64 0) := I1.out.cell 10
  have b11 : w1.cell? ⟨w.heap.size + 1, 11, none⟩ = some (.int .u64 0) := I1.out.cell 11
  have b12 : w1.cell? ⟨w.heap.size + 1, 12, none⟩ = some (.int .i64 0) := I1.out.cell 12
  have b13 : w1.cell? ⟨w.heap.size + 1, 13, none⟩ = some (.int .u64 0) := I1.out.cell 13
  have f0 := I0.out.free 0
  have f1 := I0.out.free 1
  have f2 := I0.out.free 2
  have f3 := I0.out.free 3
  have f4 := I0.out.free 4
  have f5 := I0.out.free 5
  have f6 := I0.out.free 6
  have f7 := I0.out.free 7
  have f8 := I0.out.free 8
  have f9 := I0.out.free 9
  have f10 := I0.out.free 10
  have f11 := I0.out.free 11
  have f12 := I0.out.free 12
  have f13 := I0.out.free 13
  have q1 := I1.out.free 1
  go_wp2
  have hW : (((((((((((((((w1.setCell ⟨w.heap.size + 1, 1, none⟩ (.int .u64 x)).setCell ⟨w.heap.size, 0, none⟩ (.int .i64 1)).setCell ⟨w.heap.size, 1, none⟩ (.int .u64 x)).setCell ⟨w.heap.size, 2, none⟩ (.int .i64 0)).setCell ⟨w.heap.size, 3, none⟩ (.bool false)).setCell ⟨w.heap.size, 4, none⟩ (.slice none 0 0)).setCell ⟨w.heap.size, 5, none⟩ (.int .i64 0)).setCell ⟨w.heap.size, 6, none⟩ (.int .u64 0)).setCell ⟨w.heap.size, 7, none⟩ (.int .i64 0)).setCell ⟨w.heap.size, 8, none⟩ (.int .u64 0)).setCell ⟨w.heap.size, 9, none⟩ (.int .i64 0)).setCell ⟨w.heap.size, 10, none⟩ (.int .i64 0)).setCell ⟨w.heap.size, 11, none⟩ (.int .u64 0)).setCell ⟨w.heap.size, 12, none⟩ (.int .i64 0)).setCell ⟨w.heap.size, 13, none⟩ (.int .u64 0)) = putCells (w1.setCell ⟨w.heap.size + 1, 1, none⟩ (.int .u64 x)) w.heap.size 0 [.int .i64 1, .int .u64 x, .int .i64 0, .bool false, .slice none 0 0, .int .i64 0, .int .u64 0, .int .i64 0, .int .u64 0, .int .i64 0, .int .i64 0, .int .u64 0, .int .i64 0, .int .u64 0] := rfl
  rw [hW]
  clear hW
  have hfin := putCells_is (cs := [.int .i64 0, .int .u64 0, .int .i64 0, .bool false, .slice none 0 0, .int .i64 0, .int .u64 0, .int .i64 0, .int .u64 0, .int .i64 0, .int .i64 0, .int .u64 0, .int .i64 0, .int .u64 0]) ((IsB.setOther (I0.out) (a := ⟨w.heap.size + 1, 1, none⟩) (by simp) (.int .u64 x))) [.int .i64 1, .int .u64 x, .int .i64 0, .bool false, .slice none 0 0, .int .i64 0, .int .u64 0, .int .i64 0, .int .u64 0, .int .i64 0, .int .i64 0, .int .u64 0, .int .i64 0, .int .u64 0] rfl
  have hrd := putCells_dr (b := w.heap.size) (show Q ≠ w.heap.size by omega) (show sb ≠ w.heap.size by omega) [.int .i64 1, .int .u64 x, .int .i64 0, .bool false, .slice none 0 0, .int .i64 0, .int .u64 0, .int .i64 0, .int .u64 0, .int .i64 0, .int .i64 0, .int .u64 0, .int .i64 0, .int .u64 0] _ 0 (DR.set (HRD.out) (a := ⟨w.heap.size + 1, 1, none⟩) (by simp only []; omega) (by simp only []; omega) (.int .u64 x))
  have hgr := putCells_grown (b := w.heap.size) (Nat.le_refl _) [.int .i64 1, .int .u64 x, .int .i64 0, .bool false, .slice none 0 0, .int .i64 0, .int .u64 0, .int .i64 0, .int .u64 0, .int .i64 0, .int .i64 0, .int .u64 0, .int .i64 0, .int .u64 0] _ 0 (grown_new (HGR.out) (a := ⟨w.heap.size + 1, 1, none⟩) (by simp) (.int .u64 x))
  generalize putCells (w1.setCell ⟨w.heap.size + 1, 1, none⟩ (.int .u64 x)) w.heap.size 0 [.int .i64 1, .int .u64 x, .int .i64 0, .bool false, .slice none 0 0, .int .i64 0, .int .u64 0, .int .i64 0, .int .u64 0, .int .i64 0, .int .i64 0, .int .u64 0, .int .i64 0, .int .u64 0] = W at hfin hrd hgr ⊢
  refine bodyPost_ret (rfield_results W _ _ hfin rfl _ rfl) rfl ?_
  exact ⟨rfl, hrd, hgr⟩

set_option maxHeartbeats 4000000 in
set_option maxRecDepth 100000 in
theorem rfield_int (Q sb : Nat) (L : List Int) (x : Int) (q : Nat) (er : Int) (w : World) (hQ : Q < w.heap.size) (hsb : sb < w.heap.size)
    (hb : ∀ W, Gr w W → Calls Tryd.prog 58 #[.pointer (some ⟨Q, 0, none⟩)] W fun r w' => r = .returned (.int .i64 x) ∧ DR w' Q sb L q er ∧ W.grownBy w' (some Q)) :
    Calls Tryd.prog 37 #[.pointer (some ⟨Q, 0, none⟩), .int .i64 2] w fun e w' => e = .returned (.agg #[.int .i64 2, .int .u64 0, .int .i64 x, .bool false, .slice none 0 0, .int .i64 0, .int .u64 0, .int .i64 0, .int .u64 0, .int .i64 0, .int .i64 0, .int .u64 0, .int .i64 0, .int .u64 0]) ∧ DR w' Q sb L q er ∧ w.grownBy w' (some Q) := by
  have I0 := (IsB.new w #[.int .i64 0, .int .u64 0, .int .i64 0, .bool false, .slice none 0 0, .int .i64 0, .int .u64 0, .int .i64 0, .int .u64 0, .int .i64 0, .int .i64 0, .int .u64 0, .int .i64 0, .int .u64 0] 34).alloc (.cells #[.int .i64 2, .int .u64 0, .int .i64 0, .bool false, .slice none 0 0, .int .i64 0, .int .u64 0, .int .i64 0, .int .u64 0, .int .i64 0, .int .i64 0, .int .u64 0, .int .i64 0, .int .u64 0] 34)
  have I1 := IsB.new (w.alloc (.cells #[.int .i64 0, .int .u64 0, .int .i64 0, .bool false, .slice none 0 0, .int .i64 0, .int .u64 0, .int .i64 0, .int .u64 0, .int .i64 0, .int .i64 0, .int .u64 0, .int .i64 0, .int .u64 0] 34)) #[.int .i64 2, .int .u64 0, .int .i64 0, .bool false, .slice none 0 0, .int .i64 0, .int .u64 0, .int .i64 0, .int .u64 0, .int .i64 0, .int .i64 0, .int .u64 0, .int .i64 0, .int .u64 0] 34
  rw [World.size_alloc] at I1
  have HG := hide (show Gr w ((w.alloc (.cells #[.int .i64 0, .int .u64 0, .int .i64 0, .bool false, .slice none 0 0, .int .i64 0, .int .u64 0, .int .i64 0, .int .u64 0, .int .i64 0, .int .i64 0, .int .u64 0, .int .i64 0, .int .u64 0] 34)).alloc (.cells #[.int .i64 2, .int .u64 0, .int .i64 0, .bool false, .slice none 0 0, .int .i64 0, .int .u64 0, .int .i64 0, .int .u64 0, .int .i64 0, .int .i64 0, .int .u64 0, .int .i64 0, .int .u64 0] 34)) from ((Gr.refl w).alloc _).alloc _)
  have hrow := hide (hb _ HG.out)
  have hl01 := I1.lt
  replace I0 := hide I0
  replace I1 := hide I1
  clear hb
  go_enter Tryd.func37, Tryd.ntmps37
  go_wp2_with fail
  generalize (w.alloc (.cells #[.int .i64 0, .int .u64 0, .int .i64 0, .bool false, .slice none 0 0, .int .i64 0, .int .u64 0, .int .i64 0, .int .u64 0, .int .i64 0, .int .i64 0, .int .u64 0, .int .i64 0, .int .u64 0] 34)).alloc (.cells #[.int .i64 2, .int .u64 0, .int .i64 0, .bool false, .slice none 0 0, .int .i64 0, .int .u64 0, .int .i64 0, .int .u64 0, .int .i64 0, .int .i64 0, .int .u64 0, .int .i64 0, .int .u64 0] 34) = W0 at I0 I1 HG hrow hl01 ⊢
  refine hrow.out.mono ?_
  rintro e w1 ⟨rfl, hrd, hgr⟩
  replace I0 := hide (I0.out.grown hgr (by intro h; simp only [Option.some.injEq] at h; omega))
  replace I1 := hide (I1.out.grown hgr (by intro h; simp only [Option.some.injEq] at h; omega))
  have HRD := hide hrd
  have HGR := hide (grown_trans (grown_of_gr HG.out _) hgr)
  have hlW := I0.out.lt
  have hlW0 : w.heap.size + 1 < W0.heap.size := hl01
  clear hrow hrd hgr
  have a0 : w1.cell? ⟨w.heap.size, 0, none⟩ = some (.int .i64 0) := I0.out.cell 0
  have a1 : w1.cell? ⟨w.heap.size, 1, none⟩ = some (.int .u64 0) := I0.out.cell 1
  have a2 : w1.cell? ⟨w.heap.size, 2, none⟩ = some (.int .i64 0) := I0.out.cell 2
  have a3 : w1.cell? ⟨w.heap.size, 3, none⟩ = some (.bool false) := I0.out.cell 3
  have a4 : w1.cell? ⟨w.heap.size, 4, none⟩ = some (.slice none 0 0) := I0.out.cell 4
  have a5 : w1.cell? ⟨w.heap.size, 5, none⟩ = some (.int .i64 0) := I0.out.cell 5
  have a6 : w1.cell? ⟨w.heap.size, 6, none⟩ = some (.int .u64 0) := I0.out.cell 6
  have a7 : w1.cell? ⟨w.heap.size, 7, none⟩ = some (.int .i64 0) := I0.out.cell 7
  have a8 : w1.cell? ⟨w.heap.size, 8, none⟩ = some (.int .u64 0) := I0.out.cell 8
  have a9 : w1.cell? ⟨w.heap.size, 9, none⟩ = some (.int .i64 0) := I0.out.cell 9
  have a10 : w1.cell? ⟨w.heap.size, 10, none⟩ = some (.int .i64 0) := I0.out.cell 10
  have a11 : w1.cell? ⟨w.heap.size, 11, none⟩ = some (.int .u64 0) := I0.out.cell 11
  have a12 : w1.cell? ⟨w.heap.size, 12, none⟩ = some (.int .i64 0) := I0.out.cell 12
  have a13 : w1.cell? ⟨w.heap.size, 13, none⟩ = some (.int .u64 0) := I0.out.cell 13
  have b0 : w1.cell? ⟨w.heap.size + 1, 0, none⟩ = some (.int .i64 2) := I1.out.cell 0
  have b1 : w1.cell? ⟨w.heap.size + 1, 1, none⟩ = some (.int .u64 0) := I1.out.cell 1
  have b2 : w1.cell? ⟨w.heap.size + 1, 2, none⟩ = some (.int .i64 0) := I1.out.cell 2
  have b3 : w1.cell? ⟨w.heap.size + 1, 3, none⟩ = some (.bool false) := I1.out.cell 3
  have b4 : w1.cell? ⟨w.heap.size + 1, 4, none⟩ = some (.slice none 0 0) := I1.out.cell 4
  have b5 : w1.cell? ⟨w.heap.size + 1, 5, none⟩ = some (.int .i64 0) := I1.out.cell 5
  have b6 : w1.cell? ⟨w.heap.size + 1, 6, none⟩ = some (.int .u64 0) := I1.out.cell 6
  have b7 : w1.cell? ⟨w.heap.size + 1, 7, none⟩ = some (.int .i64 0) := I1.out.cell 7
  have b8 : w1.cell? ⟨w.heap.size + 1, 8, none⟩ = some (.int .u64 0) := I1.out.cell 8
  have b9 : w1.cell? ⟨w.heap.size + 1, 9, none⟩ = some (.int .i64 0) := I1.out.cell 9
  have b10 : w1.cell? ⟨w.heap.size + 1, 10, none⟩ = some (.int .i64 0) := I1.out.cell 10
  have b11 : w1.cell? ⟨w.heap.size + 1, 11, none⟩ = some (.int .u64 0) := I1.out.cell 11
  have b12 : w1.cell? ⟨w.heap.size + 1, 12, none⟩ = some (.int .i64 0) := I1.out.cell 12
  have b13 : w1.cell? ⟨w.heap.size + 1, 13, none⟩ = some (.int .u64 0) := I1.out.cell 13
  have f0 := I0.out.free 0
  have f1 := I0.out.free 1
  have f2 := I0.out.free 2
  have f3 := I0.out.free 3
  have f4 := I0.out.free 4
  have f5 := I0.out.free 5
  have f6 := I0.out.free 6
  have f7 := I0.out.free 7
  have f8 := I0.out.free 8
  have f9 := I0.out.free 9
  have f10 := I0.out.free 10
  have f11 := I0.out.free 11
  have f12 := I0.out.free 12
  have f13 := I0.out.free 13
  have q2 := I1.out.free 2
  go_wp2
  have hW : (((((((((((((((w1.setCell ⟨w.heap.size + 1, 2, none⟩ (.int .i64 x)).setCell ⟨w.heap.size, 0, none⟩ (.int .i64 2)).setCell ⟨w.heap.size, 1, none⟩ (.int .u64 0)).setCell ⟨w.heap.size, 2, none⟩ (.int .i64 x)).setCell ⟨w.heap.size, 3, none⟩ (.bool false)).setCell ⟨w.heap.size, 4, none⟩ (.slice none 0 0)).setCell ⟨w.heap.size, 5, none⟩ (.int .i64 0)).setCell ⟨w.heap.size, 6, none⟩ (.int .u64 0)).setCell ⟨w.heap.size, 7, none⟩ (.int .i64 0)).setCell ⟨w.heap.size, 8, none⟩ (.int .u64 0)).setCell ⟨w.heap.size, 9, none⟩ (.int .i64 0)).setCell ⟨w.heap.size, 10, none⟩ (.int .i64 0)).setCell ⟨w.heap.size, 11, none⟩ (.int .u64 0)).setCell ⟨w.heap.size, 12, none⟩ (.int .i64 0)).setCell ⟨w.heap.size, 13, none⟩ (.int .u64 0)) = putCells (w1.setCell ⟨w.heap.size + 1, 2, none⟩ (.int .i64 x)) w.heap.size 0 [.int .i64 2, .int .u64 0, .int .i64 x, .bool false, .slice none 0 0, .int .i64 0, .int .u64 0, .int .i64 0, .int .u64 0, .int .i64 0, .int .i64 0, .int .u64 0, .int .i64 0, .int .u64 0] := rfl
  rw [hW]
  clear hW
  have hfin := putCells_is (cs := [.int .i64 0, .int .u64 0, .int .i64 0, .bool false, .slice none 0 0, .int .i64 0, .int .u64 0, .int .i64 0, .int .u64 0, .int .i64 0, .int .i64 0, .int .u64 0, .int .i64 0, .int .u64 0]) ((IsB.setOther (I0.out) (a := ⟨w.heap.size + 1, 2, none⟩) (by simp) (.int .i64 x))) [.int .i64 2, .int .u64 0, .int .i64 x, .bool false, .slice none 0 0, .int .i64 0, .int .u64 0, .int .i64 0, .int .u64 0, .int .i64 0, .int .i64 0, .int .u64 0, .int .i64 0, .int .u64 0] rfl
  have hrd := putCells_dr (b := w.heap.size) (show Q ≠ w.heap.size by omega) (show sb ≠ w.heap.size by omega) [.int .i64 2, .int .u64 0, .int .i64 x, .bool false, .slice none 0 0, .int .i64 0, .int .u64 0, .int .i64 0, .int .u64 0, .int .i64 0, .int .i64 0, .int .u64 0, .int .i64 0, .int .u64 0] _ 0 (DR.set (HRD.out) (a := ⟨w.heap.size + 1, 2, none⟩) (by simp only []; omega) (by simp only []; omega) (.int .i64 x))
  have hgr := putCells_grown (b := w.heap.size) (Nat.le_refl _) [.int .i64 2, .int .u64 0, .int .i64 x, .bool false, .slice none 0 0, .int .i64 0, .int .u64 0, .int .i64 0, .int .u64 0, .int .i64 0, .int .i64 0, .int .u64 0, .int .i64 0, .int .u64 0] _ 0 (grown_new (HGR.out) (a := ⟨w.heap.size + 1, 2, none⟩) (by simp) (.int .i64 x))
  generalize putCells (w1.setCell ⟨w.heap.size + 1, 2, none⟩ (.int .i64 x)) w.heap.size 0 [.int .i64 2, .int .u64 0, .int .i64 x, .bool false, .slice none 0 0, .int .i64 0, .int .u64 0, .int .i64 0, .int .u64 0, .int .i64 0, .int .i64 0, .int .u64 0, .int .i64 0, .int .u64 0] = W at hfin hrd hgr ⊢
  refine bodyPost_ret (rfield_results W _ _ hfin rfl _ rfl) rfl ?_
  exact ⟨rfl, hrd, hgr⟩

set_option maxHeartbeats 4000000 in
set_option maxRecDepth 100000 in
theorem rfield_truth (Q sb : Nat) (L : List Int) (x : Int) (q : Nat) (er : Int) (w : World) (hQ : Q < w.heap.size) (hsb : sb < w.heap.size)
    (hb : ∀ W, Gr w W → Calls Tryd.prog 59 #[.pointer (some ⟨Q, 0, none⟩), .int .u8 0, .int .u8 1] W fun r w' => r = .returned (.int .u8 x) ∧ DR w' Q sb L q er ∧ W.grownBy w' (some Q)) :
    Calls Tryd.prog 37 #[.pointer (some ⟨Q, 0, none⟩), .int .i64 3] w fun e w' => e = .returned (.agg #[.int .i64 3, .int .u64 0, .int .i64 0, .bool (x == 1), .slice none 0 0, .int .i64 0, .int .u64 0, .int .i64 0, .int .u64 0, .int .i64 0, .int .i64 0, .int .u64 0, .int .i64 0, .int .u64 0]) ∧ DR w' Q sb L q er ∧ w.grownBy w' (some Q) := by
  have I0 := (IsB.new w #[.int .i64 0, .int .u64 0, .int .i64 0, .bool false, .slice none 0 0, .int .i64 0, .int .u64 0, .int .i64 0, .int .u64 0, .int .i64 0, .int .i64 0, .int .u64 0, .int .i64 0, .int .u64 0] 34).alloc (.cells #[.int .i64 3, .int .u64 0, .int .i64 0, .bool false, .slice none 0 0, .int .i64 0, .int .u64 0, .int .i64 0, .int .u64 0, .int .i64 0, .int .i64 0, .int .u64 0, .int .i64 0, .int .u64 0] 34)
  have I1 := IsB.new (w.alloc (.cells #[.int .i64 0, .int .u64 0, .int .i64 0, .bool false, .slice none 0 0, .int .i64 0, .int .u64 0, .int .i64 0, .int .u64 0, .int .i64 0, .int .i64 0, .int .u64 0, .int .i64 0, .int .u64 0] 34)) #[.int .i64 3, .int .u64 0, .int .i64 0, .bool false, .slice none 0 0, .int .i64 0, .int .u64 0, .int .i64 0, .int .u64 0, .int .i64 0, .int .i64 0, .int .u64 0, .int .i64 0, .int .u64 0] 34
  rw [World.size_alloc] at I1
  have HG := hide (show Gr w ((w.alloc (.cells #[.int .i64 0, .int .u64 0, .int .i64 0, .bool false, .slice none 0 0, .int .i64 0, .int .u64 0, .int .i64 0, .int .u64 0, .int .i64 0, .int .i64 0, .int .u64 0, .int .i64 0, .int .u64 0] 34)).alloc (.cells #[.int .i64 3, .int .u64 0, .int .i64 0, .bool false, .slice none 0 0, .int .i64 0, .int .u64 0, .int .i64 0, .int .u64 0, .int .i64 0, .int .i64 0, .int .u64 0, .int .i64 0, .int .u64 0] 34)) from ((Gr.refl w).alloc _).alloc _)
  have hrow := hide (hb _ HG.out)
  have hl01 := I1.lt
  replace I0 := hide I0
  replace I1 := hide I1
  clear hb
  go_enter Tryd.func37, Tryd.ntmps37
  go_wp2_with fail
  generalize (w.alloc (.cells #[.int .i64 0, .int .u64 0, .int .i64 0, .bool false, .slice none 0 0, .int .i64 0, .int .u64 0, .int .i64 0, .int .u64 0, .int .i64 0, .int .i64 0, .int .u64 0, .int .i64 0, .int .u64 0] 34)).alloc (.cells #[.int .i64 3, .int .u64 0, .int .i64 0, .bool false, .slice none 0 0, .int .i64 0, .int .u64 0, .int .i64 0, .int .u64 0, .int .i64 0, .int .i64 0, .int .u64 0, .int .i64 0, .int .u64 0] 34) = W0 at I0 I1 HG hrow hl01 ⊢
  refine hrow.out.mono ?_
  rintro e w1 ⟨rfl, hrd, hgr⟩
  replace I0 := hide (I0.out.grown hgr (by intro h; simp only [Option.some.injEq] at h; omega))
  replace I1 := hide (I1.out.grown hgr (by intro h; simp only [Option.some.injEq] at h; omega))
  have HRD := hide hrd
  have HGR := hide (grown_trans (grown_of_gr HG.out _) hgr)
  have hlW := I0.out.lt
  have hlW0 : w.heap.size + 1 < W0.heap.size := hl01
  clear hrow hrd hgr
  have a0 : w1.cell? ⟨w.heap.size, 0, none⟩ = some (.int .i64 0) := I0.out.cell 0
  have a1 : w1.cell? ⟨w.heap.size, 1, none⟩ = some (.int .u64 0) := I0.out.cell 1
  have a2 : w1.cell? ⟨w.heap.size, 2, none⟩ = some (.int .i64 0) := I0.out.cell 2
  have a3 : w1.cell? ⟨w.heap.size, 3, none⟩ = some (.bool false) := I0.out.cell 3
  have a4 : w1.cell? ⟨w.heap.size, 4, none⟩ = some (.slice none 0 0) := I0.out.cell 4
  have a5 : w1.cell? ⟨w.heap.size, 5, none⟩ = some (.int .i64 0) := I0.out.cell 5
  have a6 : w1.cell? ⟨w.heap.size, 6, none⟩ = some (.int .u64 0) := I0.out.cell 6
  have a7 : w1.cell? ⟨w.heap.size, 7, none⟩ = some (.int .i64 0) := I0.out.cell 7
  have a8 : w1.cell? ⟨w.heap.size, 8, none⟩ = some (.int .u64 0) := I0.out.cell 8
  have a9 : w1.cell? ⟨w.heap.size, 9, none⟩ = some (.int .i64 0) := I0.out.cell 9
  have a10 : w1.cell? ⟨w.heap.size, 10, none⟩ = some (.int .i64 0) := I0.out.cell 10
  have a11 : w1.cell? ⟨w.heap.size, 11, none⟩ = some (.int .u64 0) := I0.out.cell 11
  have a12 : w1.cell? ⟨w.heap.size, 12, none⟩ = some (.int .i64 0) := I0.out.cell 12
  have a13 : w1.cell? ⟨w.heap.size, 13, none⟩ = some (.int .u64 0) := I0.out.cell 13
  have b0 : w1.cell? ⟨w.heap.size + 1, 0, none⟩ = some (.int .i64 3) := I1.out.cell 0
  have b1 : w1.cell? ⟨w.heap.size + 1, 1, none⟩ = some (.int .u64 0) := I1.out.cell 1
  have b2 : w1.cell? ⟨w.heap.size + 1, 2, none⟩ = some (.int .i64 0) := I1.out.cell 2
  have b3 : w1.cell? ⟨w.heap.size + 1, 3, none⟩ = some (.bool false) := I1.out.cell 3
  have b4 : w1.cell? ⟨w.heap.size + 1, 4, none⟩ = some (.slice none 0 0) := I1.out.cell 4
  have b5 : w1.cell? ⟨w.heap.size + 1, 5, none⟩ = some (.int .i64 0) := I1.out.cell 5
  have b6 : w1.cell? ⟨w.heap.size + 1, 6, none⟩ = some (.int .u64 0) := I1.out.cell 6
  have b7 : w1.cell? ⟨w.heap.size + 1, 7, none⟩ = some (.int .i64 0) := I1.out.cell 7
  have b8 : w1.cell? ⟨w.heap.size + 1, 8, none⟩ = some (.int .u64 0) := I1.out.cell 8
  have b9 : w1.cell? ⟨w.heap.size + 1, 9, none⟩ = some (.int .i64 0) := I1.out.cell 9
  have b10 : w1.cell? ⟨w.heap.size + 1, 10, none⟩ = some (.int .i64 0) := I1.out.cell 10
  have b11 : w1.cell? ⟨w.heap.size + 1, 11, none⟩ = some (.int .u64 0) := I1.out.cell 11
  have b12 : w1.cell? ⟨w.heap.size + 1, 12, none⟩ = some (.int .i64 0) := I1.out.cell 12
  have b13 : w1.cell? ⟨w.heap.size + 1, 13, none⟩ = some (.int .u64 0) := I1.out.cell 13
  have f0 := I0.out.free 0
  have f1 := I0.out.free 1
  have f2 := I0.out.free 2
  have f3 := I0.out.free 3
  have f4 := I0.out.free 4
  have f5 := I0.out.free 5
  have f6 := I0.out.free 6
  have f7 := I0.out.free 7
  have f8 := I0.out.free 8
  have f9 := I0.out.free 9
  have f10 := I0.out.free 10
  have f11 := I0.out.free 11
  have f12 := I0.out.free 12
  have f13 := I0.out.free 13
  have q3 := I1.out.free 3
  go_wp2
  have hW : (((((((((((((((w1.setCell ⟨w.heap.size + 1, 3, none⟩ (.bool (x == 1))).setCell ⟨w.heap.size, 0, none⟩ (.int .i64 3)).setCell ⟨w.heap.size, 1, none⟩ (.int .u64 0)).setCell ⟨w.heap.size, 2, none⟩ (.int .i64 0)).setCell ⟨w.heap.size, 3, none⟩ (.bool (x == 1))).setCell ⟨w.heap.size, 4, none⟩ (.slice none 0 0)).setCell ⟨w.heap.size, 5, none⟩ (.int .i64 0)).setCell ⟨w.heap.size, 6, none⟩ (.int .u64 0)).setCell ⟨w.heap.size, 7, none⟩ (.int .i64 0)).setCell ⟨w.heap.size, 8, none⟩ (.int .u64 0)).setCell ⟨w.heap.size, 9, none⟩ (.int .i64 0)).setCell ⟨w.heap.size, 10, none⟩ (.int .i64 0)).setCell ⟨w.heap.size, 11, none⟩ (.int .u64 0)).setCell ⟨w.heap.size, 12, none⟩ (.int .i64 0)).setCell ⟨w.heap.size, 13, none⟩ (.int .u64 0)) = putCells (w1.setCell ⟨w.heap.size + 1, 3, none⟩ (.bool (x == 1))) w.heap.size 0 [.int .i64 3, .int .u64 0, .int .i64 0, .bool (x == 1), .slice none 0 0, .int .i64 0, .int .u64 0, .int .i64 0, .int .u64 0, .int .i64 0, .int .i64 0, .int .u64 0, .int .i64 0, .int .u64 0] := rfl
  rw [hW]
  clear hW
  have hfin := putCells_is (cs := [.int .i64 0, .int .u64 0, .int .i64 0, .bool false, .slice none 0 0, .int .i64 0, .int .u64 0, .int .i64 0, .int .u64 0, .int .i64 0, .int .i64 0, .int .u64 0, .int .i64 0, .int .u64 0]) ((IsB.setOther (I0.out) (a := ⟨w.heap.size + 1, 3, none⟩) (by simp) (.bool (x == 1)))) [.int .i64 3, .int .u64 0, .int .i64 0, .bool (x == 1), .slice none 0 0, .int .i64 0, .int .u64 0, .int .i64 0, .int .u64 0, .int .i64 0, .int .i64 0, .int .u64 0, .int .i64 0, .int .u64 0] rfl
  have hrd := putCells_dr (b := w.heap.size) (show Q ≠ w.heap.size by omega) (show sb ≠ w.heap.size by omega) [.int .i64 3, .int .u64 0, .int .i64 0, .bool (x == 1), .slice none 0 0, .int .i64 0, .int .u64 0, .int .i64 0, .int .u64 0, .int .i64 0, .int .i64 0, .int .u64 0, .int .i64 0, .int .u64 0] _ 0 (DR.set (HRD.out) (a := ⟨w.heap.size + 1, 3, none⟩) (by simp only []; omega) (by simp only []; omega) (.bool (x == 1)))
  have hgr := putCells_grown (b := w.heap.size) (Nat.le_refl _) [.int .i64 3, .int .u64 0, .int .i64 0, .bool (x == 1), .slice none 0 0, .int .i64 0, .int .u64 0, .int .i64 0, .int .u64 0, .int .i64 0, .int .i64 0, .int .u64 0, .int .i64 0, .int .u64 0] _ 0 (grown_new (HGR.out) (a := ⟨w.heap.size + 1, 3, none⟩) (by simp) (.bool (x == 1)))
  generalize putCells (w1.setCell ⟨w.heap.size + 1, 3, none⟩ (.bool (x == 1))) w.heap.size 0 [.int .i64 3, .int .u64 0, .int .i64 0, .bool (x == 1), .slice none 0 0, .int .i64 0, .int .u64 0, .int .i64 0, .int .u64 0, .int .i64 0, .int .i64 0, .int .u64 0, .int .i64 0, .int .u64 0] = W at hfin hrd hgr ⊢
  refine bodyPost_ret (rfield_results W _ _ hfin rfl _ rfl) rfl ?_
  exact ⟨rfl, hrd, hgr⟩

set_option maxHeartbeats 4000000 in
set_option maxRecDepth 100000 in
theorem rfield_vec (Q sb : Nat) (L : List Int) (PP : Int → Int → Prop) (q : Nat) (er : Int) (w : World) (hQ : Q < w.heap.size) (hsb : sb < w.heap.size)
    (hb : ∀ W, Gr w W → Calls Tryd.prog 60 #[.pointer (some ⟨Q, 0, none⟩)] W fun r w' => ∃ x y, PP x y ∧ r = .returned ((.agg #[.int .i64 (x), .int .u64 (y)])) ∧ DR w' Q sb L q er ∧ W.grownBy w' (some Q)) :
    Calls Tryd.prog 37 #[.pointer (some ⟨Q, 0, none⟩), .int .i64 5] w fun e w' => ∃ x y, PP x y ∧ e = .returned (.agg #[.int .i64 5, .int .u64 0, .int .i64 0, .bool false, .slice none 0 0, .int .i64 x, .int .u64 y, .int .i64 0, .int .u64 0, .int .i64 0, .int .i64 0, .int .u64 0, .int .i64 0, .int .u64 0]) ∧ DR w' Q sb L q er ∧ w.grownBy w' (some Q) := by
  have I0 := (IsB.new w #[.int .i64 0, .int .u64 0, .int .i64 0, .bool false, .slice none 0 0, .int .i64 0, .int .u64 0, .int .i64 0, .int .u64 0, .int .i64 0, .int .i64 0, .int .u64 0, .int .i64 0, .int .u64 0] 34).alloc (.cells #[.int .i64 5, .int .u64 0, .int .i64 0, .bool false, .slice none 0 0, .int .i64 0, .int .u64 0, .int .i64 0, .int .u64 0, .int .i64 0, .int .i64 0, .int .u64 0, .int .i64 0, .int .u64 0] 34)
  have I1 := IsB.new (w.alloc (.cells #[.int .i64 0, .int .u64 0, .int .i64 0, .bool false, .slice none 0 0, .int .i64 0, .int .u64 0, .int .i64 0, .int .u64 0, .int .i64 0, .int .i64 0, .int .u64 0, .int .i64 0, .int .u64 0] 34)) #[.int .i64 5, .int .u64 0, .int .i64 0, .bool false, .slice none 0 0, .int .i64 0, .int .u64 0, .int .i64 0, .int .u64 0, .int .i64 0, .int .i64 0, .int .u64 0, .int .i64 0, .int .u64 0] 34
  rw [World.size_alloc] at I1
  have HG := hide (show Gr w ((w.alloc (.cells #[.int .i64 0, .int .u64 0, .int .i64 0, .bool false, .slice none 0 0, .int .i64 0, .int .u64 0, .int .i64 0, .int .u64 0, .int .i64 0, .int .i64 0, .int .u64 0, .int .i64 0, .int .u64 0] 34)).alloc (.cells #[.int .i64 5, .int .u64 0, .int .i64 0, .bool false, .slice none 0 0, .int .i64 0, .int .u64 0, .int .i64 0, .int .u64 0, .int .i64 0, .int .i64 0, .int .u64 0, .int .i64 0, .int .u64 0] 34)) from ((Gr.refl w).alloc _).alloc _)
  have hrow := hide (hb _ HG.out)
  have hl01 := I1.lt
  replace I0 := hide I0
  replace I1 := hide I1
  clear hb
  go_enter Tryd.func37, Tryd.ntmps37
  go_wp2_with fail
  generalize (w.alloc (.cells #[.int .i64 0, .int .u64 0, .int .i64 0, .bool false, .slice none 0 0, .int .i64 0, .int .u64 0, .int .i64 0, .int .u64 0, .int .i64 0, .int .i64 0, .int .u64 0, .int .i64 0, .int .u64 0] 34)).alloc (.cells #[.int .i64 5, .int .u64 0, .int .i64 0, .bool false, .slice none 0 0, .int .i64 0, .int .u64 0, .int .i64 0, .int .u64 0, .int .i64 0, .int .i64 0, .int .u64 0, .int .i64 0, .int .u64 0] 34) = W0 at I0 I1 HG hrow hl01 ⊢
  refine hrow.out.mono ?_
  rintro e w1 ⟨x, y, hpp, rfl, hrd, hgr⟩
  replace I0 := hide (I0.out.grown hgr (by intro h; simp only [Option.some.injEq] at h; omega))
  replace I1 := hide (I1.out.grown hgr (by intro h; simp only [Option.some.injEq] at h; omega))
  have HRD := hide hrd
  have HGR := hide (grown_trans (grown_of_gr HG.out _) hgr)
  have hlW := I0.out.lt
  have hlW0 : w.heap.size + 1 < W0.heap.size := hl01
  clear hrow hrd hgr
  have a0 : w1.cell? ⟨w.heap.size, 0, none⟩ = some (.int .i64 0) := I0.out.cell 0
  have a1 : w1.cell? ⟨w.heap.size, 1, none⟩ = some (.int .u64 0) := I0.out.cell 1
  have a2 : w1.cell? ⟨w.heap.size, 2, none⟩ = some (.int .i64 0) := I0.out.cell 2
  have a3 : w1.cell? ⟨w.heap.size, 3, none⟩ = some (.bool false) := I0.out.cell 3
  have a4 : w1.cell? ⟨w.heap.size, 4, none⟩ = some (.slice none 0 0) := I0.out.cell 4
  have a5 : w1.cell? ⟨w.heap.size, 5, none⟩ = some (.int .i64 0) := I0.out.cell 5
  have a6 : w1.cell? ⟨w.heap.size, 6, none⟩ = some (.int .u64 0) := I0.out.cell 6
  have a7 : w1.cell? ⟨w.heap.size, 7, none⟩ = some (.int .i64 0) := I0.out.cell 7
  have a8 : w1.cell? ⟨w.heap.size, 8, none⟩ = some (.int .u64 0) := I0.out.cell 8
  have a9 : w1.cell? ⟨w.heap.size, 9, none⟩ = some (.int .i64 0) := I0.out.cell 9
  have a10 : w1.cell? ⟨w.heap.size, 10, none⟩ = some (.int .i64 0) := I0.out.cell 10
  have a11 : w1.cell? ⟨w.heap.size, 11, none⟩ = some (.int .u64 0) := I0.out.cell 11
  have a12 : w1.cell? ⟨w.heap.size, 12, none⟩ = some (.int .i64 0) := I0.out.cell 12
  have a13 : w1.cell? ⟨w.heap.size, 13, none⟩ = some (.int .u64 0) := I0.out.cell 13
  have b0 : w1.cell? ⟨w.heap.size + 1, 0, none⟩ = some (.int .i64 5) := I1.out.cell 0
  have b1 : w1.cell? ⟨w.heap.size + 1, 1, none⟩ = some (.int .u64 0) := I1.out.cell 1
  have b2 : w1.cell? ⟨w.heap.size + 1, 2, none⟩ = some (.int .i64 0) := I1.out.cell 2
  have b3 : w1.cell? ⟨w.heap.size + 1, 3, none⟩ = some (.bool false) := I1.out.cell 3
  have b4 : w1.cell? ⟨w.heap.size + 1, 4, none⟩ = some (.slice none 0 0) := I1.out.cell 4
  have b5 : w1.cell? ⟨w.heap.size + 1, 5, none⟩ = some (.int .i64 0) := I1.out.cell 5
  have b6 : w1.cell? ⟨w.heap.size + 1, 6, none⟩ = some (.int .u64 0) := I1.out.cell 6
  have b7 : w1.cell? ⟨w.heap.size + 1, 7, none⟩ = some (.int .i64 0) := I1.out.cell 7
  have b8 : w1.cell? ⟨w.heap.size + 1, 8, none⟩ = some (.int .u64 0) := I1.out.cell 8
  have b9 : w1.cell? ⟨w.heap.size + 1, 9, none⟩ = some (.int .i64 0) := I1.out.cell 9
  have b10 : w1.cell? ⟨w.heap.size + 1, 10, none⟩ = some (.int .i64 0) := I1.out.cell 10
  have b11 : w1.cell? ⟨w.heap.size + 1, 11, none⟩ = some (.int .u64 0) := I1.out.cell 11
  have b12 : w1.cell? ⟨w.heap.size + 1, 12, none⟩ = some (.int .i64 0) := I1.out.cell 12
  have b13 : w1.cell? ⟨w.heap.size + 1, 13, none⟩ = some (.int .u64 0) := I1.out.cell 13
  have f0 := I0.out.free 0
  have f1 := I0.out.free 1
  have f2 := I0.out.free 2
  have f3 := I0.out.free 3
  have f4 := I0.out.free 4
  have f5 := I0.out.free 5
  have f6 := I0.out.free 6
  have f7 := I0.out.free 7
  have f8 := I0.out.free 8
  have f9 := I0.out.free 9
  have f10 := I0.out.free 10
  have f11 := I0.out.free 11
  have f12 := I0.out.free 12
  have f13 := I0.out.free 13
  have q5 := I1.out.free 5
  have q6 := I1.out.free 6
  go_wp2
  have hW : ((((((((((((((((w1.setCell ⟨w.heap.size + 1, 5, none⟩ (.int .i64 x)).setCell ⟨w.heap.size + 1, 6, none⟩ (.int .u64 y)).setCell ⟨w.heap.size, 0, none⟩ (.int .i64 5)).setCell ⟨w.heap.size, 1, none⟩ (.int .u64 0)).setCell ⟨w.heap.size, 2, none⟩ (.int .i64 0)).setCell ⟨w.heap.size, 3, none⟩ (.bool false)).setCell ⟨w.heap.size, 4, none⟩ (.slice none 0 0)).setCell ⟨w.heap.size, 5, none⟩ (.int .i64 x)).setCell ⟨w.heap.size, 6, none⟩ (.int .u64 y)).setCell ⟨w.heap.size, 7, none⟩ (.int .i64 0)).setCell ⟨w.heap.size, 8, none⟩ (.int .u64 0)).setCell ⟨w.heap.size, 9, none⟩ (.int .i64 0)).setCell ⟨w.heap.size, 10, none⟩ (.int .i64 0)).setCell ⟨w.heap.size, 11, none⟩ (.int .u64 0)).setCell ⟨w.heap.size, 12, none⟩ (.int .i64 0)).setCell ⟨w.heap.size, 13, none⟩ (.int .u64 0)) = putCells ((w1.setCell ⟨w.heap.size + 1, 5, none⟩ (.int .i64 x)).setCell ⟨w.heap.size + 1, 6, none⟩ (.int .u64 y)) w.heap.size 0 [.int .i64 5, .int .u64 0, .int .i64 0, .bool false, .slice none 0 0, .int .i64 x, .int .u64 y, .int .i64 0, .int .u64 0, .int .i64 0, .int .i64 0, .int .u64 0, .int .i64 0, .int .u64 0] := rfl
  rw [hW]
  clear hW
  have hfin := putCells_is (cs := [.int .i64 0, .int .u64 0, .int .i64 0, .bool false, .slice none 0 0, .int .i64 0, .int .u64 0, .int .i64 0, .int .u64 0, .int .i64 0, .int .i64 0, .int .u64 0, .int .i64 0, .int .u64 0]) ((IsB.setOther ((IsB.setOther (I0.out) (a := ⟨w.heap.size + 1, 5, none⟩) (by simp) (.int .i64 x))) (a := ⟨w.heap.size + 1, 6, none⟩) (by simp) (.int .u64 y))) [.int .i64 5, .int .u64 0, .int .i64 0, .bool false, .slice none 0 0, .int .i64 x, .int .u64 y, .int .i64 0, .int .u64 0, .int .i64 0, .int .i64 0, .int .u64 0, .int .i64 0, .int .u64 0] rfl
  have hrd := putCells_dr (b := w.heap.size) (show Q ≠ w.heap.size by omega) (show sb ≠ w.heap.size by omega) [.int .i64 5, .int .u64 0, .int .i64 0, .bool false, .slice none 0 0, .int .i64 x, .int .u64 y, .int .i64 0, .int .u64 0, .int .i64 0, .int .i64 0, .int .u64 0, .int .i64 0, .int .u64 0] _ 0 (DR.set ((DR.set (HRD.out) (a := ⟨w.heap.size + 1, 5, none⟩) (by simp only []; omega) (by simp only []; omega) (.int .i64 x))) (a := ⟨w.heap.size + 1, 6, none⟩) (by simp only []; omega) (by simp only []; omega) (.int .u64 y))
  have hgr := putCells_grown (b := w.heap.size) (Nat.le_refl _) [.int .i64 5, .int .u64 0, .int .i64 0, .bool false, .slice none 0 0, .int .i64 x, .int .u64 y, .int .i64 0, .int .u64 0, .int .i64 0, .int .i64 0, .int .u64 0, .int .i64 0, .int .u64 0] _ 0 (grown_new ((grown_new (HGR.out) (a := ⟨w.heap.size + 1, 5, none⟩) (by simp) (.int .i64 x))) (a := ⟨w.heap.size + 1, 6, none⟩) (by simp) (.int .u64 y))
  generalize putCells ((w1.setCell ⟨w.heap.size + 1, 5, none⟩ (.int .i64 x)).setCell ⟨w.heap.size + 1, 6, none⟩ (.int .u64 y)) w.heap.size 0 [.int .i64 5, .int .u64 0, .int .i64 0, .bool false, .slice none 0 0, .int .i64 x, .int .u64 y, .int .i64 0, .int .u64 0, .int .i64 0, .int .i64 0, .int .u64 0, .int .i64 0, .int .u64 0] = W at hfin hrd hgr ⊢
  refine bodyPost_ret (rfield_results W _ _ hfin rfl _ rfl) rfl ?_
  exact ⟨x, y, hpp, rfl, hrd, hgr⟩

set_option maxHeartbeats 4000000 in
set_option maxRecDepth 100000 in
theorem rfield_key (Q sb : Nat) (L : List Int) (PP : Int → Int → Prop) (q : Nat) (er : Int) (w : World) (hQ : Q < w.heap.size) (hsb : sb < w.heap.size)
    (hb : ∀ W, Gr w W → Calls Tryd.prog 61 #[.pointer (some ⟨Q, 0, none⟩)] W fun r w' => ∃ x y, PP x y ∧ r = .returned ((.agg #[.int .i64 (x), .int .u64 (y)])) ∧ DR w' Q sb L q er ∧ W.grownBy w' (some Q)) :
    Calls Tryd.prog 37 #[.pointer (some ⟨Q, 0, none⟩), .int .i64 6] w fun e w' => ∃ x y, PP x y ∧ e = .returned (.agg #[.int .i64 6, .int .u64 0, .int .i64 0, .bool false, .slice none 0 0, .int .i64 0, .int .u64 0, .int .i64 x, .int .u64 y, .int .i64 0, .int .i64 0, .int .u64 0, .int .i64 0, .int .u64 0]) ∧ DR w' Q sb L q er ∧ w.grownBy w' (some Q) := by
  have I0 := (IsB.new w #[.int .i64 0, .int .u64 0, .int .i64 0, .bool false, .slice none 0 0, .int .i64 0, .int .u64 0, .int .i64 0, .int .u64 0, .int .i64 0, .int .i64 0, .int .u64 0, .int .i64 0, .int .u64 0] 34).alloc (.cells #[.int .i64 6, .int .u64 0, .int .i64 0, .bool false, .slice none 0 0, .int .i64 0, .int .u64 0, .int .i64 0, .int .u64 0, .int .i64 0, .int .i64 0, .int .u64 0, .int .i64 0, .int .u64 0] 34)
  have I1 := IsB.new (w.alloc (.cells #[.int .i64 0, .int .u64 0, .int .i64 0, .bool false, .slice none 0 0, .int .i64 0, .int .u64 0, .int .i64 0, .int .u64 0, .int .i64 0, .int .i64 0, .int .u64 0, .int .i64 0, .int .u64 0] 34)) #[.int .i64 6, .int .u64 0, .int .i64 0, .bool false, .slice none 0 0, .int .i64 0, .int .u64 0, .int .i64 0, .int .u64 0, .int .i64 0, .int .i64 0, .int .u64 0, .int .i64 0, .int .u64 0] 34
  rw [World.size_alloc] at I1
  have HG := hide (show Gr w ((w.alloc (.cells #[.int .i64 0, .int .u64 0, .int .i64 0, .bool false, .slice none 0 0, .int .i64 0, .int .u64 0, .int .i64 0, .int .u64 0, .int .i64 0, .int .i64 0, .int .u64 0, .int .i64 0, .int .u64 0] 34)).alloc (.cells #[.int .i64 6, .int .u64 0, .int .i64 0, .bool false, .slice none 0 0, .int .i64 0, .int .u64 0, .int .i64 0, .int .u64 0, .int .i64 0, .int .i64 0, .int .u64 0, .int .i64 0, .int .u64 0] 34)) from ((Gr.refl w).alloc _).alloc _)
  have hrow := hide (hb _ HG.out)
  have hl01 := I1.lt
  replace I0 := hide I0
  replace I1 := hide I1
  clear hb
  go_enter Tryd.func37, Tryd.ntmps37
  go_wp2_with fail
  generalize (w.alloc (.cells #[.int .i64 0, .int .u64 0, .int .i64 0, .bool false, .slice none 0 0, .int .i64 0, .int .u64 0, .int .i64 0, .int .u64 0, .int .i64 0, .int .i64 0, .int .u64 0, .int .i64 0, .int .u64 0] 34)).alloc (.cells #[.int .i64 6, .int .u64 0, .int .i64 0, .bool false, .slice none 0 0, .int .i64 0, .int .u64 0, .int .i64 0, .int .u64 0, .int .i64 0, .int .i64 0, .int .u64 0, .int .i64 0, .int .u64 0] 34) = W0 at I0 I1 HG hrow hl01 ⊢
  refine hrow.out.mono ?_
  rintro e w1 ⟨x, y, hpp, rfl, hrd, hgr⟩
  replace I0 := hide (I0.out.grown hgr (by intro h; simp only [Option.some.injEq] at h; omega))
  replace I1 := hide (I1.out.grown hgr (by intro h; simp only [Option.some.injEq] at h; omega))
  have HRD := hide hrd
  have HGR := hide (grown_trans (grown_of_gr HG.out _) hgr)
  have hlW := I0.out.lt
  have hlW0 : w.heap.size + 1 < W0.heap.size := hl01
  clear hrow hrd hgr
  have a0 : w1.cell? ⟨w.heap.size, 0, none⟩ = some (.int .i64 0) := I0.out.cell 0
  have a1 : w1.cell? ⟨w.heap.size, 1, none⟩ = some (.int .u64 0) := I0.out.cell 1
  have a2 : w1.cell? ⟨w.heap.size, 2, none⟩ = some (.int .i64 0) := I0.out.cell 2
  have a3 : w1.cell? ⟨w.heap.size, 3, none⟩ = some (.bool false) := I0.out.cell 3
  have a4 : w1.cell? ⟨w.heap.size, 4, none⟩ = some (.slice none 0 0) := I0.out.cell 4
  have a5 : w1.cell? ⟨w.heap.size, 5, none⟩ = some (.int .i64 0) := I0.out.cell 5
  have a6 : w1.cell? ⟨w.heap.size, 6, none⟩ = some (.int .u64 0) := I0.out.cell 6
  have a7 : w1.cell? ⟨w.heap.size, 7, none⟩ = some (.int .i64 0) := I0.out.cell 7
  have a8 : w1.cell? ⟨w.heap.size, 8, none⟩ = some (.int .u64 0) := I0.out.cell 8
  have a9 : w1.cell? ⟨w.heap.size, 9, none⟩ = some (.int .i64 0) := I0.out.cell 9
  have a10 : w1.cell? ⟨w.heap.size, 10, none⟩ = some (.int .i64 0) := I0.out.cell 10
  have a11 : w1.cell? ⟨w.heap.size, 11, none⟩ = some (.int .u64 0) := I0.out.cell 11
  have a12 : w1.cell? ⟨w.heap.size, 12, none⟩ = some (.int .i64 0) := I0.out.cell 12
  have a13 : w1.cell? ⟨w.heap.size, 13, none⟩ = some (.int .u64 0) := I0.out.cell 13
  have b0 : w1.cell? ⟨w.heap.size + 1, 0, none⟩ = some (.int .i64 6) := I1.out.cell 0
  have b1 : w1.cell? ⟨w.heap.size + 1, 1, none⟩ = some (.int .u64 0) := I1.out.cell 1
  have b2 : w1.cell? ⟨w.heap.size + 1, 2, none⟩ = some (.int .i64 0) := I1.out.cell 2
  have b3 : w1.cell? ⟨w.heap.size + 1, 3, none⟩ = some (.bool false) := I1.out.cell 3
  have b4 : w1.cell? ⟨w.heap.size + 1, 4, none⟩ = some (.slice none 0 0) := I1.out.cell 4
  have b5 : w1.cell? ⟨w.heap.size + 1, 5, none⟩ = some (.int .i64 0) := I1.out.cell 5
  have b6 : w1.cell? ⟨w.heap.size + 1, 6, none⟩ = some (.int .u64 0) := I1.out.cell 6
  have b7 : w1.cell? ⟨w.heap.size + 1, 7, none⟩ = some (.int .i64 0) := I1.out.cell 7
  have b8 : w1.cell? ⟨w.heap.size + 1, 8, none⟩ = some (.int .u64 0) := I1.out.cell 8
  have b9 : w1.cell? ⟨w.heap.size + 1, 9, none⟩ = some (.int .i64 0) := I1.out.cell 9
  have b10 : w1.cell? ⟨w.heap.size + 1, 10, none⟩ = some (.int .i64 0) := I1.out.cell 10
  have b11 : w1.cell? ⟨w.heap.size + 1, 11, none⟩ = some (.int .u64 0) := I1.out.cell 11
  have b12 : w1.cell? ⟨w.heap.size + 1, 12, none⟩ = some (.int .i64 0) := I1.out.cell 12
  have b13 : w1.cell? ⟨w.heap.size + 1, 13, none⟩ = some (.int .u64 0) := I1.out.cell 13
  have f0 := I0.out.free 0
  have f1 := I0.out.free 1
  have f2 := I0.out.free 2
  have f3 := I0.out.free 3
  have f4 := I0.out.free 4
  have f5 := I0.out.free 5
  have f6 := I0.out.free 6
  have f7 := I0.out.free 7
  have f8 := I0.out.free 8
  have f9 := I0.out.free 9
  have f10 := I0.out.free 10
  have f11 := I0.out.free 11
  have f12 := I0.out.free 12
  have f13 := I0.out.free 13
  have q7 := I1.out.free 7
  have q8 := I1.out.free 8
  go_wp2
  have hW : ((((((((((((((((w1.setCell ⟨w.heap.size + 1, 7, none⟩ (.int .i64 x)).setCell ⟨w.heap.size + 1, 8, none⟩ (.int .u64 y)).setCell ⟨w.heap.size, 0, none⟩ (.int .i64 6)).setCell ⟨w.heap.size, 1, none⟩ (.int .u64 0)).setCell ⟨w.heap.size, 2, none⟩ (.int .i64 0)).setCell ⟨w.heap.size, 3, none⟩ (.bool false)).setCell ⟨w.heap.size, 4, none⟩ (.slice none 0 0)).setCell ⟨w.heap.size, 5, none⟩ (.int .i64 0)).setCell ⟨w.heap.size, 6, none⟩ (.int .u64 0)).setCell ⟨w.heap.size, 7, none⟩ (.int .i64 x)).setCell ⟨w.heap.size, 8, none⟩ (.int .u64 y)).setCell ⟨w.heap.size, 9, none⟩ (.int .i64 0)).setCell ⟨w.heap.size, 10, none⟩ (.int .i64 0)).setCell ⟨w.heap.size, 11, none⟩ (.int .u64 0)).setCell ⟨w.heap.size, 12, none⟩ (.int .i64 0)).setCell ⟨w.heap.size, 13, none⟩ (.int .u64 0)) = putCells ((w1.setCell ⟨w.heap.size + 1, 7, none⟩ (.int .i64 x)).setCell ⟨w.heap.size + 1, 8, none⟩ (.int .u64 y)) w.heap.size 0 [.int .i64 6, .int .u64 0, .int .i64 0, .bool false, .slice none 0 0, .int .i64 0, .int .u64 0, .int .i64 x, .int .u64 y, .int .i64 0, .int .i64 0, .int .u64 0, .int .i64 0, .int .u64 0] := rfl
  rw [hW]
  clear hW
  have hfin := putCells_is (cs := [.int .i64 0, .int .u64 0, .int .i64 0, .bool false, .slice none 0 0, .int .i64 0, .int .u64 0, .int .i64 0, .int .u64 0, .int .i64 0, .int .i64 0, .int .u64 0, .int .i64 0, .int .u64 0]) ((IsB.setOther ((IsB.setOther (I0.out) (a := ⟨w.heap.size + 1, 7, none⟩) (by simp) (.int .i64 x))) (a := ⟨w.heap.size + 1, 8, none⟩) (by simp) (.int .u64 y))) [.int .i64 6, .int .u64 0, .int .i64 0, .bool false, .slice none 0 0, .int .i64 0, .int .u64 0, .int .i64 x, .int .u64 y, .int .i64 0, .int .i64 0, .int .u64 0, .int .i64 0, .int .u64 0] rfl
  have hrd := putCells_dr (b := w.heap.size) (show Q ≠ w.heap.size by omega) (show sb ≠ w.heap.size by omega) [.int .i64 6, .int .u64 0, .int .i64 0, .bool false, .slice none 0 0, .int .i64 0, .int .u64 0, .int .i64 x, .int .u64 y, .int .i64 0, .int .i64 0, .int .u64 0, .int .i64 0, .int .u64 0] _ 0 (DR.set ((DR.set (HRD.out) (a := ⟨w.heap.size + 1, 7, none⟩) (by simp only []; omega) (by simp only []; omega) (.int .i64 x))) (a := ⟨w.heap.size + 1, 8, none⟩) (by simp only []; omega) (by simp only []; omega) (.int .u64 y))
  have hgr := putCells_grown (b := w.heap.size) (Nat.le_refl _) [.int .i64 6, .int .u64 0, .int .i64 0, .bool false, .slice none 0 0, .int .i64 0, .int .u64 0, .int .i64 x, .int .u64 y, .int .i64 0, .int .i64 0, .int .u64 0, .int .i64 0, .int .u64 0] _ 0 (grown_new ((grown_new (HGR.out) (a := ⟨w.heap.size + 1, 7, none⟩) (by simp) (.int .i64 x))) (a := ⟨w.heap.size + 1, 8, none⟩) (by simp) (.int .u64 y))
  generalize putCells ((w1.setCell ⟨w.heap.size + 1, 7, none⟩ (.int .i64 x)).setCell ⟨w.heap.size + 1, 8, none⟩ (.int .u64 y)) w.heap.size 0 [.int .i64 6, .int .u64 0, .int .i64 0, .bool false, .slice none 0 0, .int .i64 0, .int .u64 0, .int .i64 x, .int .u64 y, .int .i64 0, .int .i64 0, .int .u64 0, .int .i64 0, .int .u64 0] = W at hfin hrd hgr ⊢
  refine bodyPost_ret (rfield_results W _ _ hfin rfl _ rfl) rfl ?_
  exact ⟨x, y, hpp, rfl, hrd, hgr⟩

end Go.Proofs.YtmhcmlegdoapdaaDoor

/- The document's reader: fields of a ref. -/
namespace Go.Proofs.YtmhcmlegdoapdaaDoor
open Go.RowKit

set_option maxHeartbeats 8000000 in
set_option maxRecDepth 100000 in
theorem rfield_ref (Q sb : Nat) (L : List Int) (x : Int) (PP PV : Int → Int → Prop) (q1 q2 q : Nat) (er1 er2 er : Int) (w : World) (hQ : Q < w.heap.size) (hsb : sb < w.heap.size)
    (hb : ∀ W, Gr w W → Calls Tryd.prog 58 #[.pointer (some ⟨Q, 0, none⟩)] W fun r w' => r = .returned (.int .i64 x) ∧ DR w' Q sb L q1 er1 ∧ W.grownBy w' (some Q))
    (hk : ∀ W, DR W Q sb L q1 er1 → sb < W.heap.size → Calls Tryd.prog 61 #[.pointer (some ⟨Q, 0, none⟩)] W fun r w' => ∃ y1 y2, PP y1 y2 ∧ r = .returned ((.agg #[.int .i64 (y1), .int .u64 (y2)])) ∧ DR w' Q sb L q2 er2 ∧ W.grownBy w' (some Q))
    (hv : ∀ W, DR W Q sb L q2 er2 → sb < W.heap.size → Calls Tryd.prog 60 #[.pointer (some ⟨Q, 0, none⟩)] W fun r w' => ∃ z1 z2, PV z1 z2 ∧ r = .returned ((.agg #[.int .i64 (z1), .int .u64 (z2)])) ∧ DR w' Q sb L q er ∧ W.grownBy w' (some Q)) :
    Calls Tryd.prog 37 #[.pointer (some ⟨Q, 0, none⟩), .int .i64 7] w fun e w' => ∃ y1 y2 z1 z2, PP y1 y2 ∧ PV z1 z2 ∧ e = .returned (.agg #[.int .i64 7, .int .u64 0, .int .i64 0, .bool false, .slice none 0 0, .int .i64 0, .int .u64 0, .int .i64 0, .int .u64 0, .int .i64 x, .int .i64 y1, .int .u64 y2, .int .i64 z1, .int .u64 z2]) ∧ DR w' Q sb L q er ∧ w.grownBy w' (some Q) := by
  have I0 := (IsB.new w #[.int .i64 0, .int .u64 0, .int .i64 0, .bool false, .slice none 0 0, .int .i64 0, .int .u64 0, .int .i64 0, .int .u64 0, .int .i64 0, .int .i64 0, .int .u64 0, .int .i64 0, .int .u64 0] 34).alloc (.cells #[.int .i64 7, .int .u64 0, .int .i64 0, .bool false, .slice none 0 0, .int .i64 0, .int .u64 0, .int .i64 0, .int .u64 0, .int .i64 0, .int .i64 0, .int .u64 0, .int .i64 0, .int .u64 0] 34)
  have I1 := IsB.new (w.alloc (.cells #[.int .i64 0, .int .u64 0, .int .i64 0, .bool false, .slice none 0 0, .int .i64 0, .int .u64 0, .int .i64 0, .int .u64 0, .int .i64 0, .int .i64 0, .int .u64 0, .int .i64 0, .int .u64 0] 34)) #[.int .i64 7, .int .u64 0, .int .i64 0, .bool false, .slice none 0 0, .int .i64 0, .int .u64 0, .int .i64 0, .int .u64 0, .int .i64 0, .int .i64 0, .int .u64 0, .int .i64 0, .int .u64 0] 34
  rw [World.size_alloc] at I1
  have HG := hide (show Gr w ((w.alloc (.cells #[.int .i64 0, .int .u64 0, .int .i64 0, .bool false, .slice none 0 0, .int .i64 0, .int .u64 0, .int .i64 0, .int .u64 0, .int .i64 0, .int .i64 0, .int .u64 0, .int .i64 0, .int .u64 0] 34)).alloc (.cells #[.int .i64 7, .int .u64 0, .int .i64 0, .bool false, .slice none 0 0, .int .i64 0, .int .u64 0, .int .i64 0, .int .u64 0, .int .i64 0, .int .i64 0, .int .u64 0, .int .i64 0, .int .u64 0] 34)) from ((Gr.refl w).alloc _).alloc _)
  have hrow := hide (hb _ HG.out)
  have hl01 := I1.lt
  replace I0 := hide I0
  replace I1 := hide I1
  have HHK := hide hk
  have HHV := hide hv
  clear hb hk hv
  go_enter Tryd.func37, Tryd.ntmps37
  go_wp2_with fail
  generalize (w.alloc (.cells #[.int .i64 0, .int .u64 0, .int .i64 0, .bool false, .slice none 0 0, .int .i64 0, .int .u64 0, .int .i64 0, .int .u64 0, .int .i64 0, .int .i64 0, .int .u64 0, .int .i64 0, .int .u64 0] 34)).alloc (.cells #[.int .i64 7, .int .u64 0, .int .i64 0, .bool false, .slice none 0 0, .int .i64 0, .int .u64 0, .int .i64 0, .int .u64 0, .int .i64 0, .int .i64 0, .int .u64 0, .int .i64 0, .int .u64 0] 34) = W0 at I0 I1 HG hrow hl01 ⊢
  refine hrow.out.mono ?_
  rintro e w1 ⟨rfl, hrd, hgr⟩
  have hlW0 : w.heap.size + 1 < W0.heap.size := hl01
  have HGR := hide (grown_trans (grown_of_gr HG.out _) hgr)
  clear hrow
  replace I0 := hide (I0.out.grown hgr (by intro h; simp only [Option.some.injEq] at h; omega))
  replace I1 := hide (I1.out.grown hgr (by intro h; simp only [Option.some.injEq] at h; omega))
  have b9 : w1.cell? ⟨w.heap.size + 1, 9, none⟩ = some (.int .i64 0) := I1.out.cell 9
  have q9 := I1.out.free 9
  have HRD := hide hrd
  have hsz := hgr.size
  clear hrd hgr
  go_wp2_with fail
  have HRD2 := hide (DR.set HRD.out (a := ⟨w.heap.size + 1, 9, none⟩) (by simp only []; omega) (by simp only []; omega) (.int .i64 x))
  replace I0 := hide (IsB.setOther I0.out (a := ⟨w.heap.size + 1, 9, none⟩) (by simp) (.int .i64 x))
  replace I1 := hide (I1.out.setj 9 (.int .i64 x))
  replace HGR := hide (grown_new HGR.out (a := ⟨w.heap.size + 1, 9, none⟩) (by simp) (.int .i64 x))
  have hs2 := size_setCell w1 ⟨w.heap.size + 1, 9, none⟩ (.int .i64 x)
  clear b9 q9 HRD
  generalize w1.setCell ⟨w.heap.size + 1, 9, none⟩ (.int .i64 x) = W1 at I0 I1 HGR HRD2 hs2 ⊢
  refine (HHK.out W1 HRD2.out (by omega)).mono ?_
  rintro e w2 ⟨y1, y2, hpk, rfl, hrd, hgr⟩
  replace HGR := hide (grown_trans HGR.out hgr)
  clear HRD2 HHK
  replace I0 := hide (I0.out.grown hgr (by intro h; simp only [Option.some.injEq] at h; omega))
  replace I1 := hide (I1.out.grown hgr (by intro h; simp only [Option.some.injEq] at h; omega))
  have b10 : w2.cell? ⟨w.heap.size + 1, 10, none⟩ = some (.int .i64 0) := I1.out.cell 10
  have q10 := I1.out.free 10
  have b11 : w2.cell? ⟨w.heap.size + 1, 11, none⟩ = some (.int .u64 0) := I1.out.cell 11
  have q11 := I1.out.free 11
  have HRD := hide hrd
  have hsz := hgr.size
  clear hrd hgr
  go_wp2_with fail
  have HRD2 := hide (DR.set (DR.set HRD.out (a := ⟨w.heap.size + 1, 10, none⟩) (by simp only []; omega) (by simp only []; omega) (.int .i64 y1)) (a := ⟨w.heap.size + 1, 11, none⟩) (by simp only []; omega) (by simp only []; omega) (.int .u64 y2))
  replace I0 := hide (IsB.setOther (IsB.setOther I0.out (a := ⟨w.heap.size + 1, 10, none⟩) (by simp) (.int .i64 y1)) (a := ⟨w.heap.size + 1, 11, none⟩) (by simp) (.int .u64 y2))
  replace I1 := hide (IsB.setj (IsB.setj I1.out 10 (.int .i64 y1)) 11 (.int .u64 y2))
  replace HGR := hide (grown_new (grown_new HGR.out (a := ⟨w.heap.size + 1, 10, none⟩) (by simp) (.int .i64 y1)) (a := ⟨w.heap.size + 1, 11, none⟩) (by simp) (.int .u64 y2))
  have hs3 : ((w2.setCell ⟨w.heap.size + 1, 10, none⟩ (.int .i64 y1)).setCell ⟨w.heap.size + 1, 11, none⟩ (.int .u64 y2)).heap.size = w2.heap.size := by rw [size_setCell, size_setCell]
  clear b10 q10 b11 q11 HRD
  generalize (w2.setCell ⟨w.heap.size + 1, 10, none⟩ (.int .i64 y1)).setCell ⟨w.heap.size + 1, 11, none⟩ (.int .u64 y2) = W2 at I0 I1 HGR HRD2 hs3 ⊢
  refine (HHV.out W2 HRD2.out (by omega)).mono ?_
  rintro e w3 ⟨z1, z2, hpv, rfl, hrd, hgr⟩
  replace HGR := hide (grown_trans HGR.out hgr)
  clear HRD2 HHV
  replace I0 := hide (I0.out.grown hgr (by intro h; simp only [Option.some.injEq] at h; omega))
  replace I1 := hide (I1.out.grown hgr (by intro h; simp only [Option.some.injEq] at h; omega))
  have HRD := hide hrd
  clear hrd hgr
  have a0 : w3.cell? ⟨w.heap.size, 0, none⟩ = some (.int .i64 0) := I0.out.cell 0
  have a1 : w3.cell? ⟨w.heap.size, 1, none⟩ = some (.int .u64 0) := I0.out.cell 1
  have a2 : w3.cell? ⟨w.heap.size, 2, none⟩ = some (.int .i64 0) := I0.out.cell 2
  have a3 : w3.cell? ⟨w.heap.size, 3, none⟩ = some (.bool false) := I0.out.cell 3
  have a4 : w3.cell? ⟨w.heap.size, 4, none⟩ = some (.slice none 0 0) := I0.out.cell 4
  have a5 : w3.cell? ⟨w.heap.size, 5, none⟩ = some (.int .i64 0) := I0.out.cell 5
  have a6 : w3.cell? ⟨w.heap.size, 6, none⟩ = some (.int .u64 0) := I0.out.cell 6
  have a7 : w3.cell? ⟨w.heap.size, 7, none⟩ = some (.int .i64 0) := I0.out.cell 7
  have a8 : w3.cell? ⟨w.heap.size, 8, none⟩ = some (.int .u64 0) := I0.out.cell 8
  have a9 : w3.cell? ⟨w.heap.size, 9, none⟩ = some (.int .i64 0) := I0.out.cell 9
  have a10 : w3.cell? ⟨w.heap.size, 10, none⟩ = some (.int .i64 0) := I0.out.cell 10
  have a11 : w3.cell? ⟨w.heap.size, 11, none⟩ = some (.int .u64 0) := I0.out.cell 11
  have a12 : w3.cell? ⟨w.heap.size, 12, none⟩ = some (.int .i64 0) := I0.out.cell 12
  have a13 : w3.cell? ⟨w.heap.size, 13, none⟩ = some (.int .u64 0) := I0.out.cell 13
  have b0 : w3.cell? ⟨w.heap.size + 1, 0, none⟩ = some (.int .i64 7) := I1.out.cell 0
  have b1 : w3.cell? ⟨w.heap.size + 1, 1, none⟩ = some (.int .u64 0) := I1.out.cell 1
  have b2 : w3.cell? ⟨w.heap.size + 1, 2, none⟩ = some (.int .i64 0) := I1.out.cell 2
  have b3 : w3.cell? ⟨w.heap.size + 1, 3, none⟩ = some (.bool false) := I1.out.cell 3
  have b4 : w3.cell? ⟨w.heap.size + 1, 4, none⟩ = some (.slice none 0 0) := I1.out.cell 4
  have b5 : w3.cell? ⟨w.heap.size + 1, 5, none⟩ = some (.int .i64 0) := I1.out.cell 5
  have b6 : w3.cell? ⟨w.heap.size + 1, 6, none⟩ = some (.int .u64 0) := I1.out.cell 6
  have b7 : w3.cell? ⟨w.heap.size + 1, 7, none⟩ = some (.int .i64 0) := I1.out.cell 7
  have b8 : w3.cell? ⟨w.heap.size + 1, 8, none⟩ = some (.int .u64 0) := I1.out.cell 8
  have b9 : w3.cell? ⟨w.heap.size + 1, 9, none⟩ = some (.int .i64 x) := I1.out.cell 9
  have b10 : w3.cell? ⟨w.heap.size + 1, 10, none⟩ = some (.int .i64 y1) := I1.out.cell 10
  have b11 : w3.cell? ⟨w.heap.size + 1, 11, none⟩ = some (.int .u64 y2) := I1.out.cell 11
  have b12 : w3.cell? ⟨w.heap.size + 1, 12, none⟩ = some (.int .i64 0) := I1.out.cell 12
  have b13 : w3.cell? ⟨w.heap.size + 1, 13, none⟩ = some (.int .u64 0) := I1.out.cell 13
  have f0 := I0.out.free 0
  have f1 := I0.out.free 1
  have f2 := I0.out.free 2
  have f3 := I0.out.free 3
  have f4 := I0.out.free 4
  have f5 := I0.out.free 5
  have f6 := I0.out.free 6
  have f7 := I0.out.free 7
  have f8 := I0.out.free 8
  have f9 := I0.out.free 9
  have f10 := I0.out.free 10
  have f11 := I0.out.free 11
  have f12 := I0.out.free 12
  have f13 := I0.out.free 13
  have q12 := I1.out.free 12
  have q13 := I1.out.free 13
  go_wp2
  have hW : ((((((((((((((((w3.setCell ⟨w.heap.size + 1, 12, none⟩ (.int .i64 z1)).setCell ⟨w.heap.size + 1, 13, none⟩ (.int .u64 z2)).setCell ⟨w.heap.size, 0, none⟩ (.int .i64 7)).setCell ⟨w.heap.size, 1, none⟩ (.int .u64 0)).setCell ⟨w.heap.size, 2, none⟩ (.int .i64 0)).setCell ⟨w.heap.size, 3, none⟩ (.bool false)).setCell ⟨w.heap.size, 4, none⟩ (.slice none 0 0)).setCell ⟨w.heap.size, 5, none⟩ (.int .i64 0)).setCell ⟨w.heap.size, 6, none⟩ (.int .u64 0)).setCell ⟨w.heap.size, 7, none⟩ (.int .i64 0)).setCell ⟨w.heap.size, 8, none⟩ (.int .u64 0)).setCell ⟨w.heap.size, 9, none⟩ (.int .i64 x)).setCell ⟨w.heap.size, 10, none⟩ (.int .i64 y1)).setCell ⟨w.heap.size, 11, none⟩ (.int .u64 y2)).setCell ⟨w.heap.size, 12, none⟩ (.int .i64 z1)).setCell ⟨w.heap.size, 13, none⟩ (.int .u64 z2)) = putCells ((w3.setCell ⟨w.heap.size + 1, 12, none⟩ (.int .i64 z1)).setCell ⟨w.heap.size + 1, 13, none⟩ (.int .u64 z2)) w.heap.size 0 [.int .i64 7, .int .u64 0, .int .i64 0, .bool false, .slice none 0 0, .int .i64 0, .int .u64 0, .int .i64 0, .int .u64 0, .int .i64 x, .int .i64 y1, .int .u64 y2, .int .i64 z1, .int .u64 z2] := rfl
  rw [hW]
  clear hW
  have hfin := putCells_is (cs := [.int .i64 0, .int .u64 0, .int .i64 0, .bool false, .slice none 0 0, .int .i64 0, .int .u64 0, .int .i64 0, .int .u64 0, .int .i64 0, .int .i64 0, .int .u64 0, .int .i64 0, .int .u64 0]) ((IsB.setOther ((IsB.setOther (I0.out) (a := ⟨w.heap.size + 1, 12, none⟩) (by simp) (.int .i64 z1))) (a := ⟨w.heap.size + 1, 13, none⟩) (by simp) (.int .u64 z2))) [.int .i64 7, .int .u64 0, .int .i64 0, .bool false, .slice none 0 0, .int .i64 0, .int .u64 0, .int .i64 0, .int .u64 0, .int .i64 x, .int .i64 y1, .int .u64 y2, .int .i64 z1, .int .u64 z2] rfl
  have hrd := putCells_dr (b := w.heap.size) (show Q ≠ w.heap.size by omega) (show sb ≠ w.heap.size by omega) [.int .i64 7, .int .u64 0, .int .i64 0, .bool false, .slice none 0 0, .int .i64 0, .int .u64 0, .int .i64 0, .int .u64 0, .int .i64 x, .int .i64 y1, .int .u64 y2, .int .i64 z1, .int .u64 z2] _ 0 (DR.set ((DR.set (HRD.out) (a := ⟨w.heap.size + 1, 12, none⟩) (by simp only []; omega) (by simp only []; omega) (.int .i64 z1))) (a := ⟨w.heap.size + 1, 13, none⟩) (by simp only []; omega) (by simp only []; omega) (.int .u64 z2))
  have hgr := putCells_grown (b := w.heap.size) (Nat.le_refl _) [.int .i64 7, .int .u64 0, .int .i64 0, .bool false, .slice none 0 0, .int .i64 0, .int .u64 0, .int .i64 0, .int .u64 0, .int .i64 x, .int .i64 y1, .int .u64 y2, .int .i64 z1, .int .u64 z2] _ 0 (grown_new ((grown_new (HGR.out) (a := ⟨w.heap.size + 1, 12, none⟩) (by simp) (.int .i64 z1))) (a := ⟨w.heap.size + 1, 13, none⟩) (by simp) (.int .u64 z2))
  generalize putCells ((w3.setCell ⟨w.heap.size + 1, 12, none⟩ (.int .i64 z1)).setCell ⟨w.heap.size + 1, 13, none⟩ (.int .u64 z2)) w.heap.size 0 [.int .i64 7, .int .u64 0, .int .i64 0, .bool false, .slice none 0 0, .int .i64 0, .int .u64 0, .int .i64 0, .int .u64 0, .int .i64 x, .int .i64 y1, .int .u64 y2, .int .i64 z1, .int .u64 z2] = W at hfin hrd hgr ⊢
  refine bodyPost_ret (rfield_results W _ _ hfin rfl _ rfl) rfl ?_
  exact ⟨y1, y2, z1, z2, hpk, hpv, rfl, hrd, hgr⟩

end Go.Proofs.YtmhcmlegdoapdaaDoor

/- The document's reader: fields of bytes. -/
namespace Go.Proofs.YtmhcmlegdoapdaaDoor
open Go.RowKit

/-- How far the document's row has come: k of n bytes, behind q. -/
structure RL (w wr : World) (Q sb : Nat) (L : List Int) (q n k : Nat) (la : Value) (bl : List Int) : Prop where
  own : wr.ownsRow (w.heap.size + 1 + 1) 5 1 la bl.length (u8s bl)
  at0 : IsB wr w.heap.size #[.int .i64 0, .int .u64 0, .int .i64 0, .bool false, .slice none 0 0, .int .i64 0, .int .u64 0, .int .i64 0, .int .u64 0, .int .i64 0, .int .i64 0, .int .u64 0, .int .i64 0, .int .u64 0] 34
  at1 : IsB wr (w.heap.size + 1) #[.int .i64 4, .int .u64 0, .int .i64 0, .bool false, la, .int .i64 0, .int .u64 0, .int .i64 0, .int .u64 0, .int .i64 0, .int .i64 0, .int .u64 0, .int .i64 0, .int .u64 0] 34
  gr : w.grownBy wr (some Q)
  si : w.heap.size + 1 + 1 ≤ wr.heap.size
  ph : (bl = (L.drop q).take k ∧ q + k ≤ L.length ∧ DR wr Q sb L (q + k) 0) ∨ (bl.length ≤ n ∧ L.length < q + n ∧ DR wr Q sb L L.length 32)

/-- What is left behind the document's row. -/
def RDone (w wr : World) (Q sb : Nat) (L : List Int) (q n : Nat) (la : Value) (bl : List Int) : Prop :=
  wr.ownsRow (w.heap.size + 1 + 1) 5 1 la bl.length (u8s bl) ∧ w.grownBy wr (some Q) ∧ w.heap.size + 1 + 1 ≤ wr.heap.size ∧
  ((bl = (L.drop q).take n ∧ q + n ≤ L.length ∧ DR wr Q sb L (q + n) 0) ∨ (bl.length ≤ n ∧ L.length < q + n ∧ DR wr Q sb L L.length 32))
theorem putCells_own {b : Nat} {base : Nat} {e : TypeId} {sz : Nat} {v : Value} {n : Nat} {xs : List Value} (hne : ∀ j, v.ownBlock = some j → j ≠ b) (vs : List Value) : ∀ (w : World) (j : Nat), w.ownsRow base e sz v n xs → (putCells w b j vs).ownsRow base e sz v n xs := by
  induction vs with
  | nil => intro w j h; exact h
  | cons u vs ih => intro w j h; exact ih _ (j + 1) (ownsRow_setCell_other h (by intro he; exact hne _ he rfl) _)

set_option maxHeartbeats 8000000 in
set_option maxRecDepth 100000 in
theorem rfield_row (Q sb : Nat) (L : List Int) (q n : Nat) (hn : n ≤ 65536) (w : World) (hQ : Q < w.heap.size) (hsb : sb < w.heap.size) (hbd : ∀ c ∈ L, 0 ≤ c ∧ c < 256)
    (hb : ∀ W, Gr w W → Calls Tryd.prog 57 #[.pointer (some ⟨Q, 0, none⟩), .int .u64 65536] W fun r w' => r = .returned (.int .u64 (n : Int)) ∧ DR w' Q sb L q 0 ∧ W.grownBy w' (some Q)) :
    Calls Tryd.prog 37 #[.pointer (some ⟨Q, 0, none⟩), .int .i64 4] w fun e w' => ∃ la bl, e = .returned (.agg #[.int .i64 4, .int .u64 0, .int .i64 0, .bool false, la, .int .i64 0, .int .u64 0, .int .i64 0, .int .u64 0, .int .i64 0, .int .i64 0, .int .u64 0, .int .i64 0, .int .u64 0]) ∧ RDone w w' Q sb L q n la bl := by
  have mixed : Tryd.prog.follows .mixedOrders = true := by kernel_rfl
  have I0 := (IsB.new w #[.int .i64 0, .int .u64 0, .int .i64 0, .bool false, .slice none 0 0, .int .i64 0, .int .u64 0, .int .i64 0, .int .u64 0, .int .i64 0, .int .i64 0, .int .u64 0, .int .i64 0, .int .u64 0] 34).alloc (.cells #[.int .i64 4, .int .u64 0, .int .i64 0, .bool false, .slice none 0 0, .int .i64 0, .int .u64 0, .int .i64 0, .int .u64 0, .int .i64 0, .int .i64 0, .int .u64 0, .int .i64 0, .int .u64 0] 34)
  have I1 := IsB.new (w.alloc (.cells #[.int .i64 0, .int .u64 0, .int .i64 0, .bool false, .slice none 0 0, .int .i64 0, .int .u64 0, .int .i64 0, .int .u64 0, .int .i64 0, .int .i64 0, .int .u64 0, .int .i64 0, .int .u64 0] 34)) #[.int .i64 4, .int .u64 0, .int .i64 0, .bool false, .slice none 0 0, .int .i64 0, .int .u64 0, .int .i64 0, .int .u64 0, .int .i64 0, .int .i64 0, .int .u64 0, .int .i64 0, .int .u64 0] 34
  rw [World.size_alloc] at I1
  have HG := hide (show Gr w ((w.alloc (.cells #[.int .i64 0, .int .u64 0, .int .i64 0, .bool false, .slice none 0 0, .int .i64 0, .int .u64 0, .int .i64 0, .int .u64 0, .int .i64 0, .int .i64 0, .int .u64 0, .int .i64 0, .int .u64 0] 34)).alloc (.cells #[.int .i64 4, .int .u64 0, .int .i64 0, .bool false, .slice none 0 0, .int .i64 0, .int .u64 0, .int .i64 0, .int .u64 0, .int .i64 0, .int .i64 0, .int .u64 0, .int .i64 0, .int .u64 0] 34)) from ((Gr.refl w).alloc _).alloc _)
  have hrow := hide (hb _ HG.out)
  have hl01 := I1.lt
  replace I0 := hide I0
  replace I1 := hide I1
  have HBD := hide hbd
  clear hb hbd
  go_enter Tryd.func37, Tryd.ntmps37
  go_wp2_with fail
  generalize (w.alloc (.cells #[.int .i64 0, .int .u64 0, .int .i64 0, .bool false, .slice none 0 0, .int .i64 0, .int .u64 0, .int .i64 0, .int .u64 0, .int .i64 0, .int .i64 0, .int .u64 0, .int .i64 0, .int .u64 0] 34)).alloc (.cells #[.int .i64 4, .int .u64 0, .int .i64 0, .bool false, .slice none 0 0, .int .i64 0, .int .u64 0, .int .i64 0, .int .u64 0, .int .i64 0, .int .i64 0, .int .u64 0, .int .i64 0, .int .u64 0] 34) = W0 at I0 I1 HG hrow hl01 ⊢
  refine hrow.out.mono ?_
  rintro e w1 ⟨rfl, hrd, hgr⟩
  have hlW0 : w.heap.size + 1 < W0.heap.size := hl01
  have hsz := hgr.size
  have hle := hrd.le
  have HR := hide (RL.mk (w := w) (wr := w1) (Q := Q) (sb := sb) (L := L) (q := q) (n := n) (k := 0) (la := .slice none 0 0) (bl := []) ⟨rfl, Or.inl ⟨rfl, rfl⟩⟩ (I0.out.grown hgr (by intro h; simp only [Option.some.injEq] at h; omega)) (I1.out.grown hgr (by intro h; simp only [Option.some.injEq] at h; omega)) (grown_trans (grown_of_gr HG.out _) hgr) (by omega) (Or.inl ⟨by simp, by omega, hrd⟩))
  clear hrow hrd hgr I0 I1 HG
  go_wp2
  go_loopw [7] (fun i wr => ∃ (k : Nat) (la : Value) (bl : List Int), i = .int .u64 (k : Int) ∧ k ≤ n ∧ Hid (RL w wr Q sb L q n k la bl)) (fun i _ => (65537 - intOf i).toNat)
  case atStart => exact ⟨0, _, _, rfl, by omega, HR⟩
  case round =>
    clear HR
    obtain ⟨k, la, bl, rfl, hk, HR⟩ := hrel
    by_cases hkn : k < n
    · have hkn' : (k : Int) < (n : Int) := by omega
      rcases HR.out.ph with ⟨p1, p2, p3⟩ | ⟨p1, p2, p3⟩
      · have e2 : wr.cell? ⟨Q, 2, none⟩ = some (.int .i64 0) := by obtain ⟨_, _, h1, _⟩ := p3; exact h1.cell 2
        have b4 : wr.cell? ⟨w.heap.size + 1, 4, none⟩ = some la := HR.out.at1.cell 4
        obtain ⟨c, q', er', hcb, hby, hnext⟩ : ∃ (c : Int) (q' : Nat) (er' : Int), (0 ≤ c ∧ c < 256) ∧ (Calls Tryd.prog 59 #[.pointer (some ⟨Q, 0, none⟩), .int .u8 0, .int .u8 255] wr.drew fun r w' => r = .returned (.int .u8 c) ∧ DR w' Q sb L q' er' ∧ wr.drew.grownBy w' (some Q)) ∧
            (∀ W, DR W Q sb L q' er' → (bl ++ [c] = (L.drop q).take (k + 1) ∧ q + (k + 1) ≤ L.length ∧ DR W Q sb L (q + (k + 1)) 0) ∨ ((bl ++ [c]).length ≤ n ∧ L.length < q + n ∧ DR W Q sb L L.length 32)) := by
          have hbl : bl.length = k := by rw [p1, List.length_take, List.length_drop]; omega
          have hba := rbyte_any Q sb L (q + k) 0 255 wr.drew p3
          by_cases hav : q + k < L.length
          · have hc := HBD.out _ (List.getElem_mem hav)
            rw [List.drop_eq_getElem_cons hav, pbyte_all _ _ hc] at hba
            refine ⟨L[q + k], q + (k + 1), 0, hc, hba.mono ?_, fun W hW => Or.inl ⟨?_, by omega, hW⟩⟩
            · rintro r w' ⟨⟨rfl, h1⟩, h2⟩; exact ⟨rfl, h1, h2⟩
            · rw [List.take_succ_eq_append_getElem (by rw [List.length_drop]; omega), ← p1, List.getElem_drop]
          · have hl : q + k = L.length := by omega
            have hb0 : pbyte 0 255 (L.drop (q + k)) = .bad 0 32 := by rw [List.drop_eq_nil_of_le (by omega)]; rfl
            rw [hb0] at hba
            refine ⟨0, L.length, 32, by omega, hba.mono ?_, fun W hW => Or.inr ⟨by rw [List.length_append, List.length_singleton]; omega, by omega, hW⟩⟩
            rintro r w' ⟨⟨rfl, h1, _⟩, h2⟩; exact ⟨rfl, by rw [← hl]; exact h1, h2⟩
        have hbl : bl.length ≤ 65536 := by rw [p1, List.length_take]; omega
        replace hby := hide hby
        replace hnext := hide hnext
        have hsi := HR.out.si
        have bd4 : wr.drew.cell? ⟨w.heap.size + 1, 4, none⟩ = some la := b4
        clear p1 p2 p3
        obtain ⟨i0, hi, hz0, hz1, hz2⟩ := info_parts Tryd.infoU8
        go_wp2_with fail
        refine wp_region_noPanic ?_
        refine wp_region_held_drew (S := fun _ => True) (by assumption) trivial (fun _ => ?_)
        refine take_yes (v := ?_) 0 (some 43) rfl rfl (by kernel_rfl) (by kernel_rfl) (by kernel_rfl) (fun _ _ _ h => (h : False).elim) (by rfl) ?_ trivial ?_
        rotate_left
        · intro w' hSw
          go_simp
          try with_reducible rfl
        try simp only [Act.put, List.setIfInBounds_toArray, List.set_cons_zero, List.set_cons_succ]
        refine take_yes (v := ?_) 2 (some 45) rfl rfl (by kernel_rfl) (by kernel_rfl) (by kernel_rfl) (fun _ _ _ h => (h : False).elim) (by rfl) ?_ trivial ?_
        rotate_left
        · intro w' hSw
          go_simp
          try with_reducible rfl
        try simp only [Act.put, List.setIfInBounds_toArray, List.set_cons_zero, List.set_cons_succ]
        refine wpAnyH_ready (rs := [1, 3]) (by kernel_rfl) (by simp) ?_
        refine (AllReadyH.cons rfl (fun K hK => ?_) (AllReadyH.cons rfl (fun K hK => ?_) AllReadyH.nil))
        · go_simp
          refine hK.out _ _ trivial (fun _ => ?_)
          clear hK K
          try simp only [Act.put, List.setIfInBounds_toArray, List.set_cons_zero, List.set_cons_succ]
          refine wpAnyH_ready (rs := [3]) (by kernel_rfl) (by simp) ?_
          refine (AllReadyH.cons rfl (fun K hK => ?_) AllReadyH.nil)
          · go_simp
            go_at_call 59
            refine hby.out.mono ?_
            rintro e w5 ⟨rfl, hd5, hg5'⟩
            have hg5 : wr.grownBy w5 (some Q) := grown_trans (grown_of_gr ((Gr.refl wr).drew) (some Q)) hg5'
            clear hg5'
            have hs5 := hg5.size
            have HA0 := hide ((HR.out.at0.grown hg5 (by intro h; simp only [Option.some.injEq] at h; omega)).alloc (.cells #[.int .u8 c] 5))
            have HI1 := HR.out.at1.grown hg5 (by intro h; simp only [Option.some.injEq] at h; omega)
            have HA1 := hide (HI1.alloc (.cells #[.int .u8 c] 5))
            have HO5 := hide ((HR.out.own.kept hg5 (by right; intro he; have := HR.out.own.lt _ he; omega)).alloc (.cells #[.int .u8 c] 5))
            have HOL : Hid (∀ j, la.ownBlock = some j → w.heap.size + 1 + 1 ≤ j) := fun j hj => (HR.out.own.lt j hj).1
            have HD5 := hide (hd5.gr ((Gr.refl w5).alloc (.cells #[.int .u8 c] 5)))
            have HG5 := hide (grown_trans (grown_trans HR.out.gr hg5) (grown_of_gr ((Gr.refl w5).alloc (.cells #[.int .u8 c] 5)) _))
            have c4 : w5.cell? ⟨w.heap.size + 1, 4, none⟩ = some la := HI1.cell 4
            have d4 : (w5.alloc (.cells #[.int .u8 c] 5)).cell? ⟨w.heap.size + 1, 4, none⟩ = some la := HA1.out.cell 4
            clear hd5 hg5 HI1
            first | refine hK.out _ _ trivial (fun _ => ?_) | (go_wp2_with fail; refine hK.out _ _ trivial (fun _ => ?_))
            clear hK K
            try simp only [Act.put, List.setIfInBounds_toArray, List.set_cons_zero, List.set_cons_succ]
            refine wpAnyH_ready (rs := [4]) (by kernel_rfl) (by simp) ?_
            refine (AllReadyH.cons rfl (fun K hK => ?_) AllReadyH.nil)
            · go_simp
              refine hK.out _ _ trivial (fun _ => ?_)
              clear hK K
              try simp only [Act.put, List.setIfInBounds_toArray, List.set_cons_zero, List.set_cons_succ]
              refine wpAnyH_ready (rs := [5]) (by kernel_rfl) (by simp) ?_
              refine (AllReadyH.cons rfl (fun K hK => ?_) AllReadyH.nil)
              · refine step_append_lies _ (by rfl) (.tmp 44) (.tmp 47) 25 (by rfl) (w.heap.size + 1 + 1) 5 i0 (.int .u8 0) 1 1 Tryd.underlying25 hi hz0 hz1 hz2 rfl (by decide) _ _ _ (by rfl) HO5.out ⟨w5.heap.size, 0, none⟩ 1 1 #[.int .u8 c].toList (by rfl) rfl (World.news_of_block (heap_alloc_new w5 _)) (by intro u hu; simp at hu; subst hu; rfl) (by decide) (by unfold maxLen; omega) (by omega) (by rw [World.size_alloc]; omega) (w5.heap.size + 1) (World.size_alloc _ _) ?_
                intro g6 c6 w6 hown6 hgrow6 _ hg6
                have hs6 := hgrow6.size
                have hs7 := World.size_alloc w5 (.cells #[.int .u8 c] 5)
                have hown6' : w6.ownsRow (w.heap.size + 1 + 1) 5 1 (.slice (some ⟨g6, 0, none⟩) (bl.length + 1) c6) (bl.length + 1) (u8s (bl ++ [c])) := by rw [u8s_app]; exact hown6
                have HO6 := hide hown6'
                have HB0 := hide (HA0.out.grown hgrow6 (by intro he; have := HOL.out _ he.symm; omega))
                have HB1 := hide (HA1.out.grown hgrow6 (by intro he; have := HOL.out _ he.symm; omega))
                have HD6 := hide (HD5.out.grown hgrow6 (by intro he; have := HOL.out _ he.symm; omega) (by intro he; have := HOL.out _ he.symm; omega))
                have HG6 := hide (grown_far HG5.out hgrow6 (fun j hj => by have := HOL.out _ hj; omega))
                have s2 : w6.cell? ⟨w.heap.size + 1, 4, none⟩ = some la := HB1.out.cell 4
                have s3 := HB1.out.free 4
                clear hown6 hown6' hgrow6 HA0 HA1 HD5 HG5 HO5 HOL
                refine hK.out _ _ trivial (fun _ => ?_)
                clear hK K
                try simp only [Act.put, List.setIfInBounds_toArray]
                refine wpAnyH_ready (rs := [6]) (by kernel_rfl) (by simp) ?_
                refine (AllReadyH.cons rfl (fun K hK => ?_) AllReadyH.nil)
                · go_simp
                  refine hK.out _ _ trivial (fun _ => ?_)
                  clear hK K
                  try simp only [Act.put, List.setIfInBounds_toArray, List.set_cons_zero, List.set_cons_succ]
                  refine wpAnyH_ready (rs := [7]) (by kernel_rfl) (by simp) ?_
                  refine (AllReadyH.cons rfl (fun K hK => ?_) AllReadyH.nil)
                  · go_simp
                    refine hK.out _ _ trivial (fun _ => ?_)
                    clear hK K
                    try simp only [Act.put, List.setIfInBounds_toArray]
                    refine wpAnyH_done (by kernel_rfl) ?_ _
                    refine NoPanic.normal ?_
                    have HN : Hid (RL w (w6.setCell ⟨w.heap.size + 1, 4, none⟩ (.slice (some ⟨g6, 0, none⟩) (bl.length + 1) c6)) Q sb L q n (k + 1) (.slice (some ⟨g6, 0, none⟩) (bl.length + 1) c6) (bl ++ [c])) := ⟨by rw [List.length_append, List.length_singleton]; exact ownsRow_setCell_other HO6.out (a := ⟨w.heap.size + 1, 4, none⟩) (by simp only [Value.ownBlock, ne_eq, Option.some.injEq]; have := HO6.out.lt g6 rfl; omega) _, HB0.out.setOther (a := ⟨w.heap.size + 1, 4, none⟩) (by simp) _, HB1.out.setj 4 _, grown_new HG6.out (a := ⟨w.heap.size + 1, 4, none⟩) (by simp) _, by rw [size_setCell]; omega, hnext.out _ (HD6.out.set (a := ⟨w.heap.size + 1, 4, none⟩) (by simp only []; omega) (by simp only []; omega) _)⟩
                    clear HO6 HB0 HB1 HG6 HD6 s2 s3
                    generalize w6.setCell ⟨w.heap.size + 1, 4, none⟩ (.slice (some ⟨g6, 0, none⟩) (bl.length + 1) c6) = w7 at HN ⊢
                    go_wp2
                    go_roundw
                    case rel => exact ⟨k + 1, _, _, by go_num, by omega, HN⟩
                    case measure => simp [intOf]; omega
        · go_simp
          go_at_call 59
          refine hby.out.mono ?_
          rintro e w5 ⟨rfl, hd5, hg5'⟩
          have hg5 : wr.grownBy w5 (some Q) := grown_trans (grown_of_gr ((Gr.refl wr).drew) (some Q)) hg5'
          clear hg5'
          have hs5 := hg5.size
          have HA0 := hide ((HR.out.at0.grown hg5 (by intro h; simp only [Option.some.injEq] at h; omega)).alloc (.cells #[.int .u8 c] 5))
          have HI1 := HR.out.at1.grown hg5 (by intro h; simp only [Option.some.injEq] at h; omega)
          have HA1 := hide (HI1.alloc (.cells #[.int .u8 c] 5))
          have HO5 := hide ((HR.out.own.kept hg5 (by right; intro he; have := HR.out.own.lt _ he; omega)).alloc (.cells #[.int .u8 c] 5))
          have HOL : Hid (∀ j, la.ownBlock = some j → w.heap.size + 1 + 1 ≤ j) := fun j hj => (HR.out.own.lt j hj).1
          have HD5 := hide (hd5.gr ((Gr.refl w5).alloc (.cells #[.int .u8 c] 5)))
          have HG5 := hide (grown_trans (grown_trans HR.out.gr hg5) (grown_of_gr ((Gr.refl w5).alloc (.cells #[.int .u8 c] 5)) _))
          have c4 : w5.cell? ⟨w.heap.size + 1, 4, none⟩ = some la := HI1.cell 4
          have d4 : (w5.alloc (.cells #[.int .u8 c] 5)).cell? ⟨w.heap.size + 1, 4, none⟩ = some la := HA1.out.cell 4
          clear hd5 hg5 HI1
          first | refine hK.out _ _ trivial (fun _ => ?_) | (go_wp2_with fail; refine hK.out _ _ trivial (fun _ => ?_))
          clear hK K
          try simp only [Act.put, List.setIfInBounds_toArray, List.set_cons_zero, List.set_cons_succ]
          refine wpAnyH_ready (rs := [1, 4]) (by kernel_rfl) (by simp) ?_
          refine (AllReadyH.cons rfl (fun K hK => ?_) (AllReadyH.cons rfl (fun K hK => ?_) AllReadyH.nil))
          · go_simp
            refine hK.out _ _ trivial (fun _ => ?_)
            clear hK K
            try simp only [Act.put, List.setIfInBounds_toArray, List.set_cons_zero, List.set_cons_succ]
            refine wpAnyH_ready (rs := [4]) (by kernel_rfl) (by simp) ?_
            refine (AllReadyH.cons rfl (fun K hK => ?_) AllReadyH.nil)
            · go_simp
              refine hK.out _ _ trivial (fun _ => ?_)
              clear hK K
              try simp only [Act.put, List.setIfInBounds_toArray, List.set_cons_zero, List.set_cons_succ]
              refine wpAnyH_ready (rs := [5]) (by kernel_rfl) (by simp) ?_
              refine (AllReadyH.cons rfl (fun K hK => ?_) AllReadyH.nil)
              · refine step_append_lies _ (by rfl) (.tmp 44) (.tmp 47) 25 (by rfl) (w.heap.size + 1 + 1) 5 i0 (.int .u8 0) 1 1 Tryd.underlying25 hi hz0 hz1 hz2 rfl (by decide) _ _ _ (by rfl) HO5.out ⟨w5.heap.size, 0, none⟩ 1 1 #[.int .u8 c].toList (by rfl) rfl (World.news_of_block (heap_alloc_new w5 _)) (by intro u hu; simp at hu; subst hu; rfl) (by decide) (by unfold maxLen; omega) (by omega) (by rw [World.size_alloc]; omega) (w5.heap.size + 1) (World.size_alloc _ _) ?_
                intro g6 c6 w6 hown6 hgrow6 _ hg6
                have hs6 := hgrow6.size
                have hs7 := World.size_alloc w5 (.cells #[.int .u8 c] 5)
                have hown6' : w6.ownsRow (w.heap.size + 1 + 1) 5 1 (.slice (some ⟨g6, 0, none⟩) (bl.length + 1) c6) (bl.length + 1) (u8s (bl ++ [c])) := by rw [u8s_app]; exact hown6
                have HO6 := hide hown6'
                have HB0 := hide (HA0.out.grown hgrow6 (by intro he; have := HOL.out _ he.symm; omega))
                have HB1 := hide (HA1.out.grown hgrow6 (by intro he; have := HOL.out _ he.symm; omega))
                have HD6 := hide (HD5.out.grown hgrow6 (by intro he; have := HOL.out _ he.symm; omega) (by intro he; have := HOL.out _ he.symm; omega))
                have HG6 := hide (grown_far HG5.out hgrow6 (fun j hj => by have := HOL.out _ hj; omega))
                have s2 : w6.cell? ⟨w.heap.size + 1, 4, none⟩ = some la := HB1.out.cell 4
                have s3 := HB1.out.free 4
                clear hown6 hown6' hgrow6 HA0 HA1 HD5 HG5 HO5 HOL
                refine hK.out _ _ trivial (fun _ => ?_)
                clear hK K
                try simp only [Act.put, List.setIfInBounds_toArray]
                refine wpAnyH_ready (rs := [6]) (by kernel_rfl) (by simp) ?_
                refine (AllReadyH.cons rfl (fun K hK => ?_) AllReadyH.nil)
                · go_simp
                  refine hK.out _ _ trivial (fun _ => ?_)
                  clear hK K
                  try simp only [Act.put, List.setIfInBounds_toArray, List.set_cons_zero, List.set_cons_succ]
                  refine wpAnyH_ready (rs := [7]) (by kernel_rfl) (by simp) ?_
                  refine (AllReadyH.cons rfl (fun K hK => ?_) AllReadyH.nil)
                  · go_simp
                    refine hK.out _ _ trivial (fun _ => ?_)
                    clear hK K
                    try simp only [Act.put, List.setIfInBounds_toArray]
                    refine wpAnyH_done (by kernel_rfl) ?_ _
                    refine NoPanic.normal ?_
                    have HN : Hid (RL w (w6.setCell ⟨w.heap.size + 1, 4, none⟩ (.slice (some ⟨g6, 0, none⟩) (bl.length + 1) c6)) Q sb L q n (k + 1) (.slice (some ⟨g6, 0, none⟩) (bl.length + 1) c6) (bl ++ [c])) := ⟨by rw [List.length_append, List.length_singleton]; exact ownsRow_setCell_other HO6.out (a := ⟨w.heap.size + 1, 4, none⟩) (by simp only [Value.ownBlock, ne_eq, Option.some.injEq]; have := HO6.out.lt g6 rfl; omega) _, HB0.out.setOther (a := ⟨w.heap.size + 1, 4, none⟩) (by simp) _, HB1.out.setj 4 _, grown_new HG6.out (a := ⟨w.heap.size + 1, 4, none⟩) (by simp) _, by rw [size_setCell]; omega, hnext.out _ (HD6.out.set (a := ⟨w.heap.size + 1, 4, none⟩) (by simp only []; omega) (by simp only []; omega) _)⟩
                    clear HO6 HB0 HB1 HG6 HD6 s2 s3
                    generalize w6.setCell ⟨w.heap.size + 1, 4, none⟩ (.slice (some ⟨g6, 0, none⟩) (bl.length + 1) c6) = w7 at HN ⊢
                    go_wp2
                    go_roundw
                    case rel => exact ⟨k + 1, _, _, by go_num, by omega, HN⟩
                    case measure => simp [intOf]; omega
          · go_simp
            refine hK.out _ _ trivial (fun _ => ?_)
            clear hK K
            try simp only [Act.put, List.setIfInBounds_toArray, List.set_cons_zero, List.set_cons_succ]
            refine wpAnyH_ready (rs := [1]) (by kernel_rfl) (by simp) ?_
            refine (AllReadyH.cons rfl (fun K hK => ?_) AllReadyH.nil)
            · go_simp
              refine hK.out _ _ trivial (fun _ => ?_)
              clear hK K
              try simp only [Act.put, List.setIfInBounds_toArray, List.set_cons_zero, List.set_cons_succ]
              refine wpAnyH_ready (rs := [5]) (by kernel_rfl) (by simp) ?_
              refine (AllReadyH.cons rfl (fun K hK => ?_) AllReadyH.nil)
              · refine step_append_lies _ (by rfl) (.tmp 44) (.tmp 47) 25 (by rfl) (w.heap.size + 1 + 1) 5 i0 (.int .u8 0) 1 1 Tryd.underlying25 hi hz0 hz1 hz2 rfl (by decide) _ _ _ (by rfl) HO5.out ⟨w5.heap.size, 0, none⟩ 1 1 #[.int .u8 c].toList (by rfl) rfl (World.news_of_block (heap_alloc_new w5 _)) (by intro u hu; simp at hu; subst hu; rfl) (by decide) (by unfold maxLen; omega) (by omega) (by rw [World.size_alloc]; omega) (w5.heap.size + 1) (World.size_alloc _ _) ?_
                intro g6 c6 w6 hown6 hgrow6 _ hg6
                have hs6 := hgrow6.size
                have hs7 := World.size_alloc w5 (.cells #[.int .u8 c] 5)
                have hown6' : w6.ownsRow (w.heap.size + 1 + 1) 5 1 (.slice (some ⟨g6, 0, none⟩) (bl.length + 1) c6) (bl.length + 1) (u8s (bl ++ [c])) := by rw [u8s_app]; exact hown6
                have HO6 := hide hown6'
                have HB0 := hide (HA0.out.grown hgrow6 (by intro he; have := HOL.out _ he.symm; omega))
                have HB1 := hide (HA1.out.grown hgrow6 (by intro he; have := HOL.out _ he.symm; omega))
                have HD6 := hide (HD5.out.grown hgrow6 (by intro he; have := HOL.out _ he.symm; omega) (by intro he; have := HOL.out _ he.symm; omega))
                have HG6 := hide (grown_far HG5.out hgrow6 (fun j hj => by have := HOL.out _ hj; omega))
                have s2 : w6.cell? ⟨w.heap.size + 1, 4, none⟩ = some la := HB1.out.cell 4
                have s3 := HB1.out.free 4
                clear hown6 hown6' hgrow6 HA0 HA1 HD5 HG5 HO5 HOL
                refine hK.out _ _ trivial (fun _ => ?_)
                clear hK K
                try simp only [Act.put, List.setIfInBounds_toArray]
                refine wpAnyH_ready (rs := [6]) (by kernel_rfl) (by simp) ?_
                refine (AllReadyH.cons rfl (fun K hK => ?_) AllReadyH.nil)
                · go_simp
                  refine hK.out _ _ trivial (fun _ => ?_)
                  clear hK K
                  try simp only [Act.put, List.setIfInBounds_toArray, List.set_cons_zero, List.set_cons_succ]
                  refine wpAnyH_ready (rs := [7]) (by kernel_rfl) (by simp) ?_
                  refine (AllReadyH.cons rfl (fun K hK => ?_) AllReadyH.nil)
                  · go_simp
                    refine hK.out _ _ trivial (fun _ => ?_)
                    clear hK K
                    try simp only [Act.put, List.setIfInBounds_toArray]
                    refine wpAnyH_done (by kernel_rfl) ?_ _
                    refine NoPanic.normal ?_
                    have HN : Hid (RL w (w6.setCell ⟨w.heap.size + 1, 4, none⟩ (.slice (some ⟨g6, 0, none⟩) (bl.length + 1) c6)) Q sb L q n (k + 1) (.slice (some ⟨g6, 0, none⟩) (bl.length + 1) c6) (bl ++ [c])) := ⟨by rw [List.length_append, List.length_singleton]; exact ownsRow_setCell_other HO6.out (a := ⟨w.heap.size + 1, 4, none⟩) (by simp only [Value.ownBlock, ne_eq, Option.some.injEq]; have := HO6.out.lt g6 rfl; omega) _, HB0.out.setOther (a := ⟨w.heap.size + 1, 4, none⟩) (by simp) _, HB1.out.setj 4 _, grown_new HG6.out (a := ⟨w.heap.size + 1, 4, none⟩) (by simp) _, by rw [size_setCell]; omega, hnext.out _ (HD6.out.set (a := ⟨w.heap.size + 1, 4, none⟩) (by simp only []; omega) (by simp only []; omega) _)⟩
                    clear HO6 HB0 HB1 HG6 HD6 s2 s3
                    generalize w6.setCell ⟨w.heap.size + 1, 4, none⟩ (.slice (some ⟨g6, 0, none⟩) (bl.length + 1) c6) = w7 at HN ⊢
                    go_wp2
                    go_roundw
                    case rel => exact ⟨k + 1, _, _, by go_num, by omega, HN⟩
                    case measure => simp [intOf]; omega
      · have e2 : wr.cell? ⟨Q, 2, none⟩ = some (.int .i64 32) := by obtain ⟨_, _, h1, _⟩ := p3; exact h1.cell 2
        have he2 : ((32 : Int) == 0) = false := rfl
        obtain ⟨la, lc, rfl⟩ : ∃ a cp, la = .slice a bl.length cp := by
          rcases HR.out.own.2 with ⟨h1, h2⟩ | ⟨g, cp, cur, h1, _⟩
          · exact ⟨none, 0, by rw [h1, h2]⟩
          · exact ⟨_, _, h1⟩
        have a0 : wr.cell? ⟨w.heap.size, 0, none⟩ = some (.int .i64 0) := HR.out.at0.cell 0
        have a1 : wr.cell? ⟨w.heap.size, 1, none⟩ = some (.int .u64 0) := HR.out.at0.cell 1
        have a2 : wr.cell? ⟨w.heap.size, 2, none⟩ = some (.int .i64 0) := HR.out.at0.cell 2
        have a3 : wr.cell? ⟨w.heap.size, 3, none⟩ = some (.bool false) := HR.out.at0.cell 3
        have a4 : wr.cell? ⟨w.heap.size, 4, none⟩ = some (.slice none 0 0) := HR.out.at0.cell 4
        have a5 : wr.cell? ⟨w.heap.size, 5, none⟩ = some (.int .i64 0) := HR.out.at0.cell 5
        have a6 : wr.cell? ⟨w.heap.size, 6, none⟩ = some (.int .u64 0) := HR.out.at0.cell 6
        have a7 : wr.cell? ⟨w.heap.size, 7, none⟩ = some (.int .i64 0) := HR.out.at0.cell 7
        have a8 : wr.cell? ⟨w.heap.size, 8, none⟩ = some (.int .u64 0) := HR.out.at0.cell 8
        have a9 : wr.cell? ⟨w.heap.size, 9, none⟩ = some (.int .i64 0) := HR.out.at0.cell 9
        have a10 : wr.cell? ⟨w.heap.size, 10, none⟩ = some (.int .i64 0) := HR.out.at0.cell 10
        have a11 : wr.cell? ⟨w.heap.size, 11, none⟩ = some (.int .u64 0) := HR.out.at0.cell 11
        have a12 : wr.cell? ⟨w.heap.size, 12, none⟩ = some (.int .i64 0) := HR.out.at0.cell 12
        have a13 : wr.cell? ⟨w.heap.size, 13, none⟩ = some (.int .u64 0) := HR.out.at0.cell 13
        have b0 : wr.cell? ⟨w.heap.size + 1, 0, none⟩ = some (.int .i64 4) := HR.out.at1.cell 0
        have b1 : wr.cell? ⟨w.heap.size + 1, 1, none⟩ = some (.int .u64 0) := HR.out.at1.cell 1
        have b2 : wr.cell? ⟨w.heap.size + 1, 2, none⟩ = some (.int .i64 0) := HR.out.at1.cell 2
        have b3 : wr.cell? ⟨w.heap.size + 1, 3, none⟩ = some (.bool false) := HR.out.at1.cell 3
        have b4 : wr.cell? ⟨w.heap.size + 1, 4, none⟩ = some (.slice la bl.length lc) := HR.out.at1.cell 4
        have b5 : wr.cell? ⟨w.heap.size + 1, 5, none⟩ = some (.int .i64 0) := HR.out.at1.cell 5
        have b6 : wr.cell? ⟨w.heap.size + 1, 6, none⟩ = some (.int .u64 0) := HR.out.at1.cell 6
        have b7 : wr.cell? ⟨w.heap.size + 1, 7, none⟩ = some (.int .i64 0) := HR.out.at1.cell 7
        have b8 : wr.cell? ⟨w.heap.size + 1, 8, none⟩ = some (.int .u64 0) := HR.out.at1.cell 8
        have b9 : wr.cell? ⟨w.heap.size + 1, 9, none⟩ = some (.int .i64 0) := HR.out.at1.cell 9
        have b10 : wr.cell? ⟨w.heap.size + 1, 10, none⟩ = some (.int .i64 0) := HR.out.at1.cell 10
        have b11 : wr.cell? ⟨w.heap.size + 1, 11, none⟩ = some (.int .u64 0) := HR.out.at1.cell 11
        have b12 : wr.cell? ⟨w.heap.size + 1, 12, none⟩ = some (.int .i64 0) := HR.out.at1.cell 12
        have b13 : wr.cell? ⟨w.heap.size + 1, 13, none⟩ = some (.int .u64 0) := HR.out.at1.cell 13
        have f0 := HR.out.at0.free 0
        have f1 := HR.out.at0.free 1
        have f2 := HR.out.at0.free 2
        have f3 := HR.out.at0.free 3
        have f4 := HR.out.at0.free 4
        have f5 := HR.out.at0.free 5
        have f6 := HR.out.at0.free 6
        have f7 := HR.out.at0.free 7
        have f8 := HR.out.at0.free 8
        have f9 := HR.out.at0.free 9
        have f10 := HR.out.at0.free 10
        have f11 := HR.out.at0.free 11
        have f12 := HR.out.at0.free 12
        have f13 := HR.out.at0.free 13
        go_wp2
        have hW : ((((((((((((((wr.setCell ⟨w.heap.size, 0, none⟩ (.int .i64 4)).setCell ⟨w.heap.size, 1, none⟩ (.int .u64 0)).setCell ⟨w.heap.size, 2, none⟩ (.int .i64 0)).setCell ⟨w.heap.size, 3, none⟩ (.bool false)).setCell ⟨w.heap.size, 4, none⟩ (.slice la bl.length lc)).setCell ⟨w.heap.size, 5, none⟩ (.int .i64 0)).setCell ⟨w.heap.size, 6, none⟩ (.int .u64 0)).setCell ⟨w.heap.size, 7, none⟩ (.int .i64 0)).setCell ⟨w.heap.size, 8, none⟩ (.int .u64 0)).setCell ⟨w.heap.size, 9, none⟩ (.int .i64 0)).setCell ⟨w.heap.size, 10, none⟩ (.int .i64 0)).setCell ⟨w.heap.size, 11, none⟩ (.int .u64 0)).setCell ⟨w.heap.size, 12, none⟩ (.int .i64 0)).setCell ⟨w.heap.size, 13, none⟩ (.int .u64 0)) = putCells wr w.heap.size 0 [.int .i64 4, .int .u64 0, .int .i64 0, .bool false, .slice la bl.length lc, .int .i64 0, .int .u64 0, .int .i64 0, .int .u64 0, .int .i64 0, .int .i64 0, .int .u64 0, .int .i64 0, .int .u64 0] := rfl
        rw [hW]
        clear hW
        have hfin := putCells_is (cs := [.int .i64 0, .int .u64 0, .int .i64 0, .bool false, .slice none 0 0, .int .i64 0, .int .u64 0, .int .i64 0, .int .u64 0, .int .i64 0, .int .i64 0, .int .u64 0, .int .i64 0, .int .u64 0]) HR.out.at0 [.int .i64 4, .int .u64 0, .int .i64 0, .bool false, .slice la bl.length lc, .int .i64 0, .int .u64 0, .int .i64 0, .int .u64 0, .int .i64 0, .int .i64 0, .int .u64 0, .int .i64 0, .int .u64 0] rfl
        have hat1 := putCells_other (b := w.heap.size) (show w.heap.size + 1 ≠ w.heap.size by omega) [.int .i64 4, .int .u64 0, .int .i64 0, .bool false, .slice la bl.length lc, .int .i64 0, .int .u64 0, .int .i64 0, .int .u64 0, .int .i64 0, .int .i64 0, .int .u64 0, .int .i64 0, .int .u64 0] _ 0 HR.out.at1
        have hgr := putCells_grown (b := w.heap.size) (Nat.le_refl _) [.int .i64 4, .int .u64 0, .int .i64 0, .bool false, .slice la bl.length lc, .int .i64 0, .int .u64 0, .int .i64 0, .int .u64 0, .int .i64 0, .int .i64 0, .int .u64 0, .int .i64 0, .int .u64 0] _ 0 HR.out.gr
        have hown := putCells_own (b := w.heap.size) (fun j hj => by have := HR.out.own.lt j hj; omega) [.int .i64 4, .int .u64 0, .int .i64 0, .bool false, .slice la bl.length lc, .int .i64 0, .int .u64 0, .int .i64 0, .int .u64 0, .int .i64 0, .int .i64 0, .int .u64 0, .int .i64 0, .int .u64 0] _ 0 HR.out.own
        have hsz7 := putCells_size w.heap.size [.int .i64 4, .int .u64 0, .int .i64 0, .bool false, .slice la bl.length lc, .int .i64 0, .int .u64 0, .int .i64 0, .int .u64 0, .int .i64 0, .int .i64 0, .int .u64 0, .int .i64 0, .int .u64 0] wr 0
        have hdr := fun (x : Nat) (y : Int) (h : DR wr Q sb L x y) => putCells_dr (b := w.heap.size) (show Q ≠ w.heap.size by omega) (show sb ≠ w.heap.size by omega) [.int .i64 4, .int .u64 0, .int .i64 0, .bool false, .slice la bl.length lc, .int .i64 0, .int .u64 0, .int .i64 0, .int .u64 0, .int .i64 0, .int .i64 0, .int .u64 0, .int .i64 0, .int .u64 0] _ 0 h
        have hph := HR.out.ph
        have hsi := HR.out.si
        generalize putCells wr w.heap.size 0 [.int .i64 4, .int .u64 0, .int .i64 0, .bool false, .slice la bl.length lc, .int .i64 0, .int .u64 0, .int .i64 0, .int .u64 0, .int .i64 0, .int .i64 0, .int .u64 0, .int .i64 0, .int .u64 0] = W at hfin hat1 hgr hown hsz7 hdr ⊢
        refine bodyPost_ret (rfield_results W _ _ hfin rfl _ rfl) rfl ?_
        first | refine ⟨_, bl, rfl, hown, hgr, by omega, ?_⟩ | refine ⟨_, rfl, bl, hown, hgr, by omega, ?_⟩
        exact Or.inr ⟨p1, p2, hdr _ _ p3⟩
    · have hkn' : ¬ ((k : Int) < (n : Int)) := by omega
      obtain rfl : k = n := by omega
      obtain ⟨la, lc, rfl⟩ : ∃ a cp, la = .slice a bl.length cp := by
        rcases HR.out.own.2 with ⟨h1, h2⟩ | ⟨g, cp, cur, h1, _⟩
        · exact ⟨none, 0, by rw [h1, h2]⟩
        · exact ⟨_, _, h1⟩
      have a0 : wr.cell? ⟨w.heap.size, 0, none⟩ = some (.int .i64 0) := HR.out.at0.cell 0
      have a1 : wr.cell? ⟨w.heap.size, 1, none⟩ = some (.int .u64 0) := HR.out.at0.cell 1
      have a2 : wr.cell? ⟨w.heap.size, 2, none⟩ = some (.int .i64 0) := HR.out.at0.cell 2
      have a3 : wr.cell? ⟨w.heap.size, 3, none⟩ = some (.bool false) := HR.out.at0.cell 3
      have a4 : wr.cell? ⟨w.heap.size, 4, none⟩ = some (.slice none 0 0) := HR.out.at0.cell 4
      have a5 : wr.cell? ⟨w.heap.size, 5, none⟩ = some (.int .i64 0) := HR.out.at0.cell 5
      have a6 : wr.cell? ⟨w.heap.size, 6, none⟩ = some (.int .u64 0) := HR.out.at0.cell 6
      have a7 : wr.cell? ⟨w.heap.size, 7, none⟩ = some (.int .i64 0) := HR.out.at0.cell 7
      have a8 : wr.cell? ⟨w.heap.size, 8, none⟩ = some (.int .u64 0) := HR.out.at0.cell 8
      have a9 : wr.cell? ⟨w.heap.size, 9, none⟩ = some (.int .i64 0) := HR.out.at0.cell 9
      have a10 : wr.cell? ⟨w.heap.size, 10, none⟩ = some (.int .i64 0) := HR.out.at0.cell 10
      have a11 : wr.cell? ⟨w.heap.size, 11, none⟩ = some (.int .u64 0) := HR.out.at0.cell 11
      have a12 : wr.cell? ⟨w.heap.size, 12, none⟩ = some (.int .i64 0) := HR.out.at0.cell 12
      have a13 : wr.cell? ⟨w.heap.size, 13, none⟩ = some (.int .u64 0) := HR.out.at0.cell 13
      have b0 : wr.cell? ⟨w.heap.size + 1, 0, none⟩ = some (.int .i64 4) := HR.out.at1.cell 0
      have b1 : wr.cell? ⟨w.heap.size + 1, 1, none⟩ = some (.int .u64 0) := HR.out.at1.cell 1
      have b2 : wr.cell? ⟨w.heap.size + 1, 2, none⟩ = some (.int .i64 0) := HR.out.at1.cell 2
      have b3 : wr.cell? ⟨w.heap.size + 1, 3, none⟩ = some (.bool false) := HR.out.at1.cell 3
      have b4 : wr.cell? ⟨w.heap.size + 1, 4, none⟩ = some (.slice la bl.length lc) := HR.out.at1.cell 4
      have b5 : wr.cell? ⟨w.heap.size + 1, 5, none⟩ = some (.int .i64 0) := HR.out.at1.cell 5
      have b6 : wr.cell? ⟨w.heap.size + 1, 6, none⟩ = some (.int .u64 0) := HR.out.at1.cell 6
      have b7 : wr.cell? ⟨w.heap.size + 1, 7, none⟩ = some (.int .i64 0) := HR.out.at1.cell 7
      have b8 : wr.cell? ⟨w.heap.size + 1, 8, none⟩ = some (.int .u64 0) := HR.out.at1.cell 8
      have b9 : wr.cell? ⟨w.heap.size + 1, 9, none⟩ = some (.int .i64 0) := HR.out.at1.cell 9
      have b10 : wr.cell? ⟨w.heap.size + 1, 10, none⟩ = some (.int .i64 0) := HR.out.at1.cell 10
      have b11 : wr.cell? ⟨w.heap.size + 1, 11, none⟩ = some (.int .u64 0) := HR.out.at1.cell 11
      have b12 : wr.cell? ⟨w.heap.size + 1, 12, none⟩ = some (.int .i64 0) := HR.out.at1.cell 12
      have b13 : wr.cell? ⟨w.heap.size + 1, 13, none⟩ = some (.int .u64 0) := HR.out.at1.cell 13
      have f0 := HR.out.at0.free 0
      have f1 := HR.out.at0.free 1
      have f2 := HR.out.at0.free 2
      have f3 := HR.out.at0.free 3
      have f4 := HR.out.at0.free 4
      have f5 := HR.out.at0.free 5
      have f6 := HR.out.at0.free 6
      have f7 := HR.out.at0.free 7
      have f8 := HR.out.at0.free 8
      have f9 := HR.out.at0.free 9
      have f10 := HR.out.at0.free 10
      have f11 := HR.out.at0.free 11
      have f12 := HR.out.at0.free 12
      have f13 := HR.out.at0.free 13
      go_wp2
      have hW : ((((((((((((((wr.setCell ⟨w.heap.size, 0, none⟩ (.int .i64 4)).setCell ⟨w.heap.size, 1, none⟩ (.int .u64 0)).setCell ⟨w.heap.size, 2, none⟩ (.int .i64 0)).setCell ⟨w.heap.size, 3, none⟩ (.bool false)).setCell ⟨w.heap.size, 4, none⟩ (.slice la bl.length lc)).setCell ⟨w.heap.size, 5, none⟩ (.int .i64 0)).setCell ⟨w.heap.size, 6, none⟩ (.int .u64 0)).setCell ⟨w.heap.size, 7, none⟩ (.int .i64 0)).setCell ⟨w.heap.size, 8, none⟩ (.int .u64 0)).setCell ⟨w.heap.size, 9, none⟩ (.int .i64 0)).setCell ⟨w.heap.size, 10, none⟩ (.int .i64 0)).setCell ⟨w.heap.size, 11, none⟩ (.int .u64 0)).setCell ⟨w.heap.size, 12, none⟩ (.int .i64 0)).setCell ⟨w.heap.size, 13, none⟩ (.int .u64 0)) = putCells wr w.heap.size 0 [.int .i64 4, .int .u64 0, .int .i64 0, .bool false, .slice la bl.length lc, .int .i64 0, .int .u64 0, .int .i64 0, .int .u64 0, .int .i64 0, .int .i64 0, .int .u64 0, .int .i64 0, .int .u64 0] := rfl
      rw [hW]
      clear hW
      have hfin := putCells_is (cs := [.int .i64 0, .int .u64 0, .int .i64 0, .bool false, .slice none 0 0, .int .i64 0, .int .u64 0, .int .i64 0, .int .u64 0, .int .i64 0, .int .i64 0, .int .u64 0, .int .i64 0, .int .u64 0]) HR.out.at0 [.int .i64 4, .int .u64 0, .int .i64 0, .bool false, .slice la bl.length lc, .int .i64 0, .int .u64 0, .int .i64 0, .int .u64 0, .int .i64 0, .int .i64 0, .int .u64 0, .int .i64 0, .int .u64 0] rfl
      have hat1 := putCells_other (b := w.heap.size) (show w.heap.size + 1 ≠ w.heap.size by omega) [.int .i64 4, .int .u64 0, .int .i64 0, .bool false, .slice la bl.length lc, .int .i64 0, .int .u64 0, .int .i64 0, .int .u64 0, .int .i64 0, .int .i64 0, .int .u64 0, .int .i64 0, .int .u64 0] _ 0 HR.out.at1
      have hgr := putCells_grown (b := w.heap.size) (Nat.le_refl _) [.int .i64 4, .int .u64 0, .int .i64 0, .bool false, .slice la bl.length lc, .int .i64 0, .int .u64 0, .int .i64 0, .int .u64 0, .int .i64 0, .int .i64 0, .int .u64 0, .int .i64 0, .int .u64 0] _ 0 HR.out.gr
      have hown := putCells_own (b := w.heap.size) (fun j hj => by have := HR.out.own.lt j hj; omega) [.int .i64 4, .int .u64 0, .int .i64 0, .bool false, .slice la bl.length lc, .int .i64 0, .int .u64 0, .int .i64 0, .int .u64 0, .int .i64 0, .int .i64 0, .int .u64 0, .int .i64 0, .int .u64 0] _ 0 HR.out.own
      have hsz7 := putCells_size w.heap.size [.int .i64 4, .int .u64 0, .int .i64 0, .bool false, .slice la bl.length lc, .int .i64 0, .int .u64 0, .int .i64 0, .int .u64 0, .int .i64 0, .int .i64 0, .int .u64 0, .int .i64 0, .int .u64 0] wr 0
      have hdr := fun (x : Nat) (y : Int) (h : DR wr Q sb L x y) => putCells_dr (b := w.heap.size) (show Q ≠ w.heap.size by omega) (show sb ≠ w.heap.size by omega) [.int .i64 4, .int .u64 0, .int .i64 0, .bool false, .slice la bl.length lc, .int .i64 0, .int .u64 0, .int .i64 0, .int .u64 0, .int .i64 0, .int .i64 0, .int .u64 0, .int .i64 0, .int .u64 0] _ 0 h
      have hph := HR.out.ph
      have hsi := HR.out.si
      generalize putCells wr w.heap.size 0 [.int .i64 4, .int .u64 0, .int .i64 0, .bool false, .slice la bl.length lc, .int .i64 0, .int .u64 0, .int .i64 0, .int .u64 0, .int .i64 0, .int .i64 0, .int .u64 0, .int .i64 0, .int .u64 0] = W at hfin hat1 hgr hown hsz7 hdr ⊢
      refine bodyPost_ret (rfield_results W _ _ hfin rfl _ rfl) rfl ?_
      first | refine ⟨_, bl, rfl, hown, hgr, by omega, ?_⟩ | refine ⟨_, rfl, bl, hown, hgr, by omega, ?_⟩
      rcases hph with ⟨p1, p2, p3⟩ | ⟨p1, p2, p3⟩
      · exact Or.inl ⟨p1, p2, hdr _ _ p3⟩
      · exact Or.inr ⟨p1, p2, hdr _ _ p3⟩

end Go.Proofs.YtmhcmlegdoapdaaDoor
