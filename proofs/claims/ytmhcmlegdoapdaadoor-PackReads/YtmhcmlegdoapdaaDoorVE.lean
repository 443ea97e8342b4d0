/- The document's reader: fields of a ref. -/
import Derived.Test.YtmhcmlegdoapdaaDoorVD
namespace Go.Proofs.YtmhcmlegdoapdaaDoor
open Go.RowKit

set_option maxHeartbeats 8000000 in
set_option maxRecDepth 100000 in
theorem rfield_ref (Q sb : Nat) (L : List Int) (x : Int) (PP PV : Int → Int → Prop) (q1 q2 q : Nat) (er1 er2 er : Int) (w : World) (hQ : Q < w.heap.size) (hsb : sb < w.heap.size)
    (hb : ∀ W, Gr w W → Calls Tryd.prog 58 #[.pointer (some ⟨Q, 0, none⟩)] W fun r w' => r = .returned (.int .i64 x) ∧ DR w' Q sb L q1 er1 ∧ W.grownBy w' (some Q))
    (hk : ∀ W, DR W Q sb L q1 er1 → sb < W.heap.size → Calls Tryd.prog 61 #[.pointer (some ⟨Q, 0, none⟩)] W fun r w' => ∃ y1 y2, PP y1 y2 ∧ r = .returned ((.agg #[.int .i64 (y1), .int .u64 (y2)])) ∧ DR w' Q sb L q2 er2 ∧ W.grownBy w' (some Q))
    (hv : ∀ W, DR W Q sb L q2 er2 → sb < W.heap.size → Calls Tryd.prog 60 #[.pointer (some ⟨Q, 0, none⟩)] W fun r w' => ∃ z1 z2, PV z1 z2 ∧ r = .returned ((.agg #[.int .i64 (z1), .int .u64 (z2)])) ∧ DR w' Q sb L q er ∧ W.grownBy w' (some Q)) :
    Calls Tryd.prog 37 #[.pointer (some ⟨Q, 0, none⟩), .int .i64 7] w fun e w' => ∃ y1 y2 z1 z2, PP y1 y2 ∧ PV z1 z2 ∧ e = .returned (.agg #[.int .i64 7, .int .u64 0, .int .i64 0, .bool false, .slice none 0 0, .int .i64 0, .int .u64 0, .int .i64 0, .int .u64 0, .int .i64 x, .int .i64 y1, .int .u64 y2, .int .i64 z1, .int .u64 z2]) ∧ DR w' Q sb L q er ∧ w.grownBy w' (some Q) := by
  have I0 := (IsB.new w #[.int .i64 0, .int .u64 0, .int .i64 0, .bool false, .slice none 0 0, .int .i64 0, .int .u64 0, .int .i64 0, .int .u64 0, .int .i64 0, .int .i64 0, .int .u64 0, .int .i64 0, .int .u64 0] 34).alloc (.cells #[.int .i64 7, .int .u64 0, .int .i64 0, .bool false, .slice none 0 0, .int .i64 0, .int .u64 0, .int .i64 0, .int .u64 0, .int .i64 0, .int .i64 0, .int .u64 0, .int .i64 0, .int .u64 0] 34)
  have I1 := IsB.new (w.alloc (.cells #[.int .i64 0, .int .u64 0, .int .i64 0, .bool false, .slice none 0 0, .int .i64 0, .int .u64 0, .int .i64 0, .int .u64 0, .int .i64 0, .int .i64 0, .int .u64 0, .int .i64 0, .int .u64 0] 34)) #[.int .i64 7, .int .u64 0, .int .i64 0, .bool false, .slice none 0 0, .int .i64 0, .int .u64 0, .int .i64 0, .int .u64 0, .int .i64 0, .int .i64 0, .int .u64 0, .int .i64 0, .int .u64 0] 34
  rw [World.size_alloc] at I1
  have HG := hide (show Gr w ((w.alloc (.cells #[.int .i64 0, .int .u64 0, .int .i64 0, .bool false, .slice none 0 0, .int .i64 0, .int .u64 0, .int .i64 0, .int .u64 0, .int .i64 0, .int .i64 0, .int .u64 0, .int .i64 0, .int .u64 0] 34)).alloc (.cells #[.int .i64 7, .int .u64 0, .int .i64 0, .bool false, .slice none 0 0, .int .i64 0, .int .u64 0, .int .i64 0, .int .u64 0, .int .i64 0, .int .i64 0, .int .u64 0, .int .i64 0, .int .u64 0] 34)) from ((Gr.refl w).alloc _).alloc _)
  have hrow := hide (hb _ HG.out)
  have hl01 := I1.lt
  replace I0 := hide I0
  replace I1 := hide I1
  have HHK := hide hk
  have HHV := hide hv
  clear hb hk hv
  go_enter Tryd.func37, Tryd.ntmps37
  go_wp2_with fail
  generalize (w.alloc (.cells #[.int .i64 0, .int .u64 0, .int .i64 0, .bool false, .slice none 0 0, .int .i64 0, .int .u64 0, .int .i64 0, .int .u64 0, .int .i64 0, .int .i64 0, .int .u64 0, .int .i64 0, .int .u64 0] 34)).alloc (.cells #[.int .i64 7, .int .u64 0, .int .i64 0, .bool false, .slice none 0 0, .int .i64 0, .int .u64 0, .int .i64 0, .int .u64 0, .int .i64 0, .int .i64 0, .int .u64 0, .int .i64 0, .int .u64 0] 34) = W0 at I0 I1 HG hrow hl01 ⊢
  refine hrow.out.mono ?_
  rintro e w1 ⟨rfl, hrd, hgr⟩
  have hlW0 : w.heap.size + 1 < W0.heap.size := hl01
  have HGR := hide (grown_trans (grown_of_gr HG.out _) hgr)
  clear hrow
  replace I0 := hide (I0.out.grown hgr (by intro h; simp only [Option.some.injEq] at h; omega))
  replace I1 := hide (I1.out.grown hgr (by intro h; simp only [Option.some.injEq] at h; omega))
  have b9 : w1.cell? ⟨w.heap.size + 1, 9, none⟩ = some (.int .i64 0) := I1.out.cell 9
  have q9 := I1.out.free 9
  have HRD := hide hrd
  have hsz := hgr.size
  clear hrd hgr
  go_wp2_with fail
  have HRD2 := hide (DR.set HRD.out (a := ⟨w.heap.size + 1, 9, none⟩) (by simp only []; omega) (by simp only []; omega) (.int .i64 x))
  replace I0 := hide (IsB.setOther I0.out (a := ⟨w.heap.size + 1, 9, none⟩) (by simp) (.int .i64 x))
  replace I1 := hide (I1.out.setj 9 (.int .i64 x))
  replace HGR := hide (grown_new HGR.out (a := ⟨w.heap.size + 1, 9, none⟩) (by simp) (.int .i64 x))
  have hs2 := size_setCell w1 ⟨w.heap.size + 1, 9, none⟩ (.int .i64 x)
  clear b9 q9 HRD
  generalize w1.setCell ⟨w.heap.size + 1, 9, none⟩ (.int .i64 x) = W1 at I0 I1 HGR HRD2 hs2 ⊢
  refine (HHK.out W1 HRD2.out (by omega)).mono ?_
  rintro e w2 ⟨y1, y2, hpk, rfl, hrd, hgr⟩
  replace HGR := hide (grown_trans HGR.out hgr)
  clear HRD2 HHK
  replace I0 := hide (I0.out.grown hgr (by intro h; simp only [Option.some.injEq] at h; omega))
  replace I1 := hide (I1.out.grown hgr (by intro h; simp only [Option.some.injEq] at h; omega))
  have b10 : w2.cell? ⟨w.heap.size + 1, 10, none⟩ = some (.int .i64 0) := I1.out.cell 10
  have q10 := I1.out.free 10
  have b11 : w2.cell? ⟨w.heap.size + 1, 11, none⟩ = some (.int .u64 0) := I1.out.cell 11
  have q11 := I1.out.free 11
  have HRD := hide hrd
  have hsz := hgr.size
  clear hrd hgr
  go_wp2_with fail
  have HRD2 := hide (DR.set (DR.set HRD.out (a := ⟨w.heap.size + 1, 10, none⟩) (by simp only []; omega) (by simp only []; omega) (.int .i64 y1)) (a := ⟨w.heap.size + 1, 11, none⟩) (by simp only []; omega) (by simp only []; omega) (.int .u64 y2))
  replace I0 := hide (IsB.setOther (IsB.setOther I0.out (a := ⟨w.heap.size + 1, 10, none⟩) (by simp) (.int .i64 y1)) (a := ⟨w.heap.size + 1, 11, none⟩) (by simp) (.int .u64 y2))
  replace I1 := hide (IsB.setj (IsB.setj I1.out 10 (.int .i64 y1)) 11 (.int .u64 y2))
  replace HGR := hide (grown_new (grown_new HGR.out (a := ⟨w.heap.size + 1, 10, none⟩) (by simp) (.int .i64 y1)) (a := ⟨w.heap.size + 1, 11, none⟩) (by simp) (.int .u64 y2))
  have hs3 : ((w2.setCell ⟨w.heap.size + 1, 10, none⟩ (.int .i64 y1)).setCell ⟨w.heap.size + 1, 11, none⟩ (.int .u64 y2)).heap.size = w2.heap.size := by rw [size_setCell, size_setCell]
  clear b10 q10 b11 q11 HRD
  generalize (w2.setCell ⟨w.heap.size + 1, 10, none⟩ (.int .i64 y1)).setCell ⟨w.heap.size + 1, 11, none⟩ (.int .u64 y2) = W2 at I0 I1 HGR HRD2 hs3 ⊢
  refine (HHV.out W2 HRD2.out (by omega)).mono ?_
  rintro e w3 ⟨z1, z2, hpv, rfl, hrd, hgr⟩
  replace HGR := hide (grown_trans HGR.out hgr)
  clear HRD2 HHV
  replace I0 := hide (I0.out.grown hgr (by intro h; simp only [Option.some.injEq] at h; omega))
  replace I1 := hide (I1.out.grown hgr (by intro h; simp only [Option.some.injEq] at h; omega))
  have HRD := hide hrd
  clear hrd hgr
  have a0 : w3.cell? ⟨w.heap.size, 0, none⟩ = some (.int .i64 0) := I0.out.cell 0
  have a1 : w3.cell? ⟨w.heap.size, 1, none⟩ = some (.int .u64 0) := I0.out.cell 1
  have a2 : w3.cell? ⟨w.heap.size, 2, none⟩ = some (.int .i64 0) := I0.out.cell 2
  have a3 : w3.cell? ⟨w.heap.size, 3, none⟩ = some (.bool false) := I0.out.cell 3
  have a4 : w3.cell? ⟨w.heap.size, 4, none⟩ = some (.slice none 0 0) := I0.out.cell 4
  have a5 : w3.cell? ⟨w.heap.size, 5, none⟩ = some (.int .i64 0) := I0.out.cell 5
  have a6 : w3.cell? ⟨w.heap.size, 6, none⟩ = some (.int .u64 0) := I0.out.cell 6
  have a7 : w3.cell? ⟨w.heap.size, 7, none⟩ = some (.int .i64 0) := I0.out.cell 7
  have a8 : w3.cell? ⟨w.heap.size, 8, none⟩ = some (.int .u64 0) := I0.out.cell 8
  have a9 : w3.cell? ⟨w.heap.size, 9, none⟩ = some (.int .i64 0) := I0.out.cell 9
  have a10 : w3.cell? ⟨w.heap.size, 10, none⟩ = some (.int .i64 0) := I0.out.cell 10
  have a11 : w3.cell? ⟨w.heap.size, 11, none⟩ = some (.int .u64 0) := I0.out.cell 11
  have a12 : w3.cell? ⟨w.heap.size, 12, none⟩ = some (.int .i64 0) := I0.out.cell 12
  have a13 : w3.cell? ⟨w.heap.size, 13, none⟩ = some (.int .u64 0) := I0.out.cell 13
  have b0 : w3.cell? ⟨w.heap.size + 1, 0, none⟩ = some (.int .i64 7) := I1.out.cell 0
  have b1 : w3.cell? ⟨w.heap.size + 1, 1, none⟩ = some (.int .u64 0) := I1.out.cell 1
  have b2 : w3.cell? ⟨w.heap.size + 1, 2, none⟩ = some (.int .i64 0) := I1.out.cell 2
  have b3 : w3.cell? ⟨w.heap.size + 1, 3, none⟩ = some (.bool false) := I1.out.cell 3
  have b4 : w3.cell? ⟨w.heap.size + 1, 4, none⟩ = some (.slice none 0 0) := I1.out.cell 4
  have b5 : w3.cell? ⟨w.heap.size + 1, 5, none⟩ = some (.int .i64 0) := I1.out.cell 5
  have b6 : w3.cell? ⟨w.heap.size + 1, 6, none⟩ = some (.int .u64 0) := I1.out.cell 6
  have b7 : w3.cell? ⟨w.heap.size + 1, 7, none⟩ = some (.int .i64 0) := I1.out.cell 7
  have b8 : w3.cell? ⟨w.heap.size + 1, 8, none⟩ = some (.int .u64 0) := I1.out.cell 8
  have b9 : w3.cell? ⟨w.heap.size + 1, 9, none⟩ = some (.int .i64 x) := I1.out.cell 9
  have b10 : w3.cell? ⟨w.heap.size + 1, 10, none⟩ = some (.int .i64 y1) := I1.out.cell 10
  have b11 : w3.cell? ⟨w.heap.size + 1, 11, none⟩ = some (.int .u64 y2) := I1.out.cell 11
  have b12 : w3.cell? ⟨w.heap.size + 1, 12, none⟩ = some (.int .i64 0) := I1.out.cell 12
  have b13 : w3.cell? ⟨w.heap.size + 1, 13, none⟩ = some (.int .u64 0) := I1.out.cell 13
  have f0 := I0.out.free 0
  have f1 := I0.out.free 1
  have f2 := I0.out.free 2
  have f3 := I0.out.free 3
  have f4 := I0.out.free 4
  have f5 := I0.out.free 5
  have f6 := I0.out.free 6
  have f7 := I0.out.free 7
  have f8 := I0.out.free 8
  have f9 := I0.out.free 9
  have f10 := I0.out.free 10
  have f11 := I0.out.free 11
  have f12 := I0.out.free 12
  have f13 := I0.out.free 13
  have q12 := I1.out.free 12
  have q13 := I1.out.free 13
  go_wp2
  have hW : ((((((((((((((((w3.setCell ⟨w.heap.size + 1, 12, none⟩ (.int .i64 z1)).setCell ⟨w.heap.size + 1, 13, none⟩ (.int .u64 z2)).setCell ⟨w.heap.size, 0, none⟩ (.int .i64 7)).setCell ⟨w.heap.size, 1, none⟩ (.int .u64 0)).setCell ⟨w.heap.size, 2, none⟩ (.int .i64 0)).setCell ⟨w.heap.size, 3, none⟩ (.bool false)).setCell ⟨w.heap.size, 4, none⟩ (.slice none 0 0)).setCell ⟨w.heap.size, 5, none⟩ (.int .i64 0)).setCell ⟨w.heap.size, 6, none⟩ (.int .u64 0)).setCell ⟨w.heap.size, 7, none⟩ (.int .i64 0)).setCell ⟨w.heap.size, 8, none⟩ (.int .u64 0)).setCell ⟨w.heap.size, 9, none⟩ (.int .i64 x)).setCell ⟨w.heap.size, 10, none⟩ (.int .i64 y1)).setCell ⟨w.heap.size, 11, none⟩ (.int .u64 y2)).setCell ⟨w.heap.size, 12, none⟩ (.int .i64 z1)).setCell ⟨w.heap.size, 13, none⟩ (.int .u64 z2)) = putCells ((w3.setCell ⟨w.heap.size + 1, 12, none⟩ (.int .i64 z1)).setCell ⟨w.heap.size + 1, 13, none⟩ (.int .u64 z2)) w.heap.size 0 [.int .i64 7, .int .u64 0, .int .i64 0, .bool false, .slice none 0 0, .int .i64 0, .int .u64 0, .int .i64 0, .int .u64 0, .int .i64 x, .int .i64 y1, .int .u64 y2, .int .i64 z1, .int .u64 z2] := rfl
  rw [hW]
  clear hW
  have hfin := putCells_is (cs := [.int .i64 0, .int .u64 0, .int .i64 0, .bool false, .slice none 0 0, .int .i64 0, .int .u64 0, .int .i64 0, .int .u64 0, .int .i64 0, .int .i64 0, .int .u64 0, .int .i64 0, .int .u64 0]) ((IsB.setOther ((IsB.setOther (I0.out) (a := ⟨w.heap.size + 1, 12, none⟩) (by simp) (.int .i64 z1))) (a := ⟨w.heap.size + 1, 13, none⟩) (by simp) (.int .u64 z2))) [.int .i64 7, .int .u64 0, .int .i64 0, .bool false, .slice none 0 0, .int .i64 0, .int .u64 0, .int .i64 0, .int .u64 0, .int .i64 x, .int .i64 y1, .int .u64 y2, .int .i64 z1, .int .u64 z2] rfl
  have hrd := putCells_dr (b := w.heap.size) (show Q ≠ w.heap.size by omega) (show sb ≠ w.heap.size by omega) [.int .i64 7, .int .u64 0, .int .i64 0, .bool false, .slice none 0 0, .int .i64 0, .int .u64 0, .int .i64 0, .int .u64 0, .int .i64 x, .int .i64 y1, .int .u64 y2, .int .i64 z1, .int .u64 z2] _ 0 (DR.set ((DR.set (HRD.out) (a := ⟨w.heap.size + 1, 12, none⟩) (by simp only []; omega) (by simp only []; omega) (.int .i64 z1))) (a := ⟨w.heap.size + 1, 13, none⟩) (by simp only []; omega) (by simp only []; omega) (.int .u64 z2))
  have hgr := putCells_grown (b := w.heap.size) (Nat.le_refl _) [.int .i64 7, .int .u64 0, .int .i64 0, .bool false, .slice none 0 0, .int .i64 0, .int .u64 0, .int .i64 0, .int .u64 0, .int .i64 x, .int .i64 y1, .int .u64 y2, .int .i64 z1, .int .u64 z2] _ 0 (grown_new ((grown_new (HGR.out) (a := ⟨w.heap.size + 1, 12, none⟩) (by simp) (.int .i64 z1))) (a := ⟨w.heap.size + 1, 13, none⟩) (by simp) (.int .u64 z2))
  generalize putCells ((w3.setCell ⟨w.heap.size + 1, 12, none⟩ (.int .i64 z1)).setCell ⟨w.heap.size + 1, 13, none⟩ (.int .u64 z2)) w.heap.size 0 [.int .i64 7, .int .u64 0, .int .i64 0, .bool false, .slice none 0 0, .int .i64 0, .int .u64 0, .int .i64 0, .int .u64 0, .int .i64 x, .int .i64 y1, .int .u64 y2, .int .i64 z1, .int .u64 z2] = W at hfin hrd hgr ⊢
  refine bodyPost_ret (rfield_results W _ _ hfin rfl _ rfl) rfl ?_
  exact ⟨y1, y2, z1, z2, hpk, hpv, rfl, hrd, hgr⟩

end Go.Proofs.YtmhcmlegdoapdaaDoor
