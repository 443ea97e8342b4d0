/- Package pack: a field of a kind, read of any bytes (3, 4). -/
import Derived.Test.YtmhcmlegdoapdaaDoorRK
namespace Go.Proofs.YtmhcmlegdoapdaaDoor
open Go.RowKit

set_option maxHeartbeats 4000000 in
set_option maxRecDepth 100000 in
theorem field3_any {sb : Nat} (R : Nat) (l : List Int) (at' : Int) (fl : Value) (w : World) (h : Lft w R sb l at' fl) (hsb : sb < w.heap.size) :
    Calls Tryd.prog 56 #[.pointer (some ⟨R, 0, none⟩), .int .i64 3] w fun e w' => PostF w R sb l at' fl (pfield 3 l) e w' := by
  have hRl := h.lt
  have I0 := (IsB.new w #[.int .i64 0, .int .u64 0, .int .i64 0, .bool false, .slice none 0 0, .int .i64 0, .int .u64 0, .int .i64 0, .int .u64 0, .int .i64 0, .int .i64 0, .int .u64 0, .int .i64 0, .int .u64 0] 34).alloc (.cells #[.int .i64 3, .int .u64 0, .int .i64 0, .bool false, .slice none 0 0, .int .i64 0, .int .u64 0, .int .i64 0, .int .u64 0, .int .i64 0, .int .i64 0, .int .u64 0, .int .i64 0, .int .u64 0] 34)
  have I1 := IsB.new (w.alloc (.cells #[.int .i64 0, .int .u64 0, .int .i64 0, .bool false, .slice none 0 0, .int .i64 0, .int .u64 0, .int .i64 0, .int .u64 0, .int .i64 0, .int .i64 0, .int .u64 0, .int .i64 0, .int .u64 0] 34)) #[.int .i64 3, .int .u64 0, .int .i64 0, .bool false, .slice none 0 0, .int .i64 0, .int .u64 0, .int .i64 0, .int .u64 0, .int .i64 0, .int .i64 0, .int .u64 0, .int .i64 0, .int .u64 0] 34
  rw [World.size_alloc] at I1
  have HG := hide (show Gr w ((w.alloc (.cells #[.int .i64 0, .int .u64 0, .int .i64 0, .bool false, .slice none 0 0, .int .i64 0, .int .u64 0, .int .i64 0, .int .u64 0, .int .i64 0, .int .i64 0, .int .u64 0, .int .i64 0, .int .u64 0] 34)).alloc (.cells #[.int .i64 3, .int .u64 0, .int .i64 0, .bool false, .slice none 0 0, .int .i64 0, .int .u64 0, .int .i64 0, .int .u64 0, .int .i64 0, .int .i64 0, .int .u64 0, .int .i64 0, .int .u64 0] 34)) from ((Gr.refl w).alloc _).alloc _)
  have hrow := truth_any R l at' fl _ (h.gr HG.out)
  replace hrow := hide hrow
  have HPF : pfield 3 l = (ptruth l).map FV.truth := rfl
  have hbd := h.bd
  have hl01 := I1.lt
  replace I0 := hide I0
  replace I1 := hide I1
  clear h
  rcases hp : ptruth l with ⟨x, n⟩ | ⟨i, er⟩
  · rw [hp] at HPF
    replace HPF := hide HPF
    replace hp := hide hp
    clear hbd
    go_enter Tryd.func56, Tryd.ntmps56
    go_wp2_with fail
    generalize (w.alloc (.cells #[.int .i64 0, .int .u64 0, .int .i64 0, .bool false, .slice none 0 0, .int .i64 0, .int .u64 0, .int .i64 0, .int .u64 0, .int .i64 0, .int .i64 0, .int .u64 0, .int .i64 0, .int .u64 0] 34)).alloc (.cells #[.int .i64 3, .int .u64 0, .int .i64 0, .bool false, .slice none 0 0, .int .i64 0, .int .u64 0, .int .i64 0, .int .u64 0, .int .i64 0, .int .i64 0, .int .u64 0, .int .i64 0, .int .u64 0] 34) = W0 at I0 I1 HG hrow hl01 ⊢
    refine hrow.out.mono ?_
    intro e w1 hE
    unfold Post at hE
    rw [hp.out] at hE
    obtain ⟨⟨rfl, hn, hl⟩, hgr⟩ := hE
    replace I0 := hide (I0.out.grown hgr (by intro h; simp only [Option.some.injEq] at h; omega))
    replace I1 := hide (I1.out.grown hgr (by intro h; simp only [Option.some.injEq] at h; omega))
    have HL := hide hl
    have HGR := hide (grown_trans (grown_of_gr HG.out _) hgr)
    have hlW := I0.out.lt
    have hlW0 : w.heap.size + 1 < W0.heap.size := hl01
    clear hrow hl hgr 
    have a0 : w1.cell? ⟨w.heap.size, 0, none⟩ = some (.int .i64 0) := I0.out.cell 0
    have a1 : w1.cell? ⟨w.heap.size, 1, none⟩ = some (.int .u64 0) := I0.out.cell 1
    have a2 : w1.cell? ⟨w.heap.size, 2, none⟩ = some (.int .i64 0) := I0.out.cell 2
    have a3 : w1.cell? ⟨w.heap.size, 3, none⟩ = some (.bool false) := I0.out.cell 3
    have a4 : w1.cell? ⟨w.heap.size, 4, none⟩ = some (.slice none 0 0) := I0.out.cell 4
    have a5 : w1.cell? ⟨w.heap.size, 5, none⟩ = some (.int .i64 0) := I0.out.cell 5
    have a6 : w1.cell? ⟨w.heap.size, 6, none⟩ = some (.int .u64 0) := I0.out.cell 6
    have a7 : w1.cell? ⟨w.heap.size, 7, none⟩ = some (.int .i64 0) := I0.out.cell 7
    have a8 : w1.cell? ⟨w.heap.size, 8, none⟩ = some (.int .u64 0) := I0.out.cell 8
    have a9 : w1.cell? ⟨w.heap.size, 9, none⟩ = some (.int .i64 0) := I0.out.cell 9
    have a10 : w1.cell? ⟨w.heap.size, 10, none⟩ = some (.int .i64 0) := I0.out.cell 10
    have a11 : w1.cell? ⟨w.heap.size, 11, none⟩ = some (.int .u64 0) := I0.out.cell 11
    have a12 : w1.cell? ⟨w.heap.size, 12, none⟩ = some (.int .i64 0) := I0.out.cell 12
    have a13 : w1.cell? ⟨w.heap.size, 13, none⟩ = some (.int .u64 0) := I0.out.cell 13
    have b0 : w1.cell? ⟨w.heap.size + 1, 0, none⟩ = some (.int .i64 3) := I1.out.cell 0
    have b1 : w1.cell? ⟨w.heap.size + 1, 1, none⟩ = some (.int .u64 0) := I1.out.cell 1
    have b2 : w1.cell? ⟨w.heap.size + 1, 2, none⟩ = some (.int .i64 0) := I1.out.cell 2
    have b3 : w1.cell? ⟨w.heap.size + 1, 3, none⟩ = some (.bool false) := I1.out.cell 3
    have b4 : w1.cell? ⟨w.heap.size + 1, 4, none⟩ = some (.slice none 0 0) := I1.out.cell 4
    have b5 : w1.cell? ⟨w.heap.size + 1, 5, none⟩ = some (.int .i64 0) := I1.out.cell 5
    have b6 : w1.cell? ⟨w.heap.size + 1, 6, none⟩ = some (.int .u64 0) := I1.out.cell 6
    have b7 : w1.cell? ⟨w.heap.size + 1, 7, none⟩ = some (.int .i64 0) := I1.out.cell 7
    have b8 : w1.cell? ⟨w.heap.size + 1, 8, none⟩ = some (.int .u64 0) := I1.out.cell 8
    have b9 : w1.cell? ⟨w.heap.size + 1, 9, none⟩ = some (.int .i64 0) := I1.out.cell 9
    have b10 : w1.cell? ⟨w.heap.size + 1, 10, none⟩ = some (.int .i64 0) := I1.out.cell 10
    have b11 : w1.cell? ⟨w.heap.size + 1, 11, none⟩ = some (.int .u64 0) := I1.out.cell 11
    have b12 : w1.cell? ⟨w.heap.size + 1, 12, none⟩ = some (.int .i64 0) := I1.out.cell 12
    have b13 : w1.cell? ⟨w.heap.size + 1, 13, none⟩ = some (.int .u64 0) := I1.out.cell 13
    have f0 := I0.out.free 0
    have f1 := I0.out.free 1
    have f2 := I0.out.free 2
    have f3 := I0.out.free 3
    have f4 := I0.out.free 4
    have f5 := I0.out.free 5
    have f6 := I0.out.free 6
    have f7 := I0.out.free 7
    have f8 := I0.out.free 8
    have f9 := I0.out.free 9
    have f10 := I0.out.free 10
    have f11 := I0.out.free 11
    have f12 := I0.out.free 12
    have f13 := I0.out.free 13
    have q3 := I1.out.free 3
    go_wp2
    have hW : (((((((((((((((w1.setCell ⟨w.heap.size + 1, 3, none⟩ (.bool x)).setCell ⟨w.heap.size, 0, none⟩ (.int .i64 3)).setCell ⟨w.heap.size, 1, none⟩ (.int .u64 0)).setCell ⟨w.heap.size, 2, none⟩ (.int .i64 0)).setCell ⟨w.heap.size, 3, none⟩ (.bool x)).setCell ⟨w.heap.size, 4, none⟩ (.slice none 0 0)).setCell ⟨w.heap.size, 5, none⟩ (.int .i64 0)).setCell ⟨w.heap.size, 6, none⟩ (.int .u64 0)).setCell ⟨w.heap.size, 7, none⟩ (.int .i64 0)).setCell ⟨w.heap.size, 8, none⟩ (.int .u64 0)).setCell ⟨w.heap.size, 9, none⟩ (.int .i64 0)).setCell ⟨w.heap.size, 10, none⟩ (.int .i64 0)).setCell ⟨w.heap.size, 11, none⟩ (.int .u64 0)).setCell ⟨w.heap.size, 12, none⟩ (.int .i64 0)).setCell ⟨w.heap.size, 13, none⟩ (.int .u64 0)) = putCells (w1.setCell ⟨w.heap.size + 1, 3, none⟩ (.bool x)) w.heap.size 0 [.int .i64 3, .int .u64 0, .int .i64 0, .bool x, .slice none 0 0, .int .i64 0, .int .u64 0, .int .i64 0, .int .u64 0, .int .i64 0, .int .i64 0, .int .u64 0, .int .i64 0, .int .u64 0] := rfl
    rw [hW]
    clear hW
    have hfin := putCells_is (cs := [.int .i64 0, .int .u64 0, .int .i64 0, .bool false, .slice none 0 0, .int .i64 0, .int .u64 0, .int .i64 0, .int .u64 0, .int .i64 0, .int .i64 0, .int .u64 0, .int .i64 0, .int .u64 0]) ((IsB.setOther (I0.out) (a := ⟨w.heap.size + 1, 3, none⟩) (by simp) (.bool x))) [.int .i64 3, .int .u64 0, .int .i64 0, .bool x, .slice none 0 0, .int .i64 0, .int .u64 0, .int .i64 0, .int .u64 0, .int .i64 0, .int .i64 0, .int .u64 0, .int .i64 0, .int .u64 0] rfl
    have hl := putCells_left (b := w.heap.size) (show R ≠ w.heap.size by omega) (by omega) [.int .i64 3, .int .u64 0, .int .i64 0, .bool x, .slice none 0 0, .int .i64 0, .int .u64 0, .int .i64 0, .int .u64 0, .int .i64 0, .int .i64 0, .int .u64 0, .int .i64 0, .int .u64 0] _ 0 (Lft.set (HL.out) (a := ⟨w.heap.size + 1, 3, none⟩) (by simp only []; omega) (by simp only []; omega) (.bool x))
    have hgr := putCells_grown (b := w.heap.size) (Nat.le_refl _) [.int .i64 3, .int .u64 0, .int .i64 0, .bool x, .slice none 0 0, .int .i64 0, .int .u64 0, .int .i64 0, .int .u64 0, .int .i64 0, .int .i64 0, .int .u64 0, .int .i64 0, .int .u64 0] _ 0 (grown_new (HGR.out) (a := ⟨w.heap.size + 1, 3, none⟩) (by simp) (.bool x))
    generalize putCells (w1.setCell ⟨w.heap.size + 1, 3, none⟩ (.bool x)) w.heap.size 0 [.int .i64 3, .int .u64 0, .int .i64 0, .bool x, .slice none 0 0, .int .i64 0, .int .u64 0, .int .i64 0, .int .u64 0, .int .i64 0, .int .i64 0, .int .u64 0, .int .i64 0, .int .u64 0] = W at hfin hl hgr  ⊢
    refine bodyPost_ret (field_results W _ _ hfin rfl _ rfl) rfl ?_
    exact PostF.okI (.truth x) n HPF.out (FV.fd none 0 0 (.truth x)) rfl (Or.inl ⟨rfl, rfl⟩) hn hl hgr
  · rw [hp] at HPF
    replace HPF := hide HPF
    replace hp := hide hp
    clear hbd
    go_enter Tryd.func56, Tryd.ntmps56
    go_wp2_with fail
    generalize (w.alloc (.cells #[.int .i64 0, .int .u64 0, .int .i64 0, .bool false, .slice none 0 0, .int .i64 0, .int .u64 0, .int .i64 0, .int .u64 0, .int .i64 0, .int .i64 0, .int .u64 0, .int .i64 0, .int .u64 0] 34)).alloc (.cells #[.int .i64 3, .int .u64 0, .int .i64 0, .bool false, .slice none 0 0, .int .i64 0, .int .u64 0, .int .i64 0, .int .u64 0, .int .i64 0, .int .i64 0, .int .u64 0, .int .i64 0, .int .u64 0] 34) = W0 at I0 I1 HG hrow hl01 ⊢
    refine hrow.out.mono ?_
    intro e w1 hE
    unfold Post at hE
    rw [hp.out] at hE
    obtain ⟨rfl, hgr⟩ := hE
    exact ⟨rfl, PostF.badI i er HPF.out rfl (grown_trans (grown_of_gr HG.out _) hgr)⟩

set_option maxHeartbeats 4000000 in
set_option maxRecDepth 100000 in
theorem field4_any {sb : Nat} (R : Nat) (l : List Int) (at' : Int) (fl : Value) (w : World) (h : Lft w R sb l at' fl) (hsb : sb < w.heap.size) :
    Calls Tryd.prog 56 #[.pointer (some ⟨R, 0, none⟩), .int .i64 4] w fun e w' => PostF w R sb l at' fl (pfield 4 l) e w' := by
  have hRl := h.lt
  have I0 := (IsB.new w #[.int .i64 0, .int .u64 0, .int .i64 0, .bool false, .slice none 0 0, .int .i64 0, .int .u64 0, .int .i64 0, .int .u64 0, .int .i64 0, .int .i64 0, .int .u64 0, .int .i64 0, .int .u64 0] 34).alloc (.cells #[.int .i64 4, .int .u64 0, .int .i64 0, .bool false, .slice none 0 0, .int .i64 0, .int .u64 0, .int .i64 0, .int .u64 0, .int .i64 0, .int .i64 0, .int .u64 0, .int .i64 0, .int .u64 0] 34)
  have I1 := IsB.new (w.alloc (.cells #[.int .i64 0, .int .u64 0, .int .i64 0, .bool false, .slice none 0 0, .int .i64 0, .int .u64 0, .int .i64 0, .int .u64 0, .int .i64 0, .int .i64 0, .int .u64 0, .int .i64 0, .int .u64 0] 34)) #[.int .i64 4, .int .u64 0, .int .i64 0, .bool false, .slice none 0 0, .int .i64 0, .int .u64 0, .int .i64 0, .int .u64 0, .int .i64 0, .int .i64 0, .int .u64 0, .int .i64 0, .int .u64 0] 34
  rw [World.size_alloc] at I1
  have HG := hide (show Gr w ((w.alloc (.cells #[.int .i64 0, .int .u64 0, .int .i64 0, .bool false, .slice none 0 0, .int .i64 0, .int .u64 0, .int .i64 0, .int .u64 0, .int .i64 0, .int .i64 0, .int .u64 0, .int .i64 0, .int .u64 0] 34)).alloc (.cells #[.int .i64 4, .int .u64 0, .int .i64 0, .bool false, .slice none 0 0, .int .i64 0, .int .u64 0, .int .i64 0, .int .u64 0, .int .i64 0, .int .i64 0, .int .u64 0, .int .i64 0, .int .u64 0] 34)) from ((Gr.refl w).alloc _).alloc _)
  have hrow := row_any R l at' fl _ (h.gr HG.out)
  replace hrow := hide hrow
  have HPF : pfield 4 l = (prow l).map FV.bytes := rfl
  have hbd := h.bd
  have hl01 := I1.lt
  replace I0 := hide I0
  replace I1 := hide I1
  clear h
  rcases hp : prow l with ⟨x, n⟩ | ⟨i, er⟩
  · rw [hp] at HPF
    replace HPF := hide HPF
    replace hp := hide hp
    clear hbd
    go_enter Tryd.func56, Tryd.ntmps56
    go_wp2_with fail
    generalize (w.alloc (.cells #[.int .i64 0, .int .u64 0, .int .i64 0, .bool false, .slice none 0 0, .int .i64 0, .int .u64 0, .int .i64 0, .int .u64 0, .int .i64 0, .int .i64 0, .int .u64 0, .int .i64 0, .int .u64 0] 34)).alloc (.cells #[.int .i64 4, .int .u64 0, .int .i64 0, .bool false, .slice none 0 0, .int .i64 0, .int .u64 0, .int .i64 0, .int .u64 0, .int .i64 0, .int .i64 0, .int .u64 0, .int .i64 0, .int .u64 0] 34) = W0 at I0 I1 HG hrow hl01 ⊢
    refine hrow.out.mono ?_
    intro e w1 hE
    unfold PostR at hE
    rw [hp.out] at hE
    obtain ⟨⟨⟨g, c, rfl, hgl, hown⟩, hx6, hn, hl⟩, hgr⟩ := hE
    replace I0 := hide (I0.out.grown hgr (by intro h; simp only [Option.some.injEq] at h; omega))
    replace I1 := hide (I1.out.grown hgr (by intro h; simp only [Option.some.injEq] at h; omega))
    have HL := hide hl
    have HGR := hide (grown_trans (grown_of_gr HG.out _) hgr)
    have HO := hide hown
    have HGL := hide hgl
    have hlW := I0.out.lt
    have hlW0 : w.heap.size + 1 < W0.heap.size := hl01
    clear hrow hl hgr hown hgl
    have a0 : w1.cell? ⟨w.heap.size, 0, none⟩ = some (.int .i64 0) := I0.out.cell 0
    have a1 : w1.cell? ⟨w.heap.size, 1, none⟩ = some (.int .u64 0) := I0.out.cell 1
    have a2 : w1.cell? ⟨w.heap.size, 2, none⟩ = some (.int .i64 0) := I0.out.cell 2
    have a3 : w1.cell? ⟨w.heap.size, 3, none⟩ = some (.bool false) := I0.out.cell 3
    have a4 : w1.cell? ⟨w.heap.size, 4, none⟩ = some (.slice none 0 0) := I0.out.cell 4
    have a5 : w1.cell? ⟨w.heap.size, 5, none⟩ = some (.int .i64 0) := I0.out.cell 5
    have a6 : w1.cell? ⟨w.heap.size, 6, none⟩ = some (.int .u64 0) := I0.out.cell 6
    have a7 : w1.cell? ⟨w.heap.size, 7, none⟩ = some (.int .i64 0) := I0.out.cell 7
    have a8 : w1.cell? ⟨w.heap.size, 8, none⟩ = some (.int .u64 0) := I0.out.cell 8
    have a9 : w1.cell? ⟨w.heap.size, 9, none⟩ = some (.int .i64 0) := I0.out.cell 9
    have a10 : w1.cell? ⟨w.heap.size, 10, none⟩ = some (.int .i64 0) := I0.out.cell 10
    have a11 : w1.cell? ⟨w.heap.size, 11, none⟩ = some (.int .u64 0) := I0.out.cell 11
    have a12 : w1.cell? ⟨w.heap.size, 12, none⟩ = some (.int .i64 0) := I0.out.cell 12
    have a13 : w1.cell? ⟨w.heap.size, 13, none⟩ = some (.int .u64 0) := I0.out.cell 13
    have b0 : w1.cell? ⟨w.heap.size + 1, 0, none⟩ = some (.int .i64 4) := I1.out.cell 0
    have b1 : w1.cell? ⟨w.heap.size + 1, 1, none⟩ = some (.int .u64 0) := I1.out.cell 1
    have b2 : w1.cell? ⟨w.heap.size + 1, 2, none⟩ = some (.int .i64 0) := I1.out.cell 2
    have b3 : w1.cell? ⟨w.heap.size + 1, 3, none⟩ = some (.bool false) := I1.out.cell 3
    have b4 : w1.cell? ⟨w.heap.size + 1, 4, none⟩ = some (.slice none 0 0) := I1.out.cell 4
    have b5 : w1.cell? ⟨w.heap.size + 1, 5, none⟩ = some (.int .i64 0) := I1.out.cell 5
    have b6 : w1.cell? ⟨w.heap.size + 1, 6, none⟩ = some (.int .u64 0) := I1.out.cell 6
    have b7 : w1.cell? ⟨w.heap.size + 1, 7, none⟩ = some (.int .i64 0) := I1.out.cell 7
    have b8 : w1.cell? ⟨w.heap.size + 1, 8, none⟩ = some (.int .u64 0) := I1.out.cell 8
    have b9 : w1.cell? ⟨w.heap.size + 1, 9, none⟩ = some (.int .i64 0) := I1.out.cell 9
    have b10 : w1.cell? ⟨w.heap.size + 1, 10, none⟩ = some (.int .i64 0) := I1.out.cell 10
    have b11 : w1.cell? ⟨w.heap.size + 1, 11, none⟩ = some (.int .u64 0) := I1.out.cell 11
    have b12 : w1.cell? ⟨w.heap.size + 1, 12, none⟩ = some (.int .i64 0) := I1.out.cell 12
    have b13 : w1.cell? ⟨w.heap.size + 1, 13, none⟩ = some (.int .u64 0) := I1.out.cell 13
    have f0 := I0.out.free 0
    have f1 := I0.out.free 1
    have f2 := I0.out.free 2
    have f3 := I0.out.free 3
    have f4 := I0.out.free 4
    have f5 := I0.out.free 5
    have f6 := I0.out.free 6
    have f7 := I0.out.free 7
    have f8 := I0.out.free 8
    have f9 := I0.out.free 9
    have f10 := I0.out.free 10
    have f11 := I0.out.free 11
    have f12 := I0.out.free 12
    have f13 := I0.out.free 13
    have q4 := I1.out.free 4
    go_wp2
    have hW : (((((((((((((((w1.setCell ⟨w.heap.size + 1, 4, none⟩ (.slice (some ⟨g, 0, none⟩) x.length c)).setCell ⟨w.heap.size, 0, none⟩ (.int .i64 4)).setCell ⟨w.heap.size, 1, none⟩ (.int .u64 0)).setCell ⟨w.heap.size, 2, none⟩ (.int .i64 0)).setCell ⟨w.heap.size, 3, none⟩ (.bool false)).setCell ⟨w.heap.size, 4, none⟩ (.slice (some ⟨g, 0, none⟩) x.length c)).setCell ⟨w.heap.size, 5, none⟩ (.int .i64 0)).setCell ⟨w.heap.size, 6, none⟩ (.int .u64 0)).setCell ⟨w.heap.size, 7, none⟩ (.int .i64 0)).setCell ⟨w.heap.size, 8, none⟩ (.int .u64 0)).setCell ⟨w.heap.size, 9, none⟩ (.int .i64 0)).setCell ⟨w.heap.size, 10, none⟩ (.int .i64 0)).setCell ⟨w.heap.size, 11, none⟩ (.int .u64 0)).setCell ⟨w.heap.size, 12, none⟩ (.int .i64 0)).setCell ⟨w.heap.size, 13, none⟩ (.int .u64 0)) = putCells (w1.setCell ⟨w.heap.size + 1, 4, none⟩ (.slice (some ⟨g, 0, none⟩) x.length c)) w.heap.size 0 [.int .i64 4, .int .u64 0, .int .i64 0, .bool false, .slice (some ⟨g, 0, none⟩) x.length c, .int .i64 0, .int .u64 0, .int .i64 0, .int .u64 0, .int .i64 0, .int .i64 0, .int .u64 0, .int .i64 0, .int .u64 0] := rfl
    rw [hW]
    clear hW
    have hfin := putCells_is (cs := [.int .i64 0, .int .u64 0, .int .i64 0, .bool false, .slice none 0 0, .int .i64 0, .int .u64 0, .int .i64 0, .int .u64 0, .int .i64 0, .int .i64 0, .int .u64 0, .int .i64 0, .int .u64 0]) ((IsB.setOther (I0.out) (a := ⟨w.heap.size + 1, 4, none⟩) (by simp) (.slice (some ⟨g, 0, none⟩) x.length c))) [.int .i64 4, .int .u64 0, .int .i64 0, .bool false, .slice (some ⟨g, 0, none⟩) x.length c, .int .i64 0, .int .u64 0, .int .i64 0, .int .u64 0, .int .i64 0, .int .i64 0, .int .u64 0, .int .i64 0, .int .u64 0] rfl
    have hl := putCells_left (b := w.heap.size) (show R ≠ w.heap.size by omega) (by omega) [.int .i64 4, .int .u64 0, .int .i64 0, .bool false, .slice (some ⟨g, 0, none⟩) x.length c, .int .i64 0, .int .u64 0, .int .i64 0, .int .u64 0, .int .i64 0, .int .i64 0, .int .u64 0, .int .i64 0, .int .u64 0] _ 0 (Lft.set (HL.out) (a := ⟨w.heap.size + 1, 4, none⟩) (by simp only []; omega) (by simp only []; omega) (.slice (some ⟨g, 0, none⟩) x.length c))
    have hgr := putCells_grown (b := w.heap.size) (Nat.le_refl _) [.int .i64 4, .int .u64 0, .int .i64 0, .bool false, .slice (some ⟨g, 0, none⟩) x.length c, .int .i64 0, .int .u64 0, .int .i64 0, .int .u64 0, .int .i64 0, .int .i64 0, .int .u64 0, .int .i64 0, .int .u64 0] _ 0 (grown_new (HGR.out) (a := ⟨w.heap.size + 1, 4, none⟩) (by simp) (.slice (some ⟨g, 0, none⟩) x.length c))
    have ho := putCells_owns (b := w.heap.size) (by have := HGL.out; omega) [.int .i64 4, .int .u64 0, .int .i64 0, .bool false, .slice (some ⟨g, 0, none⟩) x.length c, .int .i64 0, .int .u64 0, .int .i64 0, .int .u64 0, .int .i64 0, .int .i64 0, .int .u64 0, .int .i64 0, .int .u64 0] _ 0 (owns_base HG.out.le (ownsRow_setCell_other (HO.out) (a := ⟨w.heap.size + 1, 4, none⟩) (by simp only [Value.ownBlock, ne_eq, Option.some.injEq]; have := HGL.out; omega) (.slice (some ⟨g, 0, none⟩) x.length c)))
    generalize putCells (w1.setCell ⟨w.heap.size + 1, 4, none⟩ (.slice (some ⟨g, 0, none⟩) x.length c)) w.heap.size 0 [.int .i64 4, .int .u64 0, .int .i64 0, .bool false, .slice (some ⟨g, 0, none⟩) x.length c, .int .i64 0, .int .u64 0, .int .i64 0, .int .u64 0, .int .i64 0, .int .i64 0, .int .u64 0, .int .i64 0, .int .u64 0] = W at hfin hl hgr ho ⊢
    refine bodyPost_ret (field_results W _ _ hfin rfl _ rfl) rfl ?_
    exact PostF.okI (.bytes x) n HPF.out (FV.fd (some ⟨g, 0, none⟩) x.length c (.bytes x)) rfl (Or.inr ⟨x, g, c, rfl, rfl, ho⟩) hn hl hgr
  · rw [hp] at HPF
    replace HPF := hide HPF
    replace hp := hide hp
    clear hbd
    go_enter Tryd.func56, Tryd.ntmps56
    go_wp2_with fail
    generalize (w.alloc (.cells #[.int .i64 0, .int .u64 0, .int .i64 0, .bool false, .slice none 0 0, .int .i64 0, .int .u64 0, .int .i64 0, .int .u64 0, .int .i64 0, .int .i64 0, .int .u64 0, .int .i64 0, .int .u64 0] 34)).alloc (.cells #[.int .i64 4, .int .u64 0, .int .i64 0, .bool false, .slice none 0 0, .int .i64 0, .int .u64 0, .int .i64 0, .int .u64 0, .int .i64 0, .int .i64 0, .int .u64 0, .int .i64 0, .int .u64 0] 34) = W0 at I0 I1 HG hrow hl01 ⊢
    refine hrow.out.mono ?_
    intro e w1 hE
    unfold PostR at hE
    rw [hp.out] at hE
    obtain ⟨rfl, hgr⟩ := hE
    exact ⟨rfl, PostF.badI i er HPF.out rfl (grown_trans (grown_of_gr HG.out _) hgr)⟩

end Go.Proofs.YtmhcmlegdoapdaaDoor
