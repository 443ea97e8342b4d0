/- Package graph: what Way refuses. -/
import Derived.Test.YtjkgacbckdipgaaDoorGZ
namespace Go.Proofs.YtjkgacbckdipgaaDoor
open Go.RowKit Go.Maps Go.ChangeMaps

set_option maxHeartbeats 4000000 in
set_option maxRecDepth 100000 in
theorem way_bad (h d : Int) (tr tn : Int) (v : Value) (l : List Rf) (hl : l.length ≤ 1000) (hbt : ∀ r ∈ l, 0 ≤ r.bt) (hg : ¬okG h l) (w : World) (hR : Ranks w) (hs : RSl w v l) :
    Calls Tryd.prog 5 #[.int .i64 h, .int .i64 d, .agg #[.int .i64 tr, .int .u64 tn], v] w fun e w' => e = .returned (.tuple #[.slice none 0 0, .agg zr.cells, .agg zr.cells, .int .i64 110]) ∧ Below w.heap.size w w' := by
  have b3 := ((((Below.refl w.heap.size w).alloc (Nat.le_refl _) (.cells #[.int .i64 tr, .int .u64 tn] 25)).alloc (by simp) (.cells #[.int .i64 0, .int .i64 0, .int .u64 0, .int .i64 0, .int .u64 0] 32)).alloc (by simp; omega) (.cells #[.int .i64 0, .int .i64 0, .int .u64 0, .int .i64 0, .int .u64 0] 32))
  have Vb : Hid (IsB (((w.alloc (.cells #[.int .i64 tr, .int .u64 tn] 25)).alloc (.cells #[.int .i64 0, .int .i64 0, .int .u64 0, .int .i64 0, .int .u64 0] 32)).alloc (.cells #[.int .i64 0, .int .i64 0, .int .u64 0, .int .i64 0, .int .u64 0] 32)) w.heap.size #[.int .i64 tr, .int .u64 tn] 25) := ((IsB.new w #[.int .i64 tr, .int .u64 tn] _).below ((Below.refl _ _).alloc (Nat.le_refl _) _)).below ((Below.refl _ _).alloc (Nat.le_refl _) _)
  have Ab : Hid (IsB (((w.alloc (.cells #[.int .i64 tr, .int .u64 tn] 25)).alloc (.cells #[.int .i64 0, .int .i64 0, .int .u64 0, .int .i64 0, .int .u64 0] 32)).alloc (.cells #[.int .i64 0, .int .i64 0, .int .u64 0, .int .i64 0, .int .u64 0] 32)) (w.heap.size + 1) #[.int .i64 0, .int .i64 0, .int .u64 0, .int .i64 0, .int .u64 0] 32) := by
    have := IsB.new (w.alloc (.cells #[.int .i64 tr, .int .u64 tn] 25)) #[.int .i64 0, .int .i64 0, .int .u64 0, .int .i64 0, .int .u64 0] 32
    rw [World.size_alloc] at this
    exact this.below ((Below.refl _ _).alloc (Nat.le_refl _) _)
  have Bb : Hid (IsB (((w.alloc (.cells #[.int .i64 tr, .int .u64 tn] 25)).alloc (.cells #[.int .i64 0, .int .i64 0, .int .u64 0, .int .i64 0, .int .u64 0] 32)).alloc (.cells #[.int .i64 0, .int .i64 0, .int .u64 0, .int .i64 0, .int .u64 0] 32)) (w.heap.size + 1 + 1) #[.int .i64 0, .int .i64 0, .int .u64 0, .int .i64 0, .int .u64 0] 32) := by
    have := IsB.new ((w.alloc (.cells #[.int .i64 tr, .int .u64 tn] 25)).alloc (.cells #[.int .i64 0, .int .i64 0, .int .u64 0, .int .i64 0, .int .u64 0] 32)) #[.int .i64 0, .int .i64 0, .int .u64 0, .int .i64 0, .int .u64 0] 32
    rwa [World.size_alloc, World.size_alloc] at this
  have BU := hide (build_any h v l hl hbt _ (hs.below b3))
  have RK := hide (hR.below b3)
  have B := hide b3
  clear b3 hs hR
  go_enter Tryd.func5, Tryd.ntmps5
  go_wp2_with fail
  generalize (((w.alloc (.cells #[.int .i64 tr, .int .u64 tn] 25)).alloc (.cells #[.int .i64 0, .int .i64 0, .int .u64 0, .int .i64 0, .int .u64 0] 32)).alloc (.cells #[.int .i64 0, .int .i64 0, .int .u64 0, .int .i64 0, .int .u64 0] 32)) = W1 at *
  generalize hH : w.heap.size = H at Vb Ab Bb ⊢
  replace hH := hide hH
  refine BU.out.mono ?_
  rintro e w2 ⟨(⟨h9, -⟩ | ⟨-, rfl⟩), hb⟩
  · exact absurd h9 hg
  replace Ab := hide (Ab.out.below hb)
  replace Bb := hide (Bb.out.below hb)
  replace B := hide (B.out.trans (hb.mono B.out.size))
  clear hb
  unfold gz
  have b4 := (Below.refl w2.heap.size w2).alloc (Nat.le_refl _) (.cells #[.int .i64 0, .int .i64 0, .int .i64 0, .int .u64 0, .int .i64 0, .int .u64 0, .int .i64 0, .int .i64 0, .int .u64 0, .int .i64 0, .int .u64 0, .slice none 0 0] 42)
  replace Ab := hide (Ab.out.below b4)
  replace Bb := hide (Bb.out.below b4)
  replace B := hide (B.out.trans (b4.mono B.out.size))
  clear b4 hg
  have az0 : (w2.alloc (.cells #[.int .i64 0, .int .i64 0, .int .i64 0, .int .u64 0, .int .i64 0, .int .u64 0, .int .i64 0, .int .i64 0, .int .u64 0, .int .i64 0, .int .u64 0, .slice none 0 0] 42)).frozen? ⟨H + 1, 0, none⟩ = false := Ab.out.free 0
  have ac0 : (w2.alloc (.cells #[.int .i64 0, .int .i64 0, .int .i64 0, .int .u64 0, .int .i64 0, .int .u64 0, .int .i64 0, .int .i64 0, .int .u64 0, .int .i64 0, .int .u64 0, .slice none 0 0] 42)).cell? ⟨H + 1, 0, none⟩ = some (.int .i64 0) := Ab.out.cell 0
  have az1 : (w2.alloc (.cells #[.int .i64 0, .int .i64 0, .int .i64 0, .int .u64 0, .int .i64 0, .int .u64 0, .int .i64 0, .int .i64 0, .int .u64 0, .int .i64 0, .int .u64 0, .slice none 0 0] 42)).frozen? ⟨H + 1, 1, none⟩ = false := Ab.out.free 1
  have ac1 : (w2.alloc (.cells #[.int .i64 0, .int .i64 0, .int .i64 0, .int .u64 0, .int .i64 0, .int .u64 0, .int .i64 0, .int .i64 0, .int .u64 0, .int .i64 0, .int .u64 0, .slice none 0 0] 42)).cell? ⟨H + 1, 1, none⟩ = some (.int .i64 0) := Ab.out.cell 1
  have az2 : (w2.alloc (.cells #[.int .i64 0, .int .i64 0, .int .i64 0, .int .u64 0, .int .i64 0, .int .u64 0, .int .i64 0, .int .i64 0, .int .u64 0, .int .i64 0, .int .u64 0, .slice none 0 0] 42)).frozen? ⟨H + 1, 2, none⟩ = false := Ab.out.free 2
  have ac2 : (w2.alloc (.cells #[.int .i64 0, .int .i64 0, .int .i64 0, .int .u64 0, .int .i64 0, .int .u64 0, .int .i64 0, .int .i64 0, .int .u64 0, .int .i64 0, .int .u64 0, .slice none 0 0] 42)).cell? ⟨H + 1, 2, none⟩ = some (.int .u64 0) := Ab.out.cell 2
  have az3 : (w2.alloc (.cells #[.int .i64 0, .int .i64 0, .int .i64 0, .int .u64 0, .int .i64 0, .int .u64 0, .int .i64 0, .int .i64 0, .int .u64 0, .int .i64 0, .int .u64 0, .slice none 0 0] 42)).frozen? ⟨H + 1, 3, none⟩ = false := Ab.out.free 3
  have ac3 : (w2.alloc (.cells #[.int .i64 0, .int .i64 0, .int .i64 0, .int .u64 0, .int .i64 0, .int .u64 0, .int .i64 0, .int .i64 0, .int .u64 0, .int .i64 0, .int .u64 0, .slice none 0 0] 42)).cell? ⟨H + 1, 3, none⟩ = some (.int .i64 0) := Ab.out.cell 3
  have az4 : (w2.alloc (.cells #[.int .i64 0, .int .i64 0, .int .i64 0, .int .u64 0, .int .i64 0, .int .u64 0, .int .i64 0, .int .i64 0, .int .u64 0, .int .i64 0, .int .u64 0, .slice none 0 0] 42)).frozen? ⟨H + 1, 4, none⟩ = false := Ab.out.free 4
  have ac4 : (w2.alloc (.cells #[.int .i64 0, .int .i64 0, .int .i64 0, .int .u64 0, .int .i64 0, .int .u64 0, .int .i64 0, .int .i64 0, .int .u64 0, .int .i64 0, .int .u64 0, .slice none 0 0] 42)).cell? ⟨H + 1, 4, none⟩ = some (.int .u64 0) := Ab.out.cell 4
  have bz0 : (w2.alloc (.cells #[.int .i64 0, .int .i64 0, .int .i64 0, .int .u64 0, .int .i64 0, .int .u64 0, .int .i64 0, .int .i64 0, .int .u64 0, .int .i64 0, .int .u64 0, .slice none 0 0] 42)).frozen? ⟨H + 1 + 1, 0, none⟩ = false := Bb.out.free 0
  have bc0 : (w2.alloc (.cells #[.int .i64 0, .int .i64 0, .int .i64 0, .int .u64 0, .int .i64 0, .int .u64 0, .int .i64 0, .int .i64 0, .int .u64 0, .int .i64 0, .int .u64 0, .slice none 0 0] 42)).cell? ⟨H + 1 + 1, 0, none⟩ = some (.int .i64 0) := Bb.out.cell 0
  have bz1 : (w2.alloc (.cells #[.int .i64 0, .int .i64 0, .int .i64 0, .int .u64 0, .int .i64 0, .int .u64 0, .int .i64 0, .int .i64 0, .int .u64 0, .int .i64 0, .int .u64 0, .slice none 0 0] 42)).frozen? ⟨H + 1 + 1, 1, none⟩ = false := Bb.out.free 1
  have bc1 : (w2.alloc (.cells #[.int .i64 0, .int .i64 0, .int .i64 0, .int .u64 0, .int .i64 0, .int .u64 0, .int .i64 0, .int .i64 0, .int .u64 0, .int .i64 0, .int .u64 0, .slice none 0 0] 42)).cell? ⟨H + 1 + 1, 1, none⟩ = some (.int .i64 0) := Bb.out.cell 1
  have bz2 : (w2.alloc (.cells #[.int .i64 0, .int .i64 0, .int .i64 0, .int .u64 0, .int .i64 0, .int .u64 0, .int .i64 0, .int .i64 0, .int .u64 0, .int .i64 0, .int .u64 0, .slice none 0 0] 42)).frozen? ⟨H + 1 + 1, 2, none⟩ = false := Bb.out.free 2
  have bc2 : (w2.alloc (.cells #[.int .i64 0, .int .i64 0, .int .i64 0, .int .u64 0, .int .i64 0, .int .u64 0, .int .i64 0, .int .i64 0, .int .u64 0, .int .i64 0, .int .u64 0, .slice none 0 0] 42)).cell? ⟨H + 1 + 1, 2, none⟩ = some (.int .u64 0) := Bb.out.cell 2
  have bz3 : (w2.alloc (.cells #[.int .i64 0, .int .i64 0, .int .i64 0, .int .u64 0, .int .i64 0, .int .u64 0, .int .i64 0, .int .i64 0, .int .u64 0, .int .i64 0, .int .u64 0, .slice none 0 0] 42)).frozen? ⟨H + 1 + 1, 3, none⟩ = false := Bb.out.free 3
  have bc3 : (w2.alloc (.cells #[.int .i64 0, .int .i64 0, .int .i64 0, .int .u64 0, .int .i64 0, .int .u64 0, .int .i64 0, .int .i64 0, .int .u64 0, .int .i64 0, .int .u64 0, .slice none 0 0] 42)).cell? ⟨H + 1 + 1, 3, none⟩ = some (.int .i64 0) := Bb.out.cell 3
  have bz4 : (w2.alloc (.cells #[.int .i64 0, .int .i64 0, .int .i64 0, .int .u64 0, .int .i64 0, .int .u64 0, .int .i64 0, .int .i64 0, .int .u64 0, .int .i64 0, .int .u64 0, .slice none 0 0] 42)).frozen? ⟨H + 1 + 1, 4, none⟩ = false := Bb.out.free 4
  have bc4 : (w2.alloc (.cells #[.int .i64 0, .int .i64 0, .int .i64 0, .int .u64 0, .int .i64 0, .int .u64 0, .int .i64 0, .int .i64 0, .int .u64 0, .int .i64 0, .int .u64 0, .slice none 0 0] 42)).cell? ⟨H + 1 + 1, 4, none⟩ = some (.int .u64 0) := Bb.out.cell 4
  have fl := Ab.out.lt
  have fl2 := Bb.out.lt
  go_wp2
  clear az0 ac0 az1 ac1 az2 ac2 az3 ac3 az4 ac4
  clear bz0 bc0 bz1 bc1 bz2 bc2 bz3 bc3 bz4 bc4
  generalize (w2.alloc (.cells #[.int .i64 0, .int .i64 0, .int .i64 0, .int .u64 0, .int .i64 0, .int .u64 0, .int .i64 0, .int .i64 0, .int .u64 0, .int .i64 0, .int .u64 0, .slice none 0 0] 42)) = W4 at *
  have hW : ((((((((((W4.setCell ⟨H + 1, 0, none⟩ (.int .i64 0)).setCell ⟨H + 1, 1, none⟩ (.int .i64 0)).setCell ⟨H + 1, 2, none⟩ (.int .u64 0)).setCell ⟨H + 1, 3, none⟩ (.int .i64 0)).setCell ⟨H + 1, 4, none⟩ (.int .u64 0)).setCell ⟨H + 1 + 1, 0, none⟩ (.int .i64 0)).setCell ⟨H + 1 + 1, 1, none⟩ (.int .i64 0)).setCell ⟨H + 1 + 1, 2, none⟩ (.int .u64 0)).setCell ⟨H + 1 + 1, 3, none⟩ (.int .i64 0)).setCell ⟨H + 1 + 1, 4, none⟩ (.int .u64 0)) = putCells (putCells W4 (H + 1) 0 [.int .i64 0, .int .i64 0, .int .u64 0, .int .i64 0, .int .u64 0]) (H + 1 + 1) 0 [.int .i64 0, .int .i64 0, .int .u64 0, .int .i64 0, .int .u64 0] := rfl
  rw [hW]
  clear hW
  have F1 := putCells_is (cs := [.int .i64 0, .int .i64 0, .int .u64 0, .int .i64 0, .int .u64 0]) Ab.out [.int .i64 0, .int .i64 0, .int .u64 0, .int .i64 0, .int .u64 0] rfl
  have k1 := putCells_kp (H + 1) [.int .i64 0, .int .i64 0, .int .u64 0, .int .i64 0, .int .u64 0] W4 0
  have G1 := Bb.out.kp k1 (by simp)
  have F2 := putCells_is (cs := [.int .i64 0, .int .i64 0, .int .u64 0, .int .i64 0, .int .u64 0]) G1 [.int .i64 0, .int .i64 0, .int .u64 0, .int .i64 0, .int .u64 0] rfl
  have k2 := putCells_kp (H + 1 + 1) [.int .i64 0, .int .i64 0, .int .u64 0, .int .i64 0, .int .u64 0] (putCells W4 (H + 1) 0 [.int .i64 0, .int .i64 0, .int .u64 0, .int .i64 0, .int .u64 0]) 0
  have F3 := F1.kp k2 (by simp)
  refine ret_way (s := 8) (p := 9) (q := 10) (u := 11) (a := H + 1) (b := H + 1 + 1) Tryd.results5 rfl rfl rfl rfl rfl rfl F3 F2 ?_
  refine ⟨rfl, ?_⟩
  refine (((Kp.of_below (S := []) B.out).trans k1 (fun j hj => ?_)).trans k2 (fun j hj => ?_)).to_below (Nat.le_refl _) (by simp)
  · simp at hj; right; rw [hj, hH.out]; omega
  · simp at hj; right; rw [hj, hH.out]; omega

set_option maxHeartbeats 4000000 in
set_option maxRecDepth 100000 in
theorem way_none (h d : Int) (tr tn : Int) (v : Value) (l : List Rf) (hl : l.length ≤ 1000) (hbt : ∀ r ∈ l, 0 ≤ r.bt) (hg : okG h l) (m : List Rf) (hp : m.Perm l) (hso : m.Pairwise keyLt) (hpi : plI d (rowL h m) < 0) (w : World) (hR : Ranks w) (hs : RSl w v l) :
    Calls Tryd.prog 5 #[.int .i64 h, .int .i64 d, .agg #[.int .i64 tr, .int .u64 tn], v] w fun e w' => e = .returned (.tuple #[.slice none 0 0, .agg zr.cells, .agg zr.cells, .int .i64 111]) ∧ Below w.heap.size w w' := by
  have HG := hide hg
  clear hg
  have b3 := ((((Below.refl w.heap.size w).alloc (Nat.le_refl _) (.cells #[.int .i64 tr, .int .u64 tn] 25)).alloc (by simp) (.cells #[.int .i64 0, .int .i64 0, .int .u64 0, .int .i64 0, .int .u64 0] 32)).alloc (by simp; omega) (.cells #[.int .i64 0, .int .i64 0, .int .u64 0, .int .i64 0, .int .u64 0] 32))
  have Vb : Hid (IsB (((w.alloc (.cells #[.int .i64 tr, .int .u64 tn] 25)).alloc (.cells #[.int .i64 0, .int .i64 0, .int .u64 0, .int .i64 0, .int .u64 0] 32)).alloc (.cells #[.int .i64 0, .int .i64 0, .int .u64 0, .int .i64 0, .int .u64 0] 32)) w.heap.size #[.int .i64 tr, .int .u64 tn] 25) := ((IsB.new w #[.int .i64 tr, .int .u64 tn] _).below ((Below.refl _ _).alloc (Nat.le_refl _) _)).below ((Below.refl _ _).alloc (Nat.le_refl _) _)
  have Ab : Hid (IsB (((w.alloc (.cells #[.int .i64 tr, .int .u64 tn] 25)).alloc (.cells #[.int .i64 0, .int .i64 0, .int .u64 0, .int .i64 0, .int .u64 0] 32)).alloc (.cells #[.int .i64 0, .int .i64 0, .int .u64 0, .int .i64 0, .int .u64 0] 32)) (w.heap.size + 1) #[.int .i64 0, .int .i64 0, .int .u64 0, .int .i64 0, .int .u64 0] 32) := by
    have := IsB.new (w.alloc (.cells #[.int .i64 tr, .int .u64 tn] 25)) #[.int .i64 0, .int .i64 0, .int .u64 0, .int .i64 0, .int .u64 0] 32
    rw [World.size_alloc] at this
    exact this.below ((Below.refl _ _).alloc (Nat.le_refl _) _)
  have Bb : Hid (IsB (((w.alloc (.cells #[.int .i64 tr, .int .u64 tn] 25)).alloc (.cells #[.int .i64 0, .int .i64 0, .int .u64 0, .int .i64 0, .int .u64 0] 32)).alloc (.cells #[.int .i64 0, .int .i64 0, .int .u64 0, .int .i64 0, .int .u64 0] 32)) (w.heap.size + 1 + 1) #[.int .i64 0, .int .i64 0, .int .u64 0, .int .i64 0, .int .u64 0] 32) := by
    have := IsB.new ((w.alloc (.cells #[.int .i64 tr, .int .u64 tn] 25)).alloc (.cells #[.int .i64 0, .int .i64 0, .int .u64 0, .int .i64 0, .int .u64 0] 32)) #[.int .i64 0, .int .i64 0, .int .u64 0, .int .i64 0, .int .u64 0] 32
    rwa [World.size_alloc, World.size_alloc] at this
  have BU := hide (build_any h v l hl hbt _ (hs.below b3))
  have RK := hide (hR.below b3)
  have B := hide b3
  clear b3 hs hR
  go_enter Tryd.func5, Tryd.ntmps5
  go_wp2_with fail
  generalize (((w.alloc (.cells #[.int .i64 tr, .int .u64 tn] 25)).alloc (.cells #[.int .i64 0, .int .i64 0, .int .u64 0, .int .i64 0, .int .u64 0] 32)).alloc (.cells #[.int .i64 0, .int .i64 0, .int .u64 0, .int .i64 0, .int .u64 0] 32)) = W1 at *
  generalize hH : w.heap.size = H at Vb Ab Bb ⊢
  replace hH := hide hH
  refine BU.out.mono ?_
  rintro e w2 ⟨(⟨-, a, c, m', rfl, hp', hso', hrw, hnew⟩ | ⟨h9, -⟩), hb⟩
  rotate_left
  · exact absurd HG.out h9
  obtain rfl : m' = m := sorted_one hp' hp hso' hso
  have R2 := hide hrw
  replace Vb := hide (Vb.out.below hb)
  replace Ab := hide (Ab.out.below hb)
  replace Bb := hide (Bb.out.below hb)
  replace RK := hide (RK.out.below hb)
  replace B := hide (B.out.trans (hb.mono B.out.size))
  have hml : m'.length ≤ 1000 := by rw [hp.length_eq]; exact hl
  clear hb hrw hnew hp' hso'
  have ED := fun W hsW => ended_any h a m'.length c a c m' hml W hsW
  unfold gcs at ED
  unfold gcs
  have b4 := (Below.refl w2.heap.size w2).alloc (Nat.le_refl _) (.cells #[.int .i64 h, .int .i64 0, .int .i64 1, .int .u64 0, .int .i64 h, .int .u64 0, .int .i64 1, .int .i64 3, .int .u64 0, .int .i64 h, .int .u64 0, .slice a m'.length c] 42)
  have GBn := hide (IsB.new w2 #[.int .i64 h, .int .i64 0, .int .i64 1, .int .u64 0, .int .i64 h, .int .u64 0, .int .i64 1, .int .i64 3, .int .u64 0, .int .i64 h, .int .u64 0, .slice a m'.length c] 42)
  replace Vb := hide (Vb.out.below b4)
  replace Ab := hide (Ab.out.below b4)
  replace Bb := hide (Bb.out.below b4)
  replace R2 := hide (R2.out.below b4)
  replace RK := hide (RK.out.below b4)
  replace B := hide (B.out.trans (b4.mono B.out.size))
  clear b4 BU
  have HED := hide ED
  clear ED
  go_wp2_with fail
  generalize (w2.alloc (.cells #[.int .i64 h, .int .i64 0, .int .i64 1, .int .u64 0, .int .i64 h, .int .u64 0, .int .i64 1, .int .i64 3, .int .u64 0, .int .i64 h, .int .u64 0, .slice a m'.length c] 42)) = W3 at *
  generalize w2.heap.size = GBk at GBn ⊢
  refine (HED.out W3 (Rw.rsl R2.out)).mono ?_
  rintro e w4 ⟨v4, rfl, hrw4, hnw4, hb⟩
  replace Vb := hide (Vb.out.below hb)
  replace Ab := hide (Ab.out.below hb)
  replace Bb := hide (Bb.out.below hb)
  replace R2 := hide (R2.out.below hb)
  replace RK := hide (RK.out.below hb)
  replace GBn := hide (GBn.out.below hb)
  replace B := hide (B.out.trans (hb.mono B.out.size))
  have R4 := hide hrw4
  clear hb hrw4 hnw4 HED
  have PL := fun W hsW => place_any v4 (rowL h m') (by rw [rowL_len]; omega) d W hsW
  obtain ⟨pi, hpi2⟩ : ∃ z, plI d (rowL h m') = z := ⟨_, rfl⟩
  rw [hpi2] at PL hpi
  go_wp2_with fail
  refine (PL w4 R4.out.rsl).mono ?_
  rintro e w5 ⟨rfl, hb⟩
  replace Vb := hide (Vb.out.below hb)
  replace Ab := hide (Ab.out.below hb)
  replace Bb := hide (Bb.out.below hb)
  replace R2 := hide (R2.out.below hb)
  replace RK := hide (RK.out.below hb)
  replace GBn := hide (GBn.out.below hb)
  replace R4 := hide (R4.out.below hb)
  replace B := hide (B.out.trans (hb.mono B.out.size))
  clear hb PL
  have hdi : decide (pi < 0) = true := decide_eq_true hpi
  have az0 : w5.frozen? ⟨H + 1, 0, none⟩ = false := Ab.out.free 0
  have ac0 : w5.cell? ⟨H + 1, 0, none⟩ = some (.int .i64 0) := Ab.out.cell 0
  have az1 : w5.frozen? ⟨H + 1, 1, none⟩ = false := Ab.out.free 1
  have ac1 : w5.cell? ⟨H + 1, 1, none⟩ = some (.int .i64 0) := Ab.out.cell 1
  have az2 : w5.frozen? ⟨H + 1, 2, none⟩ = false := Ab.out.free 2
  have ac2 : w5.cell? ⟨H + 1, 2, none⟩ = some (.int .u64 0) := Ab.out.cell 2
  have az3 : w5.frozen? ⟨H + 1, 3, none⟩ = false := Ab.out.free 3
  have ac3 : w5.cell? ⟨H + 1, 3, none⟩ = some (.int .i64 0) := Ab.out.cell 3
  have az4 : w5.frozen? ⟨H + 1, 4, none⟩ = false := Ab.out.free 4
  have ac4 : w5.cell? ⟨H + 1, 4, none⟩ = some (.int .u64 0) := Ab.out.cell 4
  have bz0 : w5.frozen? ⟨H + 1 + 1, 0, none⟩ = false := Bb.out.free 0
  have bc0 : w5.cell? ⟨H + 1 + 1, 0, none⟩ = some (.int .i64 0) := Bb.out.cell 0
  have bz1 : w5.frozen? ⟨H + 1 + 1, 1, none⟩ = false := Bb.out.free 1
  have bc1 : w5.cell? ⟨H + 1 + 1, 1, none⟩ = some (.int .i64 0) := Bb.out.cell 1
  have bz2 : w5.frozen? ⟨H + 1 + 1, 2, none⟩ = false := Bb.out.free 2
  have bc2 : w5.cell? ⟨H + 1 + 1, 2, none⟩ = some (.int .u64 0) := Bb.out.cell 2
  have bz3 : w5.frozen? ⟨H + 1 + 1, 3, none⟩ = false := Bb.out.free 3
  have bc3 : w5.cell? ⟨H + 1 + 1, 3, none⟩ = some (.int .i64 0) := Bb.out.cell 3
  have bz4 : w5.frozen? ⟨H + 1 + 1, 4, none⟩ = false := Bb.out.free 4
  have bc4 : w5.cell? ⟨H + 1 + 1, 4, none⟩ = some (.int .u64 0) := Bb.out.cell 4
  have fl := Ab.out.lt
  have fl2 := Bb.out.lt
  go_wp2
  clear az0 ac0 az1 ac1 az2 ac2 az3 ac3 az4 ac4
  clear bz0 bc0 bz1 bc1 bz2 bc2 bz3 bc3 bz4 bc4
  have hW : ((((((((((w5.setCell ⟨H + 1, 0, none⟩ (.int .i64 0)).setCell ⟨H + 1, 1, none⟩ (.int .i64 0)).setCell ⟨H + 1, 2, none⟩ (.int .u64 0)).setCell ⟨H + 1, 3, none⟩ (.int .i64 0)).setCell ⟨H + 1, 4, none⟩ (.int .u64 0)).setCell ⟨H + 1 + 1, 0, none⟩ (.int .i64 0)).setCell ⟨H + 1 + 1, 1, none⟩ (.int .i64 0)).setCell ⟨H + 1 + 1, 2, none⟩ (.int .u64 0)).setCell ⟨H + 1 + 1, 3, none⟩ (.int .i64 0)).setCell ⟨H + 1 + 1, 4, none⟩ (.int .u64 0)) = putCells (putCells w5 (H + 1) 0 [.int .i64 0, .int .i64 0, .int .u64 0, .int .i64 0, .int .u64 0]) (H + 1 + 1) 0 [.int .i64 0, .int .i64 0, .int .u64 0, .int .i64 0, .int .u64 0] := rfl
  rw [hW]
  clear hW
  have F1 := putCells_is (cs := [.int .i64 0, .int .i64 0, .int .u64 0, .int .i64 0, .int .u64 0]) Ab.out [.int .i64 0, .int .i64 0, .int .u64 0, .int .i64 0, .int .u64 0] rfl
  have k1 := putCells_kp (H + 1) [.int .i64 0, .int .i64 0, .int .u64 0, .int .i64 0, .int .u64 0] w5 0
  have G1 := Bb.out.kp k1 (by simp)
  have F2 := putCells_is (cs := [.int .i64 0, .int .i64 0, .int .u64 0, .int .i64 0, .int .u64 0]) G1 [.int .i64 0, .int .i64 0, .int .u64 0, .int .i64 0, .int .u64 0] rfl
  have k2 := putCells_kp (H + 1 + 1) [.int .i64 0, .int .i64 0, .int .u64 0, .int .i64 0, .int .u64 0] (putCells w5 (H + 1) 0 [.int .i64 0, .int .i64 0, .int .u64 0, .int .i64 0, .int .u64 0]) 0
  have F3 := F1.kp k2 (by simp)
  refine ret_way (s := 8) (p := 9) (q := 10) (u := 11) (a := H + 1) (b := H + 1 + 1) Tryd.results5 rfl rfl rfl rfl rfl rfl F3 F2 ?_
  refine ⟨rfl, ?_⟩
  refine (((Kp.of_below (S := []) B.out).trans k1 (fun j hj => ?_)).trans k2 (fun j hj => ?_)).to_below (Nat.le_refl _) (by simp)
  · simp at hj; right; rw [hj, hH.out]; omega
  · simp at hj; right; rw [hj, hH.out]; omega

set_option maxHeartbeats 4000000 in
set_option maxRecDepth 100000 in
theorem way_arg (h d : Int) (tr tn : Int) (v : Value) (l : List Rf) (hl : l.length ≤ 1000) (hbt : ∀ r ∈ l, 0 ≤ r.bt) (hg : okG h l) (m : List Rf) (hp : m.Perm l) (hso : m.Pairwise keyLt) (hpi : ¬plI d (rowL h m) < 0) (hck : ckE tr tn ≠ 0) (w : World) (hR : Ranks w) (hs : RSl w v l) :
    Calls Tryd.prog 5 #[.int .i64 h, .int .i64 d, .agg #[.int .i64 tr, .int .u64 tn], v] w fun e w' => e = .returned (.tuple #[.slice none 0 0, .agg zr.cells, .agg zr.cells, .int .i64 1]) ∧ Below w.heap.size w w' := by
  have HG := hide hg
  clear hg
  have b3 := ((((Below.refl w.heap.size w).alloc (Nat.le_refl _) (.cells #[.int .i64 tr, .int .u64 tn] 25)).alloc (by simp) (.cells #[.int .i64 0, .int .i64 0, .int .u64 0, .int .i64 0, .int .u64 0] 32)).alloc (by simp; omega) (.cells #[.int .i64 0, .int .i64 0, .int .u64 0, .int .i64 0, .int .u64 0] 32))
  have Vb : Hid (IsB (((w.alloc (.cells #[.int .i64 tr, .int .u64 tn] 25)).alloc (.cells #[.int .i64 0, .int .i64 0, .int .u64 0, .int .i64 0, .int .u64 0] 32)).alloc (.cells #[.int .i64 0, .int .i64 0, .int .u64 0, .int .i64 0, .int .u64 0] 32)) w.heap.size #[.int .i64 tr, .int .u64 tn] 25) := ((IsB.new w #[.int .i64 tr, .int .u64 tn] _).below ((Below.refl _ _).alloc (Nat.le_refl _) _)).below ((Below.refl _ _).alloc (Nat.le_refl _) _)
  have Ab : Hid (IsB (((w.alloc (.cells #[.int .i64 tr, .int .u64 tn] 25)).alloc (.cells #[.int .i64 0, .int .i64 0, .int .u64 0, .int .i64 0, .int .u64 0] 32)).alloc (.cells #[.int .i64 0, .int .i64 0, .int .u64 0, .int .i64 0, .int .u64 0] 32)) (w.heap.size + 1) #[.int .i64 0, .int .i64 0, .int .u64 0, .int .i64 0, .int .u64 0] 32) := by
    have := IsB.new (w.alloc (.cells #[.int .i64 tr, .int .u64 tn] 25)) #[.int .i64 0, .int .i64 0, .int .u64 0, .int .i64 0, .int .u64 0] 32
    rw [World.size_alloc] at this
    exact this.below ((Below.refl _ _).alloc (Nat.le_refl _) _)
  have Bb : Hid (IsB (((w.alloc (.cells #[.int .i64 tr, .int .u64 tn] 25)).alloc (.cells #[.int .i64 0, .int .i64 0, .int .u64 0, .int .i64 0, .int .u64 0] 32)).alloc (.cells #[.int .i64 0, .int .i64 0, .int .u64 0, .int .i64 0, .int .u64 0] 32)) (w.heap.size + 1 + 1) #[.int .i64 0, .int .i64 0, .int .u64 0, .int .i64 0, .int .u64 0] 32) := by
    have := IsB.new ((w.alloc (.cells #[.int .i64 tr, .int .u64 tn] 25)).alloc (.cells #[.int .i64 0, .int .i64 0, .int .u64 0, .int .i64 0, .int .u64 0] 32)) #[.int .i64 0, .int .i64 0, .int .u64 0, .int .i64 0, .int .u64 0] 32
    rwa [World.size_alloc, World.size_alloc] at this
  have BU := hide (build_any h v l hl hbt _ (hs.below b3))
  have RK := hide (hR.below b3)
  have B := hide b3
  clear b3 hs hR
  go_enter Tryd.func5, Tryd.ntmps5
  go_wp2_with fail
  generalize (((w.alloc (.cells #[.int .i64 tr, .int .u64 tn] 25)).alloc (.cells #[.int .i64 0, .int .i64 0, .int .u64 0, .int .i64 0, .int .u64 0] 32)).alloc (.cells #[.int .i64 0, .int .i64 0, .int .u64 0, .int .i64 0, .int .u64 0] 32)) = W1 at *
  generalize hH : w.heap.size = H at Vb Ab Bb ⊢
  replace hH := hide hH
  refine BU.out.mono ?_
  rintro e w2 ⟨(⟨-, a, c, m', rfl, hp', hso', hrw, hnew⟩ | ⟨h9, -⟩), hb⟩
  rotate_left
  · exact absurd HG.out h9
  obtain rfl : m' = m := sorted_one hp' hp hso' hso
  have R2 := hide hrw
  replace Vb := hide (Vb.out.below hb)
  replace Ab := hide (Ab.out.below hb)
  replace Bb := hide (Bb.out.below hb)
  replace RK := hide (RK.out.below hb)
  replace B := hide (B.out.trans (hb.mono B.out.size))
  have hml : m'.length ≤ 1000 := by rw [hp.length_eq]; exact hl
  clear hb hrw hnew hp' hso'
  have ED := fun W hsW => ended_any h a m'.length c a c m' hml W hsW
  unfold gcs at ED
  unfold gcs
  have b4 := (Below.refl w2.heap.size w2).alloc (Nat.le_refl _) (.cells #[.int .i64 h, .int .i64 0, .int .i64 1, .int .u64 0, .int .i64 h, .int .u64 0, .int .i64 1, .int .i64 3, .int .u64 0, .int .i64 h, .int .u64 0, .slice a m'.length c] 42)
  have GBn := hide (IsB.new w2 #[.int .i64 h, .int .i64 0, .int .i64 1, .int .u64 0, .int .i64 h, .int .u64 0, .int .i64 1, .int .i64 3, .int .u64 0, .int .i64 h, .int .u64 0, .slice a m'.length c] 42)
  replace Vb := hide (Vb.out.below b4)
  replace Ab := hide (Ab.out.below b4)
  replace Bb := hide (Bb.out.below b4)
  replace R2 := hide (R2.out.below b4)
  replace RK := hide (RK.out.below b4)
  replace B := hide (B.out.trans (b4.mono B.out.size))
  clear b4 BU
  have HED := hide ED
  clear ED
  go_wp2_with fail
  generalize (w2.alloc (.cells #[.int .i64 h, .int .i64 0, .int .i64 1, .int .u64 0, .int .i64 h, .int .u64 0, .int .i64 1, .int .i64 3, .int .u64 0, .int .i64 h, .int .u64 0, .slice a m'.length c] 42)) = W3 at *
  generalize w2.heap.size = GBk at GBn ⊢
  refine (HED.out W3 (Rw.rsl R2.out)).mono ?_
  rintro e w4 ⟨v4, rfl, hrw4, hnw4, hb⟩
  replace Vb := hide (Vb.out.below hb)
  replace Ab := hide (Ab.out.below hb)
  replace Bb := hide (Bb.out.below hb)
  replace R2 := hide (R2.out.below hb)
  replace RK := hide (RK.out.below hb)
  replace GBn := hide (GBn.out.below hb)
  replace B := hide (B.out.trans (hb.mono B.out.size))
  have R4 := hide hrw4
  clear hb hrw4 hnw4 HED
  have PL := fun W hsW => place_any v4 (rowL h m') (by rw [rowL_len]; omega) d W hsW
  obtain ⟨pi, hpi2⟩ : ∃ z, plI d (rowL h m') = z := ⟨_, rfl⟩
  rw [hpi2] at PL hpi
  go_wp2_with fail
  refine (PL w4 R4.out.rsl).mono ?_
  rintro e w5 ⟨rfl, hb⟩
  replace Vb := hide (Vb.out.below hb)
  replace Ab := hide (Ab.out.below hb)
  replace Bb := hide (Bb.out.below hb)
  replace R2 := hide (R2.out.below hb)
  replace RK := hide (RK.out.below hb)
  replace GBn := hide (GBn.out.below hb)
  replace R4 := hide (R4.out.below hb)
  replace B := hide (B.out.trans (hb.mono B.out.size))
  clear hb PL
  have hdi : decide (pi < 0) = false := decide_eq_false (by omega)
  have k0 := Vb.out.cell 0
  have k1 := Vb.out.cell 1
  simp at k0 k1
  have KC := kCheck_any tr tn w5 RK.out
  generalize ckE tr tn = ce at KC hck
  have hce : (ce == 0) = false := by simpa using hck
  replace KC := hide KC
  go_wp2_with fail
  refine KC.out.mono ?_
  rintro e w6 ⟨rfl, hgr⟩
  have hb := hgr.below
  replace Vb := hide (Vb.out.below hb)
  replace Ab := hide (Ab.out.below hb)
  replace Bb := hide (Bb.out.below hb)
  replace R2 := hide (R2.out.below hb)
  replace RK := hide (RK.out.below hb)
  replace GBn := hide (GBn.out.below hb)
  replace R4 := hide (R4.out.below hb)
  replace B := hide (B.out.trans (hb.mono B.out.size))
  clear hb hgr KC k0 k1
  have az0 : w6.frozen? ⟨H + 1, 0, none⟩ = false := Ab.out.free 0
  have ac0 : w6.cell? ⟨H + 1, 0, none⟩ = some (.int .i64 0) := Ab.out.cell 0
  have az1 : w6.frozen? ⟨H + 1, 1, none⟩ = false := Ab.out.free 1
  have ac1 : w6.cell? ⟨H + 1, 1, none⟩ = some (.int .i64 0) := Ab.out.cell 1
  have az2 : w6.frozen? ⟨H + 1, 2, none⟩ = false := Ab.out.free 2
  have ac2 : w6.cell? ⟨H + 1, 2, none⟩ = some (.int .u64 0) := Ab.out.cell 2
  have az3 : w6.frozen? ⟨H + 1, 3, none⟩ = false := Ab.out.free 3
  have ac3 : w6.cell? ⟨H + 1, 3, none⟩ = some (.int .i64 0) := Ab.out.cell 3
  have az4 : w6.frozen? ⟨H + 1, 4, none⟩ = false := Ab.out.free 4
  have ac4 : w6.cell? ⟨H + 1, 4, none⟩ = some (.int .u64 0) := Ab.out.cell 4
  have bz0 : w6.frozen? ⟨H + 1 + 1, 0, none⟩ = false := Bb.out.free 0
  have bc0 : w6.cell? ⟨H + 1 + 1, 0, none⟩ = some (.int .i64 0) := Bb.out.cell 0
  have bz1 : w6.frozen? ⟨H + 1 + 1, 1, none⟩ = false := Bb.out.free 1
  have bc1 : w6.cell? ⟨H + 1 + 1, 1, none⟩ = some (.int .i64 0) := Bb.out.cell 1
  have bz2 : w6.frozen? ⟨H + 1 + 1, 2, none⟩ = false := Bb.out.free 2
  have bc2 : w6.cell? ⟨H + 1 + 1, 2, none⟩ = some (.int .u64 0) := Bb.out.cell 2
  have bz3 : w6.frozen? ⟨H + 1 + 1, 3, none⟩ = false := Bb.out.free 3
  have bc3 : w6.cell? ⟨H + 1 + 1, 3, none⟩ = some (.int .i64 0) := Bb.out.cell 3
  have bz4 : w6.frozen? ⟨H + 1 + 1, 4, none⟩ = false := Bb.out.free 4
  have bc4 : w6.cell? ⟨H + 1 + 1, 4, none⟩ = some (.int .u64 0) := Bb.out.cell 4
  have fl := Ab.out.lt
  have fl2 := Bb.out.lt
  go_wp2
  clear az0 ac0 az1 ac1 az2 ac2 az3 ac3 az4 ac4
  clear bz0 bc0 bz1 bc1 bz2 bc2 bz3 bc3 bz4 bc4
  have hW : ((((((((((w6.setCell ⟨H + 1, 0, none⟩ (.int .i64 0)).setCell ⟨H + 1, 1, none⟩ (.int .i64 0)).setCell ⟨H + 1, 2, none⟩ (.int .u64 0)).setCell ⟨H + 1, 3, none⟩ (.int .i64 0)).setCell ⟨H + 1, 4, none⟩ (.int .u64 0)).setCell ⟨H + 1 + 1, 0, none⟩ (.int .i64 0)).setCell ⟨H + 1 + 1, 1, none⟩ (.int .i64 0)).setCell ⟨H + 1 + 1, 2, none⟩ (.int .u64 0)).setCell ⟨H + 1 + 1, 3, none⟩ (.int .i64 0)).setCell ⟨H + 1 + 1, 4, none⟩ (.int .u64 0)) = putCells (putCells w6 (H + 1) 0 [.int .i64 0, .int .i64 0, .int .u64 0, .int .i64 0, .int .u64 0]) (H + 1 + 1) 0 [.int .i64 0, .int .i64 0, .int .u64 0, .int .i64 0, .int .u64 0] := rfl
  rw [hW]
  clear hW
  have F1 := putCells_is (cs := [.int .i64 0, .int .i64 0, .int .u64 0, .int .i64 0, .int .u64 0]) Ab.out [.int .i64 0, .int .i64 0, .int .u64 0, .int .i64 0, .int .u64 0] rfl
  have k1 := putCells_kp (H + 1) [.int .i64 0, .int .i64 0, .int .u64 0, .int .i64 0, .int .u64 0] w6 0
  have G1 := Bb.out.kp k1 (by simp)
  have F2 := putCells_is (cs := [.int .i64 0, .int .i64 0, .int .u64 0, .int .i64 0, .int .u64 0]) G1 [.int .i64 0, .int .i64 0, .int .u64 0, .int .i64 0, .int .u64 0] rfl
  have k2 := putCells_kp (H + 1 + 1) [.int .i64 0, .int .i64 0, .int .u64 0, .int .i64 0, .int .u64 0] (putCells w6 (H + 1) 0 [.int .i64 0, .int .i64 0, .int .u64 0, .int .i64 0, .int .u64 0]) 0
  have F3 := F1.kp k2 (by simp)
  refine ret_way (s := 8) (p := 9) (q := 10) (u := 11) (a := H + 1) (b := H + 1 + 1) Tryd.results5 rfl rfl rfl rfl rfl rfl F3 F2 ?_
  refine ⟨rfl, ?_⟩
  refine (((Kp.of_below (S := []) B.out).trans k1 (fun j hj => ?_)).trans k2 (fun j hj => ?_)).to_below (Nat.le_refl _) (by simp)
  · simp at hj; right; rw [hj, hH.out]; omega
  · simp at hj; right; rw [hj, hH.out]; omega

end Go.Proofs.YtjkgacbckdipgaaDoor
