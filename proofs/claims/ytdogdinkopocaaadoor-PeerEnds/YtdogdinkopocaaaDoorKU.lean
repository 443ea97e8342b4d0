/- Package link: New, Get, Left, Right. -/
import Derived.Test.YtdogdinkopocaaaDoorKR
namespace Go.Proofs.YtdogdinkopocaaaDoor
open Go.RowKit Go.Maps

theorem Ranks.low {w w' : World} {B : Nat} (h : Ranks w) (hG : 0 < B) (hb : Below B w w') : Ranks w' := by
  obtain ⟨h0, h1, h2, h3, h4, h5⟩ := h
  refine ⟨?_, ?_, ?_, ?_, ?_, ?_⟩ <;> (rw [hb.cell (p := ⟨_, _, none⟩) hG]; assumption)
/-- May a peer have records? -/
def newE (me : Rf) : Int := if ckE me.2.1 me.2.2.1 = 0 ∧ rt me.2.2.2.1 me.2.2.2.2 = true then 0 else 80

set_option maxHeartbeats 8000000 in
set_option maxRecDepth 100000 in
theorem lnew_ok (i0 i1 i2 i3 i4 : Int) (w : World) (hR : Ranks w) (hb : 0 ≤ i4) (hE : newE (i0, i1, i2, i3, i4) = 0) : Calls Tryd.prog 21 #[.agg #[.int .i64 i0, .int .i64 i1, .int .u64 i2, .int .i64 i3, .int .u64 i4]] w fun e w' => ∃ p m, e = .returned (.tuple #[.pointer (some ⟨p, 0, none⟩), .int .i64 0]) ∧ LK w' w.heap.size p m (i0, i1, i2, i3, i4) [] ∧ Below w.heap.size w w' := by
  have hE2 : ckE i1 i2 = 0 ∧ rt i3 i4 = true := by
    unfold newE at hE
    split at hE
    · assumption
    · cases hE
  have hck := hide hE2.1
  have hre := hide (reS_yes hE2.2)
  have hmm := @run_makeMap Tryd.prog
  clear hE hE2
  have B0 := (Below.refl w.heap.size w).alloc (Nat.le_refl _) (.cells #[.int .i64 i0, .int .i64 i1, .int .u64 i2, .int .i64 i3, .int .u64 i4] 29)
  have J1 := hide (IsB.new w #[.int .i64 i0, .int .i64 i1, .int .u64 i2, .int .i64 i3, .int .u64 i4] 29)
  have HR := hide (hR.below B0)
  have B1 := hide B0
  clear B0 hR
  go_enter Tryd.func21, Tryd.ntmps21
  go_wp2_with fail
  generalize w.alloc (.cells #[.int .i64 i0, .int .i64 i1, .int .u64 i2, .int .i64 i3, .int .u64 i4] 29) = W1 at J1 HR B1 ⊢
  refine (kCheck_any i1 i2 _ HR.out).mono ?_; rintro e w2 ⟨rfl, hg⟩
  rw [hck.out]
  have hb2 := hg.below
  have J2 := hide (J1.out.below hb2)
  have B2 := hide (B1.out.trans (hb2.mono B1.out.size))
  clear hg hb2 J1 B1 HR
  have q3 := J2.out.cell 3
  have q4 := J2.out.cell 4
  simp at q3 q4
  go_wp2_with fail
  refine (vright_any i3 i4 hb _).mono ?_; rintro e w3 ⟨rfl, hb3⟩
  rw [hre.out]
  have J3 := J2.out.below hb3
  have B3 := hide (B2.out.trans (hb3.mono B2.out.size))
  clear hb3 J2 B2 q3 q4
  have q0 := J3.cell 0
  have q1 := J3.cell 1
  have q2 := J3.cell 2
  have q3 := J3.cell 3
  have q4 := J3.cell 4
  simp at q0 q1 q2 q3 q4
  clear J3
  go_wp2
  go_ret2
  have c1 := ((Below.refl w3.heap.size w3).alloc (Nat.le_refl _) (.map #[] 0)).alloc (by simp) (.cells #[.int .i64 i0, .int .i64 i1, .int .u64 i2, .int .i64 i3, .int .u64 i4, .map (some w3.heap.size)] 98)
  have hs := B3.out.size
  have p0 := IsB.new (w3.alloc (.map #[] 0)) #[.int .i64 i0, .int .i64 i1, .int .u64 i2, .int .i64 i3, .int .u64 i4, .map (some w3.heap.size)] 98
  rw [World.size_alloc] at p0
  refine ⟨w3.heap.size + 1, w3.heap.size, rfl, ⟨p0, (VMp.made w3).below ((Below.refl _ _).alloc (Nat.le_refl _) _), by simp, by simp, by simp, by omega, by omega, by simp⟩, B3.out.trans (c1.mono hs)⟩

set_option maxHeartbeats 8000000 in
set_option maxRecDepth 100000 in
theorem lnew_bad (i0 i1 i2 i3 i4 : Int) (w : World) (hR : Ranks w) (hb : 0 ≤ i4) (hE : newE (i0, i1, i2, i3, i4) ≠ 0) : Calls Tryd.prog 21 #[.agg #[.int .i64 i0, .int .i64 i1, .int .u64 i2, .int .i64 i3, .int .u64 i4]] w fun e w' => e = .returned (.tuple #[.pointer none, .int .i64 80]) ∧ Below w.heap.size w w' := by
  have hE2 : ckE i1 i2 = 20 ∨ ckE i1 i2 = 0 ∧ rt i3 i4 = false := by
    unfold newE at hE
    rcases ckE_or i1 i2 with h | h
    · right
      refine ⟨h, ?_⟩
      rcases hq : rt i3 i4 with _ | _
      · rfl
      · simp [h, hq] at hE
    · exact Or.inl h
  clear hE
  have B0 := (Below.refl w.heap.size w).alloc (Nat.le_refl _) (.cells #[.int .i64 i0, .int .i64 i1, .int .u64 i2, .int .i64 i3, .int .u64 i4] 29)
  have J1 := hide (IsB.new w #[.int .i64 i0, .int .i64 i1, .int .u64 i2, .int .i64 i3, .int .u64 i4] 29)
  have HR := hide (hR.below B0)
  have B1 := hide B0
  clear B0 hR
  rcases hE2 with hck | ⟨hck, hre⟩
  · replace hck := hide hck
    go_enter Tryd.func21, Tryd.ntmps21
    go_wp2_with fail
    refine (kCheck_any i1 i2 _ HR.out).mono ?_; rintro e w2 ⟨rfl, hg⟩
    rw [hck.out]
    have hb2 := hg.below
    have B2 := hide (B1.out.trans (hb2.mono B1.out.size))
    clear hg hb2 J1 B1 HR
    go_wp2
    go_ret2
    exact ⟨rfl, B2.out⟩
  · replace hck := hide hck
    replace hre := hide (reS_no hre)
    go_enter Tryd.func21, Tryd.ntmps21
    go_wp2_with fail
    generalize w.alloc (.cells #[.int .i64 i0, .int .i64 i1, .int .u64 i2, .int .i64 i3, .int .u64 i4] 29) = W1 at J1 HR B1 ⊢
    refine (kCheck_any i1 i2 _ HR.out).mono ?_; rintro e w2 ⟨rfl, hg⟩
    rw [hck.out]
    have hb2 := hg.below
    have J2 := hide (J1.out.below hb2)
    have B2 := hide (B1.out.trans (hb2.mono B1.out.size))
    clear hg hb2 J1 B1 HR
    have q3 := J2.out.cell 3
    have q4 := J2.out.cell 4
    simp at q3 q4
    go_wp2_with fail
    refine (vright_any i3 i4 hb _).mono ?_; rintro e w3 ⟨rfl, hb3⟩
    rw [hre.out]
    have B3 := hide (B2.out.trans (hb3.mono B2.out.size))
    clear hb3 J2 B2 q3 q4
    go_wp2
    go_ret2
    exact ⟨rfl, B3.out⟩

set_option maxHeartbeats 8000000 in
set_option maxRecDepth 100000 in
theorem get_none (base p m : Nat) (me : Rf) (L : Tb) (w : World) (h : LK w base p m me L) (x y : Int) (hv : okV (x, y)) (hm : okMe me) (hy : 0 ≤ y) (ho : findC me L (x, y) = none) : Calls Tryd.prog 45 #[(.pointer (some ⟨p, 0, none⟩)), .agg #[.int .i64 x, .int .u64 y]] w fun e w' => e = .returned (.tuple #[.agg #[.int .i64 0, .int .u64 0, .int .i64 0, .int .i64 0, .int .u64 0, .int .i64 0, .int .u64 0, .int .i64 0, .int .i64 0, .int .u64 0, .int .i64 0, .int .u64 0, .bool false, .int .i64 0, .int .i64 0, .slice none 0 0], .bool false]) ∧ Below w.heap.size w w' := by
  have B0 := ((Below.refl w.heap.size w).alloc (Nat.le_refl _) (.cells #[.int .i64 x, .int .u64 y] 27)).alloc (by simp) (.cells #[.int .i64 0, .int .u64 0, .int .i64 0, .int .i64 0, .int .u64 0, .int .i64 0, .int .u64 0, .int .i64 0, .int .i64 0, .int .u64 0, .int .i64 0, .int .u64 0, .bool false, .int .i64 0, .int .i64 0, .slice none 0 0] 107)
  have V1 := hide ((IsB.new w #[.int .i64 x, .int .u64 y] 27).below ((Below.refl _ _).alloc (Nat.le_refl _) (.cells #[.int .i64 0, .int .u64 0, .int .i64 0, .int .i64 0, .int .u64 0, .int .i64 0, .int .u64 0, .int .i64 0, .int .i64 0, .int .u64 0, .int .i64 0, .int .u64 0, .bool false, .int .i64 0, .int .i64 0, .slice none 0 0] 107)))
  have F0 := IsB.new (w.alloc (.cells #[.int .i64 x, .int .u64 y] 27)) #[.int .i64 0, .int .u64 0, .int .i64 0, .int .i64 0, .int .u64 0, .int .i64 0, .int .u64 0, .int .i64 0, .int .i64 0, .int .u64 0, .int .i64 0, .int .u64 0, .bool false, .int .i64 0, .int .i64 0, .slice none 0 0] 107
  rw [World.size_alloc] at F0
  have F1 := hide F0
  have B1 := hide B0
  have L1 := hide (h.below B0)
  clear B0 F0 h
  have ho := hide ho
  go_enter Tryd.func45, Tryd.ntmps45
  go_wp2_with fail
  generalize (w.alloc (.cells #[.int .i64 x, .int .u64 y] 27)).alloc (.cells #[.int .i64 0, .int .u64 0, .int .i64 0, .int .i64 0, .int .u64 0, .int .i64 0, .int .u64 0, .int .i64 0, .int .i64 0, .int .u64 0, .int .i64 0, .int .u64 0, .bool false, .int .i64 0, .int .i64 0, .slice none 0 0] 107) = W1 at V1 F1 B1 L1 ⊢
  generalize hH : w.heap.size = H at V1 F1 ⊢
  replace hH := hide hH
  refine (find_none base p m me L _ L1.out x y hv hm hy ho.out).mono ?_; rintro e w2 ⟨rfl, hb2⟩
  have F2 := hide (F1.out.below hb2)
  have B2 := hide (B1.out.trans (hb2.mono B1.out.size))
  clear hb2 V1 F1 B1 L1
  have z0 : w2.frozen? ⟨H + 1, 0, none⟩ = false := F2.out.free 0
  have c0 : w2.cell? ⟨H + 1, 0, none⟩ = some (.int .i64 0) := F2.out.cell 0
  have z1 : w2.frozen? ⟨H + 1, 1, none⟩ = false := F2.out.free 1
  have c1 : w2.cell? ⟨H + 1, 1, none⟩ = some (.int .u64 0) := F2.out.cell 1
  have z2 : w2.frozen? ⟨H + 1, 2, none⟩ = false := F2.out.free 2
  have c2 : w2.cell? ⟨H + 1, 2, none⟩ = some (.int .i64 0) := F2.out.cell 2
  have z3 : w2.frozen? ⟨H + 1, 3, none⟩ = false := F2.out.free 3
  have c3 : w2.cell? ⟨H + 1, 3, none⟩ = some (.int .i64 0) := F2.out.cell 3
  have z4 : w2.frozen? ⟨H + 1, 4, none⟩ = false := F2.out.free 4
  have c4 : w2.cell? ⟨H + 1, 4, none⟩ = some (.int .u64 0) := F2.out.cell 4
  have z5 : w2.frozen? ⟨H + 1, 5, none⟩ = false := F2.out.free 5
  have c5 : w2.cell? ⟨H + 1, 5, none⟩ = some (.int .i64 0) := F2.out.cell 5
  have z6 : w2.frozen? ⟨H + 1, 6, none⟩ = false := F2.out.free 6
  have c6 : w2.cell? ⟨H + 1, 6, none⟩ = some (.int .u64 0) := F2.out.cell 6
  have z7 : w2.frozen? ⟨H + 1, 7, none⟩ = false := F2.out.free 7
  have c7 : w2.cell? ⟨H + 1, 7, none⟩ = some (.int .i64 0) := F2.out.cell 7
  have z8 : w2.frozen? ⟨H + 1, 8, none⟩ = false := F2.out.free 8
  have c8 : w2.cell? ⟨H + 1, 8, none⟩ = some (.int .i64 0) := F2.out.cell 8
  have z9 : w2.frozen? ⟨H + 1, 9, none⟩ = false := F2.out.free 9
  have c9 : w2.cell? ⟨H + 1, 9, none⟩ = some (.int .u64 0) := F2.out.cell 9
  have z10 : w2.frozen? ⟨H + 1, 10, none⟩ = false := F2.out.free 10
  have c10 : w2.cell? ⟨H + 1, 10, none⟩ = some (.int .i64 0) := F2.out.cell 10
  have z11 : w2.frozen? ⟨H + 1, 11, none⟩ = false := F2.out.free 11
  have c11 : w2.cell? ⟨H + 1, 11, none⟩ = some (.int .u64 0) := F2.out.cell 11
  have z12 : w2.frozen? ⟨H + 1, 12, none⟩ = false := F2.out.free 12
  have c12 : w2.cell? ⟨H + 1, 12, none⟩ = some (.bool false) := F2.out.cell 12
  have z13 : w2.frozen? ⟨H + 1, 13, none⟩ = false := F2.out.free 13
  have c13 : w2.cell? ⟨H + 1, 13, none⟩ = some (.int .i64 0) := F2.out.cell 13
  have z14 : w2.frozen? ⟨H + 1, 14, none⟩ = false := F2.out.free 14
  have c14 : w2.cell? ⟨H + 1, 14, none⟩ = some (.int .i64 0) := F2.out.cell 14
  have z15 : w2.frozen? ⟨H + 1, 15, none⟩ = false := F2.out.free 15
  have c15 : w2.cell? ⟨H + 1, 15, none⟩ = some (.slice none 0 0) := F2.out.cell 15
  have fl := F2.out.lt
  go_wp2
  clear z0 c0 z1 c1 z2 c2 z3 c3 z4 c4 z5 c5 z6 c6 z7 c7 z8 c8 z9 c9 z10 c10 z11 c11 z12 c12 z13 c13 z14 c14 z15 c15
  have hW : ((((((((((((((((w2.setCell ⟨H + 1, 0, none⟩ (.int .i64 0)).setCell ⟨H + 1, 1, none⟩ (.int .u64 0)).setCell ⟨H + 1, 2, none⟩ (.int .i64 0)).setCell ⟨H + 1, 3, none⟩ (.int .i64 0)).setCell ⟨H + 1, 4, none⟩ (.int .u64 0)).setCell ⟨H + 1, 5, none⟩ (.int .i64 0)).setCell ⟨H + 1, 6, none⟩ (.int .u64 0)).setCell ⟨H + 1, 7, none⟩ (.int .i64 0)).setCell ⟨H + 1, 8, none⟩ (.int .i64 0)).setCell ⟨H + 1, 9, none⟩ (.int .u64 0)).setCell ⟨H + 1, 10, none⟩ (.int .i64 0)).setCell ⟨H + 1, 11, none⟩ (.int .u64 0)).setCell ⟨H + 1, 12, none⟩ (.bool false)).setCell ⟨H + 1, 13, none⟩ (.int .i64 0)).setCell ⟨H + 1, 14, none⟩ (.int .i64 0)).setCell ⟨H + 1, 15, none⟩ (.slice none 0 0)) = putCells w2 (H + 1) 0 [.int .i64 0, .int .u64 0, .int .i64 0, .int .i64 0, .int .u64 0, .int .i64 0, .int .u64 0, .int .i64 0, .int .i64 0, .int .u64 0, .int .i64 0, .int .u64 0, .bool false, .int .i64 0, .int .i64 0, .slice none 0 0] := rfl
  rw [hW]
  clear hW
  have F9 := putCells_is (cs := [.int .i64 0, .int .u64 0, .int .i64 0, .int .i64 0, .int .u64 0, .int .i64 0, .int .u64 0, .int .i64 0, .int .i64 0, .int .u64 0, .int .i64 0, .int .u64 0, .bool false, .int .i64 0, .int .i64 0, .slice none 0 0]) F2.out [.int .i64 0, .int .u64 0, .int .i64 0, .int .i64 0, .int .u64 0, .int .i64 0, .int .u64 0, .int .i64 0, .int .i64 0, .int .u64 0, .int .i64 0, .int .u64 0, .bool false, .int .i64 0, .int .i64 0, .slice none 0 0] rfl
  have k9 := putCells_kp (H + 1) [.int .i64 0, .int .u64 0, .int .i64 0, .int .i64 0, .int .u64 0, .int .i64 0, .int .u64 0, .int .i64 0, .int .i64 0, .int .u64 0, .int .i64 0, .int .u64 0, .bool false, .int .i64 0, .int .i64 0, .slice none 0 0] w2 0
  have B9 := (Kp.of_below (S := []) B2.out).trans k9 (fun j hj => by simp at hj; right; rw [hj, ← hH.out]; omega) |>.to_below (Nat.le_refl _) (by simp)
  refine ret_rst (p := 4) (u := 5) (b := H + 1) Tryd.results45 rfl rfl rfl F9 ?_
  exact ⟨rfl, B9⟩

set_option maxHeartbeats 8000000 in
set_option maxRecDepth 100000 in
theorem get_no (p : Value) (x y : Int) (w : World) (h : NoLinks w p) : Calls Tryd.prog 45 #[p, .agg #[.int .i64 x, .int .u64 y]] w fun e w' => e = .returned (.tuple #[.agg #[.int .i64 0, .int .u64 0, .int .i64 0, .int .i64 0, .int .u64 0, .int .i64 0, .int .u64 0, .int .i64 0, .int .i64 0, .int .u64 0, .int .i64 0, .int .u64 0, .bool false, .int .i64 0, .int .i64 0, .slice none 0 0], .bool false]) ∧ Below w.heap.size w w' := by
  have B0 := ((Below.refl w.heap.size w).alloc (Nat.le_refl _) (.cells #[.int .i64 x, .int .u64 y] 27)).alloc (by simp) (.cells #[.int .i64 0, .int .u64 0, .int .i64 0, .int .i64 0, .int .u64 0, .int .i64 0, .int .u64 0, .int .i64 0, .int .i64 0, .int .u64 0, .int .i64 0, .int .u64 0, .bool false, .int .i64 0, .int .i64 0, .slice none 0 0] 107)
  have V1 := hide ((IsB.new w #[.int .i64 x, .int .u64 y] 27).below ((Below.refl _ _).alloc (Nat.le_refl _) (.cells #[.int .i64 0, .int .u64 0, .int .i64 0, .int .i64 0, .int .u64 0, .int .i64 0, .int .u64 0, .int .i64 0, .int .i64 0, .int .u64 0, .int .i64 0, .int .u64 0, .bool false, .int .i64 0, .int .i64 0, .slice none 0 0] 107)))
  have F0 := IsB.new (w.alloc (.cells #[.int .i64 x, .int .u64 y] 27)) #[.int .i64 0, .int .u64 0, .int .i64 0, .int .i64 0, .int .u64 0, .int .i64 0, .int .u64 0, .int .i64 0, .int .i64 0, .int .u64 0, .int .i64 0, .int .u64 0, .bool false, .int .i64 0, .int .i64 0, .slice none 0 0] 107
  rw [World.size_alloc] at F0
  have F1 := hide F0
  have B1 := hide B0
  have L1 := hide (h.below B0)
  clear B0 F0 h
  go_enter Tryd.func45, Tryd.ntmps45
  go_wp2_with fail
  generalize (w.alloc (.cells #[.int .i64 x, .int .u64 y] 27)).alloc (.cells #[.int .i64 0, .int .u64 0, .int .i64 0, .int .i64 0, .int .u64 0, .int .i64 0, .int .u64 0, .int .i64 0, .int .i64 0, .int .u64 0, .int .i64 0, .int .u64 0, .bool false, .int .i64 0, .int .i64 0, .slice none 0 0] 107) = W1 at V1 F1 B1 L1 ⊢
  generalize hH : w.heap.size = H at V1 F1 ⊢
  replace hH := hide hH
  refine (find_no p x y _ L1.out).mono ?_; rintro e w2 ⟨rfl, hb2⟩
  have F2 := hide (F1.out.below hb2)
  have B2 := hide (B1.out.trans (hb2.mono B1.out.size))
  clear hb2 V1 F1 B1 L1
  have z0 : w2.frozen? ⟨H + 1, 0, none⟩ = false := F2.out.free 0
  have c0 : w2.cell? ⟨H + 1, 0, none⟩ = some (.int .i64 0) := F2.out.cell 0
  have z1 : w2.frozen? ⟨H + 1, 1, none⟩ = false := F2.out.free 1
  have c1 : w2.cell? ⟨H + 1, 1, none⟩ = some (.int .u64 0) := F2.out.cell 1
  have z2 : w2.frozen? ⟨H + 1, 2, none⟩ = false := F2.out.free 2
  have c2 : w2.cell? ⟨H + 1, 2, none⟩ = some (.int .i64 0) := F2.out.cell 2
  have z3 : w2.frozen? ⟨H + 1, 3, none⟩ = false := F2.out.free 3
  have c3 : w2.cell? ⟨H + 1, 3, none⟩ = some (.int .i64 0) := F2.out.cell 3
  have z4 : w2.frozen? ⟨H + 1, 4, none⟩ = false := F2.out.free 4
  have c4 : w2.cell? ⟨H + 1, 4, none⟩ = some (.int .u64 0) := F2.out.cell 4
  have z5 : w2.frozen? ⟨H + 1, 5, none⟩ = false := F2.out.free 5
  have c5 : w2.cell? ⟨H + 1, 5, none⟩ = some (.int .i64 0) := F2.out.cell 5
  have z6 : w2.frozen? ⟨H + 1, 6, none⟩ = false := F2.out.free 6
  have c6 : w2.cell? ⟨H + 1, 6, none⟩ = some (.int .u64 0) := F2.out.cell 6
  have z7 : w2.frozen? ⟨H + 1, 7, none⟩ = false := F2.out.free 7
  have c7 : w2.cell? ⟨H + 1, 7, none⟩ = some (.int .i64 0) := F2.out.cell 7
  have z8 : w2.frozen? ⟨H + 1, 8, none⟩ = false := F2.out.free 8
  have c8 : w2.cell? ⟨H + 1, 8, none⟩ = some (.int .i64 0) := F2.out.cell 8
  have z9 : w2.frozen? ⟨H + 1, 9, none⟩ = false := F2.out.free 9
  have c9 : w2.cell? ⟨H + 1, 9, none⟩ = some (.int .u64 0) := F2.out.cell 9
  have z10 : w2.frozen? ⟨H + 1, 10, none⟩ = false := F2.out.free 10
  have c10 : w2.cell? ⟨H + 1, 10, none⟩ = some (.int .i64 0) := F2.out.cell 10
  have z11 : w2.frozen? ⟨H + 1, 11, none⟩ = false := F2.out.free 11
  have c11 : w2.cell? ⟨H + 1, 11, none⟩ = some (.int .u64 0) := F2.out.cell 11
  have z12 : w2.frozen? ⟨H + 1, 12, none⟩ = false := F2.out.free 12
  have c12 : w2.cell? ⟨H + 1, 12, none⟩ = some (.bool false) := F2.out.cell 12
  have z13 : w2.frozen? ⟨H + 1, 13, none⟩ = false := F2.out.free 13
  have c13 : w2.cell? ⟨H + 1, 13, none⟩ = some (.int .i64 0) := F2.out.cell 13
  have z14 : w2.frozen? ⟨H + 1, 14, none⟩ = false := F2.out.free 14
  have c14 : w2.cell? ⟨H + 1, 14, none⟩ = some (.int .i64 0) := F2.out.cell 14
  have z15 : w2.frozen? ⟨H + 1, 15, none⟩ = false := F2.out.free 15
  have c15 : w2.cell? ⟨H + 1, 15, none⟩ = some (.slice none 0 0) := F2.out.cell 15
  have fl := F2.out.lt
  go_wp2
  clear z0 c0 z1 c1 z2 c2 z3 c3 z4 c4 z5 c5 z6 c6 z7 c7 z8 c8 z9 c9 z10 c10 z11 c11 z12 c12 z13 c13 z14 c14 z15 c15
  have hW : ((((((((((((((((w2.setCell ⟨H + 1, 0, none⟩ (.int .i64 0)).setCell ⟨H + 1, 1, none⟩ (.int .u64 0)).setCell ⟨H + 1, 2, none⟩ (.int .i64 0)).setCell ⟨H + 1, 3, none⟩ (.int .i64 0)).setCell ⟨H + 1, 4, none⟩ (.int .u64 0)).setCell ⟨H + 1, 5, none⟩ (.int .i64 0)).setCell ⟨H + 1, 6, none⟩ (.int .u64 0)).setCell ⟨H + 1, 7, none⟩ (.int .i64 0)).setCell ⟨H + 1, 8, none⟩ (.int .i64 0)).setCell ⟨H + 1, 9, none⟩ (.int .u64 0)).setCell ⟨H + 1, 10, none⟩ (.int .i64 0)).setCell ⟨H + 1, 11, none⟩ (.int .u64 0)).setCell ⟨H + 1, 12, none⟩ (.bool false)).setCell ⟨H + 1, 13, none⟩ (.int .i64 0)).setCell ⟨H + 1, 14, none⟩ (.int .i64 0)).setCell ⟨H + 1, 15, none⟩ (.slice none 0 0)) = putCells w2 (H + 1) 0 [.int .i64 0, .int .u64 0, .int .i64 0, .int .i64 0, .int .u64 0, .int .i64 0, .int .u64 0, .int .i64 0, .int .i64 0, .int .u64 0, .int .i64 0, .int .u64 0, .bool false, .int .i64 0, .int .i64 0, .slice none 0 0] := rfl
  rw [hW]
  clear hW
  have F9 := putCells_is (cs := [.int .i64 0, .int .u64 0, .int .i64 0, .int .i64 0, .int .u64 0, .int .i64 0, .int .u64 0, .int .i64 0, .int .i64 0, .int .u64 0, .int .i64 0, .int .u64 0, .bool false, .int .i64 0, .int .i64 0, .slice none 0 0]) F2.out [.int .i64 0, .int .u64 0, .int .i64 0, .int .i64 0, .int .u64 0, .int .i64 0, .int .u64 0, .int .i64 0, .int .i64 0, .int .u64 0, .int .i64 0, .int .u64 0, .bool false, .int .i64 0, .int .i64 0, .slice none 0 0] rfl
  have k9 := putCells_kp (H + 1) [.int .i64 0, .int .u64 0, .int .i64 0, .int .i64 0, .int .u64 0, .int .i64 0, .int .u64 0, .int .i64 0, .int .i64 0, .int .u64 0, .int .i64 0, .int .u64 0, .bool false, .int .i64 0, .int .i64 0, .slice none 0 0] w2 0
  have B9 := (Kp.of_below (S := []) B2.out).trans k9 (fun j hj => by simp at hj; right; rw [hj, ← hH.out]; omega) |>.to_below (Nat.le_refl _) (by simp)
  refine ret_rst (p := 4) (u := 5) (b := H + 1) Tryd.results45 rfl rfl rfl F9 ?_
  exact ⟨rfl, B9⟩

/-- How a record is told. -/
def stA (v : Vc) (o : Cn) : RSt := (v, o.2.1, o.2.2, decide (0 < o.1.length), hd o.1, o.1.tail)
/-- A record's value: its numbers, and a row of those that wait that can be read. -/
def IsSt (w : World) (a : Value) (t : RSt) : Prop := ∃ q, a = .agg #[.int .i64 t.1.1, .int .u64 t.1.2, .int .i64 t.2.1.1, .int .i64 t.2.1.2.1, .int .u64 t.2.1.2.2.1, .int .i64 t.2.1.2.2.2.1, .int .u64 t.2.1.2.2.2.2, .int .i64 t.2.2.1.1, .int .i64 t.2.2.1.2.1, .int .u64 t.2.2.1.2.2.1, .int .i64 t.2.2.1.2.2.2.1, .int .u64 t.2.2.1.2.2.2.2, .bool t.2.2.2.1, .int .i64 t.2.2.2.2.1.1, .int .i64 t.2.2.2.2.1.2, q] ∧ Sl w q t.2.2.2.2.2

set_option maxHeartbeats 8000000 in
set_option maxRecDepth 100000 in
theorem get_some (base p m : Nat) (me : Rf) (L : Tb) (w : World) (h : LK w base p m me L) (hB : base ≤ w.heap.size) (x y : Int) (hv : okV (x, y)) (hm : okMe me) (hy : 0 ≤ y) (o : Cn) (ho : findC me L (x, y) = some o) : Calls Tryd.prog 45 #[(.pointer (some ⟨p, 0, none⟩)), .agg #[.int .i64 x, .int .u64 y]] w fun e w' => ∃ a, e = .returned (.tuple #[a, .bool true]) ∧ IsSt w' a (stA (x, y) o) ∧ (∀ q cs, a = .agg cs → cs[15]? = some q → ∀ k, q.ownBlock = some k → w.heap.size ≤ k) ∧ Below w.heap.size w w' := by
  have B0 := ((Below.refl w.heap.size w).alloc (Nat.le_refl _) (.cells #[.int .i64 x, .int .u64 y] 27)).alloc (by simp) (.cells #[.int .i64 0, .int .u64 0, .int .i64 0, .int .i64 0, .int .u64 0, .int .i64 0, .int .u64 0, .int .i64 0, .int .i64 0, .int .u64 0, .int .i64 0, .int .u64 0, .bool false, .int .i64 0, .int .i64 0, .slice none 0 0] 107)
  have V1 := hide ((IsB.new w #[.int .i64 x, .int .u64 y] 27).below ((Below.refl _ _).alloc (Nat.le_refl _) (.cells #[.int .i64 0, .int .u64 0, .int .i64 0, .int .i64 0, .int .u64 0, .int .i64 0, .int .u64 0, .int .i64 0, .int .i64 0, .int .u64 0, .int .i64 0, .int .u64 0, .bool false, .int .i64 0, .int .i64 0, .slice none 0 0] 107)))
  have F0 := IsB.new (w.alloc (.cells #[.int .i64 x, .int .u64 y] 27)) #[.int .i64 0, .int .u64 0, .int .i64 0, .int .i64 0, .int .u64 0, .int .i64 0, .int .u64 0, .int .i64 0, .int .i64 0, .int .u64 0, .int .i64 0, .int .u64 0, .bool false, .int .i64 0, .int .i64 0, .slice none 0 0] 107
  rw [World.size_alloc] at F0
  have F1 := hide F0
  have B1 := hide B0
  have L1 := hide (h.below B0)
  have hB1 : base ≤ ((w.alloc (.cells #[.int .i64 x, .int .u64 y] 27)).alloc (.cells #[.int .i64 0, .int .u64 0, .int .i64 0, .int .i64 0, .int .u64 0, .int .i64 0, .int .u64 0, .int .i64 0, .int .i64 0, .int .u64 0, .int .i64 0, .int .u64 0, .bool false, .int .i64 0, .int .i64 0, .slice none 0 0] 107)).heap.size := by simp; omega
  clear B0 F0 h
  have ho := hide ho
  go_enter Tryd.func45, Tryd.ntmps45
  go_wp2_with fail
  generalize (w.alloc (.cells #[.int .i64 x, .int .u64 y] 27)).alloc (.cells #[.int .i64 0, .int .u64 0, .int .i64 0, .int .i64 0, .int .u64 0, .int .i64 0, .int .u64 0, .int .i64 0, .int .i64 0, .int .u64 0, .int .i64 0, .int .u64 0, .bool false, .int .i64 0, .int .i64 0, .slice none 0 0] 107) = W1 at V1 F1 B1 L1 hB1 ⊢
  generalize hH : w.heap.size = H at V1 F1 ⊢
  replace hH := hide hH
  refine (find_some base p m me L _ L1.out hB1 x y hv hm hy o ho.out).mono ?_; rintro e w2 ⟨c, rfl, hcn, hc, -, hb2⟩
  obtain ⟨rb, lb, lv, os, ⟨x0, x1, x2, x3, x4⟩, ⟨y0, y1, y2, y3, y4⟩⟩ := c
  have hR : RecAt w2 rb lb lv os (x0, x1, x2, x3, x4) (y0, y1, y2, y3, y4) := hc
  have R2 := hide hR
  have hcn2 : o = (os, (x0, x1, x2, x3, x4), (y0, y1, y2, y3, y4)) := hcn.symm
  have HO := hide hcn2
  clear hcn hcn2 hc hR ho
  have F2 := hide (F1.out.below hb2)
  have V2 := V1.out.below hb2
  have B2 := hide (B1.out.trans (hb2.mono B1.out.size))
  clear hb2 V1 F1 B1 L1 hB1
  have q0 := V2.cell 0
  have q1 := V2.cell 1
  simp at q0 q1
  clear V2
  obtain ⟨BS, hBS⟩ : ∃ B, decide (0 < os.length) = B := ⟨_, rfl⟩
  obtain ⟨⟨h1, h2⟩, hh⟩ : ∃ z, hd os = z := ⟨_, rfl⟩
  obtain ⟨qn, hqn⟩ : ∃ z, os.tail.length = z := ⟨_, rfl⟩
  replace hBS := hide hBS
  replace hh := hide hh
  replace hqn := hide hqn
  go_wp2_with fail
  refine (state_gen rb lb lv os x0 x1 x2 x3 x4 y0 y1 y2 y3 y4 _ R2.out x y BS h1 h2 qn hBS.out hh.out hqn.out).mono ?_; rintro e w3 ⟨qa, qc, rfl, hq, hqf, hb3⟩
  have Q3 := hide hq
  have hqf := hide hqf
  have F3 := hide (F2.out.below hb3)
  have B3 := hide (B2.out.trans (hb3.mono B2.out.size))
  have hs2 := B2.out.size
  have hl2 := F2.out.lt
  clear hq hb3 q0 q1
  have z0 : w3.frozen? ⟨H + 1, 0, none⟩ = false := F3.out.free 0
  have c0 : w3.cell? ⟨H + 1, 0, none⟩ = some (.int .i64 0) := F3.out.cell 0
  have z1 : w3.frozen? ⟨H + 1, 1, none⟩ = false := F3.out.free 1
  have c1 : w3.cell? ⟨H + 1, 1, none⟩ = some (.int .u64 0) := F3.out.cell 1
  have z2 : w3.frozen? ⟨H + 1, 2, none⟩ = false := F3.out.free 2
  have c2 : w3.cell? ⟨H + 1, 2, none⟩ = some (.int .i64 0) := F3.out.cell 2
  have z3 : w3.frozen? ⟨H + 1, 3, none⟩ = false := F3.out.free 3
  have c3 : w3.cell? ⟨H + 1, 3, none⟩ = some (.int .i64 0) := F3.out.cell 3
  have z4 : w3.frozen? ⟨H + 1, 4, none⟩ = false := F3.out.free 4
  have c4 : w3.cell? ⟨H + 1, 4, none⟩ = some (.int .u64 0) := F3.out.cell 4
  have z5 : w3.frozen? ⟨H + 1, 5, none⟩ = false := F3.out.free 5
  have c5 : w3.cell? ⟨H + 1, 5, none⟩ = some (.int .i64 0) := F3.out.cell 5
  have z6 : w3.frozen? ⟨H + 1, 6, none⟩ = false := F3.out.free 6
  have c6 : w3.cell? ⟨H + 1, 6, none⟩ = some (.int .u64 0) := F3.out.cell 6
  have z7 : w3.frozen? ⟨H + 1, 7, none⟩ = false := F3.out.free 7
  have c7 : w3.cell? ⟨H + 1, 7, none⟩ = some (.int .i64 0) := F3.out.cell 7
  have z8 : w3.frozen? ⟨H + 1, 8, none⟩ = false := F3.out.free 8
  have c8 : w3.cell? ⟨H + 1, 8, none⟩ = some (.int .i64 0) := F3.out.cell 8
  have z9 : w3.frozen? ⟨H + 1, 9, none⟩ = false := F3.out.free 9
  have c9 : w3.cell? ⟨H + 1, 9, none⟩ = some (.int .u64 0) := F3.out.cell 9
  have z10 : w3.frozen? ⟨H + 1, 10, none⟩ = false := F3.out.free 10
  have c10 : w3.cell? ⟨H + 1, 10, none⟩ = some (.int .i64 0) := F3.out.cell 10
  have z11 : w3.frozen? ⟨H + 1, 11, none⟩ = false := F3.out.free 11
  have c11 : w3.cell? ⟨H + 1, 11, none⟩ = some (.int .u64 0) := F3.out.cell 11
  have z12 : w3.frozen? ⟨H + 1, 12, none⟩ = false := F3.out.free 12
  have c12 : w3.cell? ⟨H + 1, 12, none⟩ = some (.bool false) := F3.out.cell 12
  have z13 : w3.frozen? ⟨H + 1, 13, none⟩ = false := F3.out.free 13
  have c13 : w3.cell? ⟨H + 1, 13, none⟩ = some (.int .i64 0) := F3.out.cell 13
  have z14 : w3.frozen? ⟨H + 1, 14, none⟩ = false := F3.out.free 14
  have c14 : w3.cell? ⟨H + 1, 14, none⟩ = some (.int .i64 0) := F3.out.cell 14
  have z15 : w3.frozen? ⟨H + 1, 15, none⟩ = false := F3.out.free 15
  have c15 : w3.cell? ⟨H + 1, 15, none⟩ = some (.slice none 0 0) := F3.out.cell 15
  have fl := F3.out.lt
  go_wp2
  clear z0 c0 z1 c1 z2 c2 z3 c3 z4 c4 z5 c5 z6 c6 z7 c7 z8 c8 z9 c9 z10 c10 z11 c11 z12 c12 z13 c13 z14 c14 z15 c15
  have hW : ((((((((((((((((w3.setCell ⟨H + 1, 0, none⟩ (.int .i64 x)).setCell ⟨H + 1, 1, none⟩ (.int .u64 y)).setCell ⟨H + 1, 2, none⟩ (.int .i64 x0)).setCell ⟨H + 1, 3, none⟩ (.int .i64 x1)).setCell ⟨H + 1, 4, none⟩ (.int .u64 x2)).setCell ⟨H + 1, 5, none⟩ (.int .i64 x3)).setCell ⟨H + 1, 6, none⟩ (.int .u64 x4)).setCell ⟨H + 1, 7, none⟩ (.int .i64 y0)).setCell ⟨H + 1, 8, none⟩ (.int .i64 y1)).setCell ⟨H + 1, 9, none⟩ (.int .u64 y2)).setCell ⟨H + 1, 10, none⟩ (.int .i64 y3)).setCell ⟨H + 1, 11, none⟩ (.int .u64 y4)).setCell ⟨H + 1, 12, none⟩ (.bool BS)).setCell ⟨H + 1, 13, none⟩ (.int .i64 h1)).setCell ⟨H + 1, 14, none⟩ (.int .i64 h2)).setCell ⟨H + 1, 15, none⟩ (.slice qa qn qc)) = putCells w3 (H + 1) 0 [.int .i64 x, .int .u64 y, .int .i64 x0, .int .i64 x1, .int .u64 x2, .int .i64 x3, .int .u64 x4, .int .i64 y0, .int .i64 y1, .int .u64 y2, .int .i64 y3, .int .u64 y4, .bool BS, .int .i64 h1, .int .i64 h2, .slice qa qn qc] := rfl
  rw [hW]
  clear hW
  have F9 := putCells_is (cs := [.int .i64 0, .int .u64 0, .int .i64 0, .int .i64 0, .int .u64 0, .int .i64 0, .int .u64 0, .int .i64 0, .int .i64 0, .int .u64 0, .int .i64 0, .int .u64 0, .bool false, .int .i64 0, .int .i64 0, .slice none 0 0]) F3.out [.int .i64 x, .int .u64 y, .int .i64 x0, .int .i64 x1, .int .u64 x2, .int .i64 x3, .int .u64 x4, .int .i64 y0, .int .i64 y1, .int .u64 y2, .int .i64 y3, .int .u64 y4, .bool BS, .int .i64 h1, .int .i64 h2, .slice qa qn qc] rfl
  have k9 := putCells_kp (H + 1) [.int .i64 x, .int .u64 y, .int .i64 x0, .int .i64 x1, .int .u64 x2, .int .i64 x3, .int .u64 x4, .int .i64 y0, .int .i64 y1, .int .u64 y2, .int .i64 y3, .int .u64 y4, .bool BS, .int .i64 h1, .int .i64 h2, .slice qa qn qc] w3 0
  have B9 := (Kp.of_below (S := []) B3.out).trans k9 (fun j hj => by simp at hj; right; rw [hj, ← hH.out]; omega) |>.to_below (Nat.le_refl _) (by simp)
  refine ret_rst (p := 4) (u := 5) (b := H + 1) Tryd.results45 rfl rfl rfl F9 ?_
  have hqn1 : ∀ k, (Value.slice qa qn qc).ownBlock = some k → k ∉ [H + 1] := fun k hk => by have := hqf.out k hk; simp; omega
  refine ⟨_, rfl, ⟨.slice qa qn qc, ?_, ?_⟩, ?_, B9⟩
  · rw [HO.out]
    simp only [stA, hh.out, hBS.out]
  · rw [HO.out]
    exact Q3.out.kp k9 hqn1
  · intro q cs ecs eq k hk
    injection ecs with ecs
    subst ecs
    simp at eq
    subst eq
    have := hqf.out k hk
    omega

end Go.Proofs.YtdogdinkopocaaaDoor
