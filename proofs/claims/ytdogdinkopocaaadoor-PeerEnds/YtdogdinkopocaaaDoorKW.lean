/- Package link: Left, Right. -/
import Derived.Test.YtdogdinkopocaaaDoorKU
namespace Go.Proofs.YtdogdinkopocaaaDoor
open Go.RowKit Go.Maps

/-- A record's left side is stored, its right one. -/
@[reducible] def put5 (w : World) (b j : Nat) (z0 z1 z2 z3 z4 : Value) : World := ((((w.setCell ⟨b, j, none⟩ z0).setCell ⟨b, j + 1, none⟩ z1).setCell ⟨b, j + 2, none⟩ z2).setCell ⟨b, j + 3, none⟩ z3).setCell ⟨b, j + 4, none⟩ z4
theorem put5_kp (w : World) (b j : Nat) (z0 z1 z2 z3 z4 : Value) : Kp [b] w (put5 w b j z0 z1 z2 z3 z4) := (((((Kp.refl _ w).set _ z0 (Or.inl (by simp))).set _ z1 (Or.inl (by simp))).set _ z2 (Or.inl (by simp))).set _ z3 (Or.inl (by simp))).set _ z4 (Or.inl (by simp))
theorem put5_left {w : World} {b : Nat} {t : TypeId} {c0 c1 c2 c3 c4 c5 c6 c7 c8 c9 ca : Value} (h : IsB w b #[c0, c1, c2, c3, c4, c5, c6, c7, c8, c9, ca] t) (z0 z1 z2 z3 z4 : Value) : IsB (put5 w b 1 z0 z1 z2 z3 z4) b #[c0, z0, z1, z2, z3, z4, c6, c7, c8, c9, ca] t := by
  have := ((((h.set 1 z0).set 2 z1).set 3 z2).set 4 z3).set 5 z4
  simpa using this
theorem put5_right {w : World} {b : Nat} {t : TypeId} {c0 c1 c2 c3 c4 c5 c6 c7 c8 c9 ca : Value} (h : IsB w b #[c0, c1, c2, c3, c4, c5, c6, c7, c8, c9, ca] t) (z0 z1 z2 z3 z4 : Value) : IsB (put5 w b 6 z0 z1 z2 z3 z4) b #[c0, c1, c2, c3, c4, c5, z0, z1, z2, z3, z4] t := by
  have := ((((h.set 6 z0).set 7 z1).set 8 z2).set 9 z3).set 10 z4
  simpa using this
theorem RecAt.left {w : World} {rb lb : Nat} {v : Value} {os : List Ow} {x y : Rf} (h : RecAt w rb lb v os x y) (z0 z1 z2 z3 z4 : Int) : RecAt (put5 w rb 1 (.int .i64 z0) (.int .i64 z1) (.int .u64 z2) (.int .i64 z3) (.int .u64 z4)) rb lb v os (z0, z1, z2, z3, z4) y := by
  have hk := put5_kp w rb 1 (.int .i64 z0) (.int .i64 z1) (.int .u64 z2) (.int .i64 z3) (.int .u64 z4)
  refine ⟨put5_left h.blk _ _ _ _ _, ⟨h.ls.blk.kp hk ?_, h.ls.row.kp hk ?_, h.ls.len⟩⟩
  · simp only [List.mem_cons, List.not_mem_nil, or_false]
    exact h.ls.blk.ne_t h.blk (Ne.symm tne1)
  · intro k hk
    simp only [List.mem_cons, List.not_mem_nil, or_false]
    exact h.row_off hk h.blk tne4
theorem RecAt.right {w : World} {rb lb : Nat} {v : Value} {os : List Ow} {x y : Rf} (h : RecAt w rb lb v os x y) (z0 z1 z2 z3 z4 : Int) : RecAt (put5 w rb 6 (.int .i64 z0) (.int .i64 z1) (.int .u64 z2) (.int .i64 z3) (.int .u64 z4)) rb lb v os x (z0, z1, z2, z3, z4) := by
  have hk := put5_kp w rb 6 (.int .i64 z0) (.int .i64 z1) (.int .u64 z2) (.int .i64 z3) (.int .u64 z4)
  refine ⟨put5_right h.blk _ _ _ _ _, ⟨h.ls.blk.kp hk ?_, h.ls.row.kp hk ?_, h.ls.len⟩⟩
  · simp only [List.mem_cons, List.not_mem_nil, or_false]
    exact h.ls.blk.ne_t h.blk (Ne.symm tne1)
  · intro k hk
    simp only [List.mem_cons, List.not_mem_nil, or_false]
    exact h.row_off hk h.blk tne4
theorem Kp.wide {S T : List Nat} {a b : World} (h : Kp S a b) (hT : ∀ j ∈ S, j ∈ T) : Kp T a b := h.mono fun j hj => Or.inl (hT j hj)

set_option maxHeartbeats 8000000 in
set_option maxRecDepth 100000 in
theorem left_none (base p m : Nat) (me : Rf) (L : Tb) (w : World) (h : LK w base p m me L) (x y : Int) (hv : okV (x, y)) (hm : okMe me) (hy : 0 ≤ y) (z0 z1 z2 z3 z4 : Int) (ho : findC me L (x, y) = none) : Calls Tryd.prog 55 #[(.pointer (some ⟨p, 0, none⟩)), .agg #[.int .i64 x, .int .u64 y], .agg #[.int .i64 z0, .int .i64 z1, .int .u64 z2, .int .i64 z3, .int .u64 z4]] w fun e w' => e = .returned (.int .i64 82) ∧ Below w.heap.size w w' := by
  have B0 : Below w.heap.size w ((w.alloc (.cells #[.int .i64 x, .int .u64 y] 27)).alloc (.cells #[.int .i64 z0, .int .i64 z1, .int .u64 z2, .int .i64 z3, .int .u64 z4] 29)) := (((Below.refl w.heap.size w).alloc (Nat.le_refl _) (.cells #[.int .i64 x, .int .u64 y] 27)).alloc (by simp) (.cells #[.int .i64 z0, .int .i64 z1, .int .u64 z2, .int .i64 z3, .int .u64 z4] 29))
  have IV0 := ((IsB.new w #[.int .i64 x, .int .u64 y] 27).below ((Below.refl _ _).alloc (Nat.le_refl _) (.cells #[.int .i64 z0, .int .i64 z1, .int .u64 z2, .int .i64 z3, .int .u64 z4] 29)))
  have IV := hide IV0
  clear IV0
  have IZ0 := (IsB.new (w.alloc (.cells #[.int .i64 x, .int .u64 y] 27)) #[.int .i64 z0, .int .i64 z1, .int .u64 z2, .int .i64 z3, .int .u64 z4] 29)
  simp only [World.size_alloc] at IZ0
  have IZ := hide IZ0
  clear IZ0
  have B1 := hide B0
  have L1 := hide (h.below B0)
  have h0 := hide h
  clear B0 h
  have ho := hide ho
  go_enter Tryd.func55, Tryd.ntmps55
  go_wp2_with fail
  generalize ((w.alloc (.cells #[.int .i64 x, .int .u64 y] 27)).alloc (.cells #[.int .i64 z0, .int .i64 z1, .int .u64 z2, .int .i64 z3, .int .u64 z4] 29)) = W1 at IV IZ B1 L1 ⊢
  generalize hH : w.heap.size = H at IV IZ ⊢
  replace hH := hide hH
  refine (find_none base p m me L _ L1.out x y hv hm hy ho.out).mono ?_; rintro e w2 ⟨rfl, hb2⟩
  have B2 := hide (B1.out.trans (hb2.mono B1.out.size))
  clear hb2
  go_wp2
  go_ret
  exact ⟨rfl, B2.out⟩

set_option maxHeartbeats 8000000 in
set_option maxRecDepth 100000 in
theorem left_no (p : Value) (x y : Int) (z0 z1 z2 z3 z4 : Int) (w : World) (h : NoLinks w p) : Calls Tryd.prog 55 #[p, .agg #[.int .i64 x, .int .u64 y], .agg #[.int .i64 z0, .int .i64 z1, .int .u64 z2, .int .i64 z3, .int .u64 z4]] w fun e w' => e = .returned (.int .i64 4) ∧ Below w.heap.size w w' := by
  have B0 : Below w.heap.size w ((w.alloc (.cells #[.int .i64 x, .int .u64 y] 27)).alloc (.cells #[.int .i64 z0, .int .i64 z1, .int .u64 z2, .int .i64 z3, .int .u64 z4] 29)) := (((Below.refl w.heap.size w).alloc (Nat.le_refl _) (.cells #[.int .i64 x, .int .u64 y] 27)).alloc (by simp) (.cells #[.int .i64 z0, .int .i64 z1, .int .u64 z2, .int .i64 z3, .int .u64 z4] 29))
  have IV0 := ((IsB.new w #[.int .i64 x, .int .u64 y] 27).below ((Below.refl _ _).alloc (Nat.le_refl _) (.cells #[.int .i64 z0, .int .i64 z1, .int .u64 z2, .int .i64 z3, .int .u64 z4] 29)))
  have IV := hide IV0
  clear IV0
  have IZ0 := (IsB.new (w.alloc (.cells #[.int .i64 x, .int .u64 y] 27)) #[.int .i64 z0, .int .i64 z1, .int .u64 z2, .int .i64 z3, .int .u64 z4] 29)
  simp only [World.size_alloc] at IZ0
  have IZ := hide IZ0
  clear IZ0
  have B1 := hide B0
  have L1 := hide (h.below B0)
  clear B0 h
  go_enter Tryd.func55, Tryd.ntmps55
  go_wp2_with fail
  generalize ((w.alloc (.cells #[.int .i64 x, .int .u64 y] 27)).alloc (.cells #[.int .i64 z0, .int .i64 z1, .int .u64 z2, .int .i64 z3, .int .u64 z4] 29)) = W1 at IV IZ B1 L1 ⊢
  generalize hH : w.heap.size = H at IV IZ ⊢
  replace hH := hide hH
  refine (find_no p x y _ L1.out).mono ?_; rintro e w2 ⟨rfl, hb2⟩
  have B2 := hide (B1.out.trans (hb2.mono B1.out.size))
  clear hb2
  go_wp2
  go_ret
  exact ⟨rfl, B2.out⟩

set_option maxHeartbeats 8000000 in
set_option maxRecDepth 100000 in
theorem left_side (base p m : Nat) (me : Rf) (L : Tb) (w : World) (h : LK w base p m me L) (hB : base ≤ w.heap.size) (x y : Int) (hv : okV (x, y)) (hm : okMe me) (hy : 0 ≤ y) (z0 z1 z2 z3 z4 : Int) (hR : Ranks w) (oc : Cn) (ho : findC me L (x, y) = some oc) (hs : toL z1 z2 me.2.1 me.2.2.1 = false) : Calls Tryd.prog 55 #[(.pointer (some ⟨p, 0, none⟩)), .agg #[.int .i64 x, .int .u64 y], .agg #[.int .i64 z0, .int .i64 z1, .int .u64 z2, .int .i64 z3, .int .u64 z4]] w fun e w' => e = .returned (.int .i64 83) ∧ Below w.heap.size w w' := by
  obtain ⟨i, r, n, l, b⟩ := me
  simp only [] at hs
  replace hs := hide hs
  have B0 : Below w.heap.size w ((w.alloc (.cells #[.int .i64 x, .int .u64 y] 27)).alloc (.cells #[.int .i64 z0, .int .i64 z1, .int .u64 z2, .int .i64 z3, .int .u64 z4] 29)) := (((Below.refl w.heap.size w).alloc (Nat.le_refl _) (.cells #[.int .i64 x, .int .u64 y] 27)).alloc (by simp) (.cells #[.int .i64 z0, .int .i64 z1, .int .u64 z2, .int .i64 z3, .int .u64 z4] 29))
  have IV0 := ((IsB.new w #[.int .i64 x, .int .u64 y] 27).below ((Below.refl _ _).alloc (Nat.le_refl _) (.cells #[.int .i64 z0, .int .i64 z1, .int .u64 z2, .int .i64 z3, .int .u64 z4] 29)))
  have IV := hide IV0
  clear IV0
  have IZ0 := (IsB.new (w.alloc (.cells #[.int .i64 x, .int .u64 y] 27)) #[.int .i64 z0, .int .i64 z1, .int .u64 z2, .int .i64 z3, .int .u64 z4] 29)
  simp only [World.size_alloc] at IZ0
  have IZ := hide IZ0
  clear IZ0
  have B1 := hide B0
  have L1 := hide (h.below B0)
  have hB1 : base ≤ ((w.alloc (.cells #[.int .i64 x, .int .u64 y] 27)).alloc (.cells #[.int .i64 z0, .int .i64 z1, .int .u64 z2, .int .i64 z3, .int .u64 z4] 29)).heap.size := by simp; omega
  have HR := hide (hR.below B0)
  have h0 := hide h
  clear B0 h hR
  have ho := hide ho
  go_enter Tryd.func55, Tryd.ntmps55
  go_wp2_with fail
  generalize ((w.alloc (.cells #[.int .i64 x, .int .u64 y] 27)).alloc (.cells #[.int .i64 z0, .int .i64 z1, .int .u64 z2, .int .i64 z3, .int .u64 z4] 29)) = W1 at IV IZ B1 L1 hB1 HR ⊢
  generalize hH : w.heap.size = H at IV IZ ⊢
  replace hH := hide hH
  refine (find_some base p m (i, r, n, l, b) L _ L1.out hB1 x y hv hm hy oc ho.out).mono ?_; rintro e w2 ⟨c, rfl, hcn, hc, hin, hb2⟩
  obtain ⟨rb, lb, lv, os, ⟨x0, x1, x2, x3, x4⟩, ⟨y0, y1, y2, y3, y4⟩⟩ := c
  have R2 : Hid (RecAt w2 rb lb lv os (x0, x1, x2, x3, x4) (y0, y1, y2, y3, y4)) := hc
  have hcn2 : oc = (os, (x0, x1, x2, x3, x4), (y0, y1, y2, y3, y4)) := hcn.symm
  have HO := hide hcn2
  have HIN : Hid (Here w.heap.size base (x, y) ⟨rb, lb, lv, os, (x0, x1, x2, x3, x4), (y0, y1, y2, y3, y4)⟩ L) := hin.imp id (fun g => ⟨g.1, Nat.le_trans B1.out.size g.2.1, Nat.le_trans B1.out.size g.2.2⟩)
  clear hcn hcn2 hc hin ho hB1
  have IV := hide (IV.out.below hb2)
  have IZ := hide (IZ.out.below hb2)
  have B2 := hide (B1.out.trans (hb2.mono B1.out.size))
  have L1 := hide (L1.out.below hb2)
  have HR := hide (HR.out.below hb2)
  clear hb2
  have qV0 := IV.out.cell 0
  have qV1 := IV.out.cell 1
  have qZ0 := IZ.out.cell 0
  have qZ1 := IZ.out.cell 1
  have qZ2 := IZ.out.cell 2
  have qZ3 := IZ.out.cell 3
  have qZ4 := IZ.out.cell 4
  simp at qV0 qV1 qZ0 qZ1 qZ2 qZ3 qZ4
  go_wp2_with fail
  refine (toLeft_any p m i r n l b _ L1.out.blk z0 z1 z2 z3 z4 HR.out).mono ?_; rintro e w4 ⟨rfl, hb4⟩
  rw [hs.out]
  clear qV0 qV1 qZ0 qZ1 qZ2 qZ3 qZ4
  have B4 := hide (B2.out.trans (hb4.mono B2.out.size))
  clear hb4
  go_wp2
  go_ret
  exact ⟨rfl, B4.out⟩

set_option maxHeartbeats 8000000 in
set_option maxRecDepth 100000 in
theorem left_ok (base p m : Nat) (me : Rf) (L : Tb) (w : World) (h : LK w base p m me L) (hB : base ≤ w.heap.size) (x y : Int) (hv : okV (x, y)) (hm : okMe me) (hy : 0 ≤ y) (z0 z1 z2 z3 z4 : Int) (hR : Ranks w) (oc : Cn) (ho : findC me L (x, y) = some oc) (hs : toL z1 z2 me.2.1 me.2.2.1 = true) : Calls Tryd.prog 55 #[(.pointer (some ⟨p, 0, none⟩)), .agg #[.int .i64 x, .int .u64 y], .agg #[.int .i64 z0, .int .i64 z1, .int .u64 z2, .int .i64 z3, .int .u64 z4]] w fun e w' => e = .returned (.int .i64 0) ∧ ∃ c : Rc, c.cn = (oc.1, (z0, z1, z2, z3, z4), oc.2.2) ∧ KX w w' base p m me L (keepT me (x, y) c (updL (x, y) c L)) := by
  obtain ⟨i, r, n, l, b⟩ := me
  simp only [] at hs
  replace hs := hide hs
  have B0 : Below w.heap.size w ((w.alloc (.cells #[.int .i64 x, .int .u64 y] 27)).alloc (.cells #[.int .i64 z0, .int .i64 z1, .int .u64 z2, .int .i64 z3, .int .u64 z4] 29)) := (((Below.refl w.heap.size w).alloc (Nat.le_refl _) (.cells #[.int .i64 x, .int .u64 y] 27)).alloc (by simp) (.cells #[.int .i64 z0, .int .i64 z1, .int .u64 z2, .int .i64 z3, .int .u64 z4] 29))
  have IV0 := ((IsB.new w #[.int .i64 x, .int .u64 y] 27).below ((Below.refl _ _).alloc (Nat.le_refl _) (.cells #[.int .i64 z0, .int .i64 z1, .int .u64 z2, .int .i64 z3, .int .u64 z4] 29)))
  have IV := hide IV0
  clear IV0
  have IZ0 := (IsB.new (w.alloc (.cells #[.int .i64 x, .int .u64 y] 27)) #[.int .i64 z0, .int .i64 z1, .int .u64 z2, .int .i64 z3, .int .u64 z4] 29)
  simp only [World.size_alloc] at IZ0
  have IZ := hide IZ0
  clear IZ0
  have B1 := hide B0
  have L1 := hide (h.below B0)
  have hB1 : base ≤ ((w.alloc (.cells #[.int .i64 x, .int .u64 y] 27)).alloc (.cells #[.int .i64 z0, .int .i64 z1, .int .u64 z2, .int .i64 z3, .int .u64 z4] 29)).heap.size := by simp; omega
  have HR := hide (hR.below B0)
  have h0 := hide h
  clear B0 h hR
  have ho := hide ho
  go_enter Tryd.func55, Tryd.ntmps55
  go_wp2_with fail
  generalize ((w.alloc (.cells #[.int .i64 x, .int .u64 y] 27)).alloc (.cells #[.int .i64 z0, .int .i64 z1, .int .u64 z2, .int .i64 z3, .int .u64 z4] 29)) = W1 at IV IZ B1 L1 hB1 HR ⊢
  generalize hH : w.heap.size = H at IV IZ ⊢
  replace hH := hide hH
  refine (find_some base p m (i, r, n, l, b) L _ L1.out hB1 x y hv hm hy oc ho.out).mono ?_; rintro e w2 ⟨c, rfl, hcn, hc, hin, hb2⟩
  obtain ⟨rb, lb, lv, os, ⟨x0, x1, x2, x3, x4⟩, ⟨y0, y1, y2, y3, y4⟩⟩ := c
  have R2 : Hid (RecAt w2 rb lb lv os (x0, x1, x2, x3, x4) (y0, y1, y2, y3, y4)) := hc
  have hcn2 : oc = (os, (x0, x1, x2, x3, x4), (y0, y1, y2, y3, y4)) := hcn.symm
  have HO := hide hcn2
  have HIN : Hid (Here w.heap.size base (x, y) ⟨rb, lb, lv, os, (x0, x1, x2, x3, x4), (y0, y1, y2, y3, y4)⟩ L) := hin.imp id (fun g => ⟨g.1, Nat.le_trans B1.out.size g.2.1, Nat.le_trans B1.out.size g.2.2⟩)
  clear hcn hcn2 hc hin ho hB1
  have IV := hide (IV.out.below hb2)
  have IZ := hide (IZ.out.below hb2)
  have B2 := hide (B1.out.trans (hb2.mono B1.out.size))
  have L1 := hide (L1.out.below hb2)
  have HR := hide (HR.out.below hb2)
  clear hb2
  have qV0 := IV.out.cell 0
  have qV1 := IV.out.cell 1
  have qZ0 := IZ.out.cell 0
  have qZ1 := IZ.out.cell 1
  have qZ2 := IZ.out.cell 2
  have qZ3 := IZ.out.cell 3
  have qZ4 := IZ.out.cell 4
  simp at qV0 qV1 qZ0 qZ1 qZ2 qZ3 qZ4
  go_wp2_with fail
  refine (toLeft_any p m i r n l b _ L1.out.blk z0 z1 z2 z3 z4 HR.out).mono ?_; rintro e w4 ⟨rfl, hb4⟩
  rw [hs.out]
  clear qV0 qV1 qZ0 qZ1 qZ2 qZ3 qZ4
  have IV := hide (IV.out.below hb4)
  have IZ := hide (IZ.out.below hb4)
  have B4 := hide (B2.out.trans (hb4.mono B2.out.size))
  have L1 := hide (L1.out.below hb4)
  have HR := hide (HR.out.below hb4)
  have R2 := hide (R2.out.below hb4)
  clear hb4
  have qV0 := IV.out.cell 0
  have qV1 := IV.out.cell 1
  have qZ0 := IZ.out.cell 0
  have qZ1 := IZ.out.cell 1
  have qZ2 := IZ.out.cell 2
  have qZ3 := IZ.out.cell 3
  have qZ4 := IZ.out.cell 4
  simp at qV0 qV1 qZ0 qZ1 qZ2 qZ3 qZ4
  have c0 : w4.cell? ⟨rb, 1, none⟩ = some (.int .i64 x0) := R2.out.blk.cell 1
  have f0 : w4.frozen? ⟨rb, 1, none⟩ = false := R2.out.blk.free 1
  have c1 : w4.cell? ⟨rb, 2, none⟩ = some (.int .i64 x1) := R2.out.blk.cell 2
  have f1 : w4.frozen? ⟨rb, 2, none⟩ = false := R2.out.blk.free 2
  have c2 : w4.cell? ⟨rb, 3, none⟩ = some (.int .u64 x2) := R2.out.blk.cell 3
  have f2 : w4.frozen? ⟨rb, 3, none⟩ = false := R2.out.blk.free 3
  have c3 : w4.cell? ⟨rb, 4, none⟩ = some (.int .i64 x3) := R2.out.blk.cell 4
  have f3 : w4.frozen? ⟨rb, 4, none⟩ = false := R2.out.blk.free 4
  have c4 : w4.cell? ⟨rb, 5, none⟩ = some (.int .u64 x4) := R2.out.blk.cell 5
  have f4 : w4.frozen? ⟨rb, 5, none⟩ = false := R2.out.blk.free 5
  have hrl := R2.out.blk.lt
  have rv0 : rb ≠ H := fun e => (R2.out.blk.ne_t IV.out (by decide)) e
  have rv1 : rb ≠ H + 1 := fun e => (R2.out.blk.ne_t IZ.out (by decide)) e
  have r5 := hide (R2.out.left z0 z1 z2 z3 z4)
  have k5 := put5_kp w4 rb 1 (.int .i64 z0) (.int .i64 z1) (.int .u64 z2) (.int .i64 z3) (.int .u64 z4)
  have hK5 : Hid (Kp [rb, lb] w4 (put5 w4 rb 1 (.int .i64 z0) (.int .i64 z1) (.int .u64 z2) (.int .i64 z3) (.int .u64 z4))) := k5.wide (by simp)
  have I5 := hide (IV.out.kp k5 (by simp; exact fun e => rv0 e.symm))
  have hU := hide (LK.upd L1.out (x, y) ⟨rb, lb, lv, os, (x0, x1, x2, x3, x4), (y0, y1, y2, y3, y4)⟩ ⟨rb, lb, lv, os, (z0, z1, z2, z3, z4), (y0, y1, y2, y3, y4)⟩ R2.out HIN.out.or hK5.out r5.out rfl rfl)
  have qv0 : (put5 w4 rb 1 (.int .i64 z0) (.int .i64 z1) (.int .u64 z2) (.int .i64 z3) (.int .u64 z4)).cell? ⟨H, 0, none⟩ = some (.int .i64 x) := I5.out.cell 0
  have qv1 : (put5 w4 rb 1 (.int .i64 z0) (.int .i64 z1) (.int .u64 z2) (.int .i64 z3) (.int .u64 z4)).cell? ⟨H, 1, none⟩ = some (.int .u64 y) := I5.out.cell 1
  clear k5
  go_wp2_with fail
  generalize hW5 : put5 w4 rb 1 (.int .i64 z0) (.int .i64 z1) (.int .u64 z2) (.int .i64 z3) (.int .u64 z4) = W5 at r5 hK5 hU I5 qv0 qv1
  have hW6 : (((((w4.setCell ⟨rb, 1, none⟩ (.int .i64 z0)).setCell ⟨rb, 2, none⟩ (.int .i64 z1)).setCell ⟨rb, 3, none⟩ (.int .u64 z2)).setCell ⟨rb, 4, none⟩ (.int .i64 z3)).setCell ⟨rb, 5, none⟩ (.int .u64 z4)) = W5 := hW5
  first | rw [hW6] | skip
  clear hW5 hW6
  refine (keep_any base p m (i, r, n, l, b) (updL (x, y) ⟨rb, lb, lv, os, (z0, z1, z2, z3, z4), (y0, y1, y2, y3, y4)⟩ L) _ hU.out.1 x y hv ⟨rb, lb, lv, os, (z0, z1, z2, z3, z4), (y0, y1, y2, y3, y4)⟩ r5.out hU.out.2).mono ?_; rintro e w6 ⟨rfl, h6, k6⟩
  have X6 := hide (h0.out.done (x, y) ⟨rb, lb, lv, os, (x0, x1, x2, x3, x4), (y0, y1, y2, y3, y4)⟩ ⟨rb, lb, lv, os, (z0, z1, z2, z3, z4), (y0, y1, y2, y3, y4)⟩ B4.out HIN.out hK5.out rfl rfl k6 h6)
  clear h6 k6
  clear c0 f0 c1 f1 c2 f2 c3 f3 c4 f4 qv0 qv1
  clear qV0 qV1 qZ0 qZ1 qZ2 qZ3 qZ4
  go_wp2
  go_ret
  refine ⟨rfl, ⟨rb, lb, lv, os, (z0, z1, z2, z3, z4), (y0, y1, y2, y3, y4)⟩, ?_, X6.out⟩
  rw [HO.out]
  rfl

set_option maxHeartbeats 8000000 in
set_option maxRecDepth 100000 in
theorem right_none (base p m : Nat) (me : Rf) (L : Tb) (w : World) (h : LK w base p m me L) (x y : Int) (hv : okV (x, y)) (hm : okMe me) (hy : 0 ≤ y) (z0 z1 z2 z3 z4 : Int) (a o : Int) (ho : findC me L (x, y) = none) : Calls Tryd.prog 35 #[(.pointer (some ⟨p, 0, none⟩)), .agg #[.int .i64 x, .int .u64 y], .agg #[.int .i64 z0, .int .i64 z1, .int .u64 z2, .int .i64 z3, .int .u64 z4], .agg #[.int .i64 a, .int .i64 o]] w fun e w' => e = .returned (.int .i64 82) ∧ Below w.heap.size w w' := by
  have B0 : Below w.heap.size w (((w.alloc (.cells #[.int .i64 x, .int .u64 y] 27)).alloc (.cells #[.int .i64 z0, .int .i64 z1, .int .u64 z2, .int .i64 z3, .int .u64 z4] 29)).alloc (.cells #[.int .i64 a, .int .i64 o] 52)) := ((((Below.refl w.heap.size w).alloc (Nat.le_refl _) (.cells #[.int .i64 x, .int .u64 y] 27)).alloc (by simp) (.cells #[.int .i64 z0, .int .i64 z1, .int .u64 z2, .int .i64 z3, .int .u64 z4] 29)).alloc (by simp; omega) (.cells #[.int .i64 a, .int .i64 o] 52))
  have IV0 := (((IsB.new w #[.int .i64 x, .int .u64 y] 27).below ((Below.refl _ _).alloc (Nat.le_refl _) (.cells #[.int .i64 z0, .int .i64 z1, .int .u64 z2, .int .i64 z3, .int .u64 z4] 29))).below ((Below.refl _ _).alloc (Nat.le_refl _) (.cells #[.int .i64 a, .int .i64 o] 52)))
  have IV := hide IV0
  clear IV0
  have IZ0 := ((IsB.new (w.alloc (.cells #[.int .i64 x, .int .u64 y] 27)) #[.int .i64 z0, .int .i64 z1, .int .u64 z2, .int .i64 z3, .int .u64 z4] 29).below ((Below.refl _ _).alloc (Nat.le_refl _) (.cells #[.int .i64 a, .int .i64 o] 52)))
  simp only [World.size_alloc] at IZ0
  have IZ := hide IZ0
  clear IZ0
  have IO0 := (IsB.new ((w.alloc (.cells #[.int .i64 x, .int .u64 y] 27)).alloc (.cells #[.int .i64 z0, .int .i64 z1, .int .u64 z2, .int .i64 z3, .int .u64 z4] 29)) #[.int .i64 a, .int .i64 o] 52)
  simp only [World.size_alloc] at IO0
  have IO := hide IO0
  clear IO0
  have B1 := hide B0
  have L1 := hide (h.below B0)
  have h0 := hide h
  clear B0 h
  have ho := hide ho
  go_enter Tryd.func35, Tryd.ntmps35
  go_wp2_with fail
  generalize (((w.alloc (.cells #[.int .i64 x, .int .u64 y] 27)).alloc (.cells #[.int .i64 z0, .int .i64 z1, .int .u64 z2, .int .i64 z3, .int .u64 z4] 29)).alloc (.cells #[.int .i64 a, .int .i64 o] 52)) = W1 at IV IZ IO B1 L1 ⊢
  generalize hH : w.heap.size = H at IV IZ IO ⊢
  replace hH := hide hH
  refine (find_none base p m me L _ L1.out x y hv hm hy ho.out).mono ?_; rintro e w2 ⟨rfl, hb2⟩
  have B2 := hide (B1.out.trans (hb2.mono B1.out.size))
  clear hb2
  go_wp2
  go_ret
  exact ⟨rfl, B2.out⟩

set_option maxHeartbeats 8000000 in
set_option maxRecDepth 100000 in
theorem right_no (p : Value) (x y : Int) (z0 z1 z2 z3 z4 : Int) (a o : Int) (w : World) (h : NoLinks w p) : Calls Tryd.prog 35 #[p, .agg #[.int .i64 x, .int .u64 y], .agg #[.int .i64 z0, .int .i64 z1, .int .u64 z2, .int .i64 z3, .int .u64 z4], .agg #[.int .i64 a, .int .i64 o]] w fun e w' => e = .returned (.int .i64 4) ∧ Below w.heap.size w w' := by
  have B0 : Below w.heap.size w (((w.alloc (.cells #[.int .i64 x, .int .u64 y] 27)).alloc (.cells #[.int .i64 z0, .int .i64 z1, .int .u64 z2, .int .i64 z3, .int .u64 z4] 29)).alloc (.cells #[.int .i64 a, .int .i64 o] 52)) := ((((Below.refl w.heap.size w).alloc (Nat.le_refl _) (.cells #[.int .i64 x, .int .u64 y] 27)).alloc (by simp) (.cells #[.int .i64 z0, .int .i64 z1, .int .u64 z2, .int .i64 z3, .int .u64 z4] 29)).alloc (by simp; omega) (.cells #[.int .i64 a, .int .i64 o] 52))
  have IV0 := (((IsB.new w #[.int .i64 x, .int .u64 y] 27).below ((Below.refl _ _).alloc (Nat.le_refl _) (.cells #[.int .i64 z0, .int .i64 z1, .int .u64 z2, .int .i64 z3, .int .u64 z4] 29))).below ((Below.refl _ _).alloc (Nat.le_refl _) (.cells #[.int .i64 a, .int .i64 o] 52)))
  have IV := hide IV0
  clear IV0
  have IZ0 := ((IsB.new (w.alloc (.cells #[.int .i64 x, .int .u64 y] 27)) #[.int .i64 z0, .int .i64 z1, .int .u64 z2, .int .i64 z3, .int .u64 z4] 29).below ((Below.refl _ _).alloc (Nat.le_refl _) (.cells #[.int .i64 a, .int .i64 o] 52)))
  simp only [World.size_alloc] at IZ0
  have IZ := hide IZ0
  clear IZ0
  have IO0 := (IsB.new ((w.alloc (.cells #[.int .i64 x, .int .u64 y] 27)).alloc (.cells #[.int .i64 z0, .int .i64 z1, .int .u64 z2, .int .i64 z3, .int .u64 z4] 29)) #[.int .i64 a, .int .i64 o] 52)
  simp only [World.size_alloc] at IO0
  have IO := hide IO0
  clear IO0
  have B1 := hide B0
  have L1 := hide (h.below B0)
  clear B0 h
  go_enter Tryd.func35, Tryd.ntmps35
  go_wp2_with fail
  generalize (((w.alloc (.cells #[.int .i64 x, .int .u64 y] 27)).alloc (.cells #[.int .i64 z0, .int .i64 z1, .int .u64 z2, .int .i64 z3, .int .u64 z4] 29)).alloc (.cells #[.int .i64 a, .int .i64 o] 52)) = W1 at IV IZ IO B1 L1 ⊢
  generalize hH : w.heap.size = H at IV IZ IO ⊢
  replace hH := hide hH
  refine (find_no p x y _ L1.out).mono ?_; rintro e w2 ⟨rfl, hb2⟩
  have B2 := hide (B1.out.trans (hb2.mono B1.out.size))
  clear hb2
  go_wp2
  go_ret
  exact ⟨rfl, B2.out⟩

set_option maxHeartbeats 8000000 in
set_option maxRecDepth 100000 in
theorem right_held (base p m : Nat) (me : Rf) (L : Tb) (w : World) (h : LK w base p m me L) (hB : base ≤ w.heap.size) (x y : Int) (hv : okV (x, y)) (hm : okMe me) (hy : 0 ≤ y) (z0 z1 z2 z3 z4 : Int) (a o : Int) (hR : Ranks w) (oc : Cn) (ho : findC me L (x, y) = some oc) (hh : heE oc.1 a o ≠ 0) : Calls Tryd.prog 35 #[(.pointer (some ⟨p, 0, none⟩)), .agg #[.int .i64 x, .int .u64 y], .agg #[.int .i64 z0, .int .i64 z1, .int .u64 z2, .int .i64 z3, .int .u64 z4], .agg #[.int .i64 a, .int .i64 o]] w fun e w' => e = .returned (.int .i64 (heE oc.1 a o)) ∧ Below w.heap.size w w' := by
  replace hh := hide hh
  have B0 : Below w.heap.size w (((w.alloc (.cells #[.int .i64 x, .int .u64 y] 27)).alloc (.cells #[.int .i64 z0, .int .i64 z1, .int .u64 z2, .int .i64 z3, .int .u64 z4] 29)).alloc (.cells #[.int .i64 a, .int .i64 o] 52)) := ((((Below.refl w.heap.size w).alloc (Nat.le_refl _) (.cells #[.int .i64 x, .int .u64 y] 27)).alloc (by simp) (.cells #[.int .i64 z0, .int .i64 z1, .int .u64 z2, .int .i64 z3, .int .u64 z4] 29)).alloc (by simp; omega) (.cells #[.int .i64 a, .int .i64 o] 52))
  have IV0 := (((IsB.new w #[.int .i64 x, .int .u64 y] 27).below ((Below.refl _ _).alloc (Nat.le_refl _) (.cells #[.int .i64 z0, .int .i64 z1, .int .u64 z2, .int .i64 z3, .int .u64 z4] 29))).below ((Below.refl _ _).alloc (Nat.le_refl _) (.cells #[.int .i64 a, .int .i64 o] 52)))
  have IV := hide IV0
  clear IV0
  have IZ0 := ((IsB.new (w.alloc (.cells #[.int .i64 x, .int .u64 y] 27)) #[.int .i64 z0, .int .i64 z1, .int .u64 z2, .int .i64 z3, .int .u64 z4] 29).below ((Below.refl _ _).alloc (Nat.le_refl _) (.cells #[.int .i64 a, .int .i64 o] 52)))
  simp only [World.size_alloc] at IZ0
  have IZ := hide IZ0
  clear IZ0
  have IO0 := (IsB.new ((w.alloc (.cells #[.int .i64 x, .int .u64 y] 27)).alloc (.cells #[.int .i64 z0, .int .i64 z1, .int .u64 z2, .int .i64 z3, .int .u64 z4] 29)) #[.int .i64 a, .int .i64 o] 52)
  simp only [World.size_alloc] at IO0
  have IO := hide IO0
  clear IO0
  have B1 := hide B0
  have L1 := hide (h.below B0)
  have hB1 : base ≤ (((w.alloc (.cells #[.int .i64 x, .int .u64 y] 27)).alloc (.cells #[.int .i64 z0, .int .i64 z1, .int .u64 z2, .int .i64 z3, .int .u64 z4] 29)).alloc (.cells #[.int .i64 a, .int .i64 o] 52)).heap.size := by simp; omega
  have HR := hide (hR.below B0)
  have h0 := hide h
  clear B0 h hR
  have ho := hide ho
  go_enter Tryd.func35, Tryd.ntmps35
  go_wp2_with fail
  generalize (((w.alloc (.cells #[.int .i64 x, .int .u64 y] 27)).alloc (.cells #[.int .i64 z0, .int .i64 z1, .int .u64 z2, .int .i64 z3, .int .u64 z4] 29)).alloc (.cells #[.int .i64 a, .int .i64 o] 52)) = W1 at IV IZ IO B1 L1 hB1 HR ⊢
  generalize hH : w.heap.size = H at IV IZ IO ⊢
  replace hH := hide hH
  refine (find_some base p m me L _ L1.out hB1 x y hv hm hy oc ho.out).mono ?_; rintro e w2 ⟨c, rfl, hcn, hc, hin, hb2⟩
  obtain ⟨rb, lb, lv, os, ⟨x0, x1, x2, x3, x4⟩, ⟨y0, y1, y2, y3, y4⟩⟩ := c
  have R2 : Hid (RecAt w2 rb lb lv os (x0, x1, x2, x3, x4) (y0, y1, y2, y3, y4)) := hc
  have hcn2 : oc = (os, (x0, x1, x2, x3, x4), (y0, y1, y2, y3, y4)) := hcn.symm
  have HO := hide hcn2
  have HIN : Hid (Here w.heap.size base (x, y) ⟨rb, lb, lv, os, (x0, x1, x2, x3, x4), (y0, y1, y2, y3, y4)⟩ L) := hin.imp id (fun g => ⟨g.1, Nat.le_trans B1.out.size g.2.1, Nat.le_trans B1.out.size g.2.2⟩)
  clear hcn hcn2 hc hin ho hB1
  have IV := hide (IV.out.below hb2)
  have IZ := hide (IZ.out.below hb2)
  have IO := hide (IO.out.below hb2)
  have B2 := hide (B1.out.trans (hb2.mono B1.out.size))
  have L1 := hide (L1.out.below hb2)
  have HR := hide (HR.out.below hb2)
  clear hb2
  have qV0 := IV.out.cell 0
  have qV1 := IV.out.cell 1
  have qZ0 := IZ.out.cell 0
  have qZ1 := IZ.out.cell 1
  have qZ2 := IZ.out.cell 2
  have qZ3 := IZ.out.cell 3
  have qZ4 := IZ.out.cell 4
  have qO0 := IO.out.cell 0
  have qO1 := IO.out.cell 1
  simp at qV0 qV1 qZ0 qZ1 qZ2 qZ3 qZ4 qO0 qO1
  go_wp2_with fail
  refine (heldBy_any rb lb lv os _ _ _ R2.out a o).mono ?_; rintro e w3 ⟨rfl, hb3⟩
  obtain ⟨E, hE⟩ : ∃ E, heE oc.1 a o = E := ⟨_, rfl⟩
  have hE2 : heE os a o = E := by rw [← hE, HO.out]
  have hne : (E != 0) = true := by have := hh.out; rw [hE] at this; simpa using this
  rw [hE2]; replace hE := hide hE
  clear hE2
  clear qV0 qV1 qZ0 qZ1 qZ2 qZ3 qZ4 qO0 qO1
  have B3 := hide (B2.out.trans (hb3.mono B2.out.size))
  clear hb3
  go_wp2
  go_ret
  exact ⟨by rw [hE.out]; rfl, B3.out⟩

set_option maxHeartbeats 8000000 in
set_option maxRecDepth 100000 in
theorem right_side (base p m : Nat) (me : Rf) (L : Tb) (w : World) (h : LK w base p m me L) (hB : base ≤ w.heap.size) (x y : Int) (hv : okV (x, y)) (hm : okMe me) (hy : 0 ≤ y) (z0 z1 z2 z3 z4 : Int) (a o : Int) (hR : Ranks w) (oc : Cn) (ho : findC me L (x, y) = some oc) (hh : heE oc.1 a o = 0) (hs : toR z1 z2 me.2.1 me.2.2.1 = false) : Calls Tryd.prog 35 #[(.pointer (some ⟨p, 0, none⟩)), .agg #[.int .i64 x, .int .u64 y], .agg #[.int .i64 z0, .int .i64 z1, .int .u64 z2, .int .i64 z3, .int .u64 z4], .agg #[.int .i64 a, .int .i64 o]] w fun e w' => e = .returned (.int .i64 83) ∧ Below w.heap.size w w' := by
  replace hh := hide hh
  obtain ⟨i, r, n, l, b⟩ := me
  simp only [] at hs
  replace hs := hide hs
  have B0 : Below w.heap.size w (((w.alloc (.cells #[.int .i64 x, .int .u64 y] 27)).alloc (.cells #[.int .i64 z0, .int .i64 z1, .int .u64 z2, .int .i64 z3, .int .u64 z4] 29)).alloc (.cells #[.int .i64 a, .int .i64 o] 52)) := ((((Below.refl w.heap.size w).alloc (Nat.le_refl _) (.cells #[.int .i64 x, .int .u64 y] 27)).alloc (by simp) (.cells #[.int .i64 z0, .int .i64 z1, .int .u64 z2, .int .i64 z3, .int .u64 z4] 29)).alloc (by simp; omega) (.cells #[.int .i64 a, .int .i64 o] 52))
  have IV0 := (((IsB.new w #[.int .i64 x, .int .u64 y] 27).below ((Below.refl _ _).alloc (Nat.le_refl _) (.cells #[.int .i64 z0, .int .i64 z1, .int .u64 z2, .int .i64 z3, .int .u64 z4] 29))).below ((Below.refl _ _).alloc (Nat.le_refl _) (.cells #[.int .i64 a, .int .i64 o] 52)))
  have IV := hide IV0
  clear IV0
  have IZ0 := ((IsB.new (w.alloc (.cells #[.int .i64 x, .int .u64 y] 27)) #[.int .i64 z0, .int .i64 z1, .int .u64 z2, .int .i64 z3, .int .u64 z4] 29).below ((Below.refl _ _).alloc (Nat.le_refl _) (.cells #[.int .i64 a, .int .i64 o] 52)))
  simp only [World.size_alloc] at IZ0
  have IZ := hide IZ0
  clear IZ0
  have IO0 := (IsB.new ((w.alloc (.cells #[.int .i64 x, .int .u64 y] 27)).alloc (.cells #[.int .i64 z0, .int .i64 z1, .int .u64 z2, .int .i64 z3, .int .u64 z4] 29)) #[.int .i64 a, .int .i64 o] 52)
  simp only [World.size_alloc] at IO0
  have IO := hide IO0
  clear IO0
  have B1 := hide B0
  have L1 := hide (h.below B0)
  have hB1 : base ≤ (((w.alloc (.cells #[.int .i64 x, .int .u64 y] 27)).alloc (.cells #[.int .i64 z0, .int .i64 z1, .int .u64 z2, .int .i64 z3, .int .u64 z4] 29)).alloc (.cells #[.int .i64 a, .int .i64 o] 52)).heap.size := by simp; omega
  have HR := hide (hR.below B0)
  have h0 := hide h
  clear B0 h hR
  have ho := hide ho
  go_enter Tryd.func35, Tryd.ntmps35
  go_wp2_with fail
  generalize (((w.alloc (.cells #[.int .i64 x, .int .u64 y] 27)).alloc (.cells #[.int .i64 z0, .int .i64 z1, .int .u64 z2, .int .i64 z3, .int .u64 z4] 29)).alloc (.cells #[.int .i64 a, .int .i64 o] 52)) = W1 at IV IZ IO B1 L1 hB1 HR ⊢
  generalize hH : w.heap.size = H at IV IZ IO ⊢
  replace hH := hide hH
  refine (find_some base p m (i, r, n, l, b) L _ L1.out hB1 x y hv hm hy oc ho.out).mono ?_; rintro e w2 ⟨c, rfl, hcn, hc, hin, hb2⟩
  obtain ⟨rb, lb, lv, os, ⟨x0, x1, x2, x3, x4⟩, ⟨y0, y1, y2, y3, y4⟩⟩ := c
  have R2 : Hid (RecAt w2 rb lb lv os (x0, x1, x2, x3, x4) (y0, y1, y2, y3, y4)) := hc
  have hcn2 : oc = (os, (x0, x1, x2, x3, x4), (y0, y1, y2, y3, y4)) := hcn.symm
  have HO := hide hcn2
  have HIN : Hid (Here w.heap.size base (x, y) ⟨rb, lb, lv, os, (x0, x1, x2, x3, x4), (y0, y1, y2, y3, y4)⟩ L) := hin.imp id (fun g => ⟨g.1, Nat.le_trans B1.out.size g.2.1, Nat.le_trans B1.out.size g.2.2⟩)
  clear hcn hcn2 hc hin ho hB1
  have IV := hide (IV.out.below hb2)
  have IZ := hide (IZ.out.below hb2)
  have IO := hide (IO.out.below hb2)
  have B2 := hide (B1.out.trans (hb2.mono B1.out.size))
  have L1 := hide (L1.out.below hb2)
  have HR := hide (HR.out.below hb2)
  clear hb2
  have qV0 := IV.out.cell 0
  have qV1 := IV.out.cell 1
  have qZ0 := IZ.out.cell 0
  have qZ1 := IZ.out.cell 1
  have qZ2 := IZ.out.cell 2
  have qZ3 := IZ.out.cell 3
  have qZ4 := IZ.out.cell 4
  have qO0 := IO.out.cell 0
  have qO1 := IO.out.cell 1
  simp at qV0 qV1 qZ0 qZ1 qZ2 qZ3 qZ4 qO0 qO1
  go_wp2_with fail
  refine (heldBy_any rb lb lv os _ _ _ R2.out a o).mono ?_; rintro e w3 ⟨rfl, hb3⟩
  rw [show heE os a o = 0 by have := hh.out; rw [HO.out] at this; exact this]
  clear qV0 qV1 qZ0 qZ1 qZ2 qZ3 qZ4 qO0 qO1
  have IV := hide (IV.out.below hb3)
  have IZ := hide (IZ.out.below hb3)
  have IO := hide (IO.out.below hb3)
  have B3 := hide (B2.out.trans (hb3.mono B2.out.size))
  have L1 := hide (L1.out.below hb3)
  have HR := hide (HR.out.below hb3)
  clear hb3
  have qV0 := IV.out.cell 0
  have qV1 := IV.out.cell 1
  have qZ0 := IZ.out.cell 0
  have qZ1 := IZ.out.cell 1
  have qZ2 := IZ.out.cell 2
  have qZ3 := IZ.out.cell 3
  have qZ4 := IZ.out.cell 4
  have qO0 := IO.out.cell 0
  have qO1 := IO.out.cell 1
  simp at qV0 qV1 qZ0 qZ1 qZ2 qZ3 qZ4 qO0 qO1
  go_wp2_with fail
  refine (toRight_any p m i r n l b _ L1.out.blk z0 z1 z2 z3 z4 HR.out).mono ?_; rintro e w4 ⟨rfl, hb4⟩
  rw [hs.out]
  clear qV0 qV1 qZ0 qZ1 qZ2 qZ3 qZ4 qO0 qO1
  have B4 := hide (B3.out.trans (hb4.mono B3.out.size))
  clear hb4
  go_wp2
  go_ret
  exact ⟨rfl, B4.out⟩

set_option maxHeartbeats 8000000 in
set_option maxRecDepth 100000 in
theorem right_ok (base p m : Nat) (me : Rf) (L : Tb) (w : World) (h : LK w base p m me L) (hB : base ≤ w.heap.size) (x y : Int) (hv : okV (x, y)) (hm : okMe me) (hy : 0 ≤ y) (z0 z1 z2 z3 z4 : Int) (a o : Int) (hR : Ranks w) (oc : Cn) (ho : findC me L (x, y) = some oc) (hh : heE oc.1 a o = 0) (hs : toR z1 z2 me.2.1 me.2.2.1 = true) : Calls Tryd.prog 35 #[(.pointer (some ⟨p, 0, none⟩)), .agg #[.int .i64 x, .int .u64 y], .agg #[.int .i64 z0, .int .i64 z1, .int .u64 z2, .int .i64 z3, .int .u64 z4], .agg #[.int .i64 a, .int .i64 o]] w fun e w' => e = .returned (.int .i64 0) ∧ ∃ c : Rc, c.cn = (oc.1, oc.2.1, (z0, z1, z2, z3, z4)) ∧ KX w w' base p m me L (keepT me (x, y) c (updL (x, y) c L)) := by
  obtain ⟨i, r, n, l, b⟩ := me
  simp only [] at hs
  replace hs := hide hs
  replace hh := hide hh
  have B0 : Below w.heap.size w (((w.alloc (.cells #[.int .i64 x, .int .u64 y] 27)).alloc (.cells #[.int .i64 z0, .int .i64 z1, .int .u64 z2, .int .i64 z3, .int .u64 z4] 29)).alloc (.cells #[.int .i64 a, .int .i64 o] 52)) := ((((Below.refl w.heap.size w).alloc (Nat.le_refl _) (.cells #[.int .i64 x, .int .u64 y] 27)).alloc (by simp) (.cells #[.int .i64 z0, .int .i64 z1, .int .u64 z2, .int .i64 z3, .int .u64 z4] 29)).alloc (by simp; omega) (.cells #[.int .i64 a, .int .i64 o] 52))
  have IV0 := (((IsB.new w #[.int .i64 x, .int .u64 y] 27).below ((Below.refl _ _).alloc (Nat.le_refl _) (.cells #[.int .i64 z0, .int .i64 z1, .int .u64 z2, .int .i64 z3, .int .u64 z4] 29))).below ((Below.refl _ _).alloc (Nat.le_refl _) (.cells #[.int .i64 a, .int .i64 o] 52)))
  have IV := hide IV0
  clear IV0
  have IZ0 := ((IsB.new (w.alloc (.cells #[.int .i64 x, .int .u64 y] 27)) #[.int .i64 z0, .int .i64 z1, .int .u64 z2, .int .i64 z3, .int .u64 z4] 29).below ((Below.refl _ _).alloc (Nat.le_refl _) (.cells #[.int .i64 a, .int .i64 o] 52)))
  simp only [World.size_alloc] at IZ0
  have IZ := hide IZ0
  clear IZ0
  have IO0 := (IsB.new ((w.alloc (.cells #[.int .i64 x, .int .u64 y] 27)).alloc (.cells #[.int .i64 z0, .int .i64 z1, .int .u64 z2, .int .i64 z3, .int .u64 z4] 29)) #[.int .i64 a, .int .i64 o] 52)
  simp only [World.size_alloc] at IO0
  have IO := hide IO0
  clear IO0
  have B1 := hide B0
  have L1 := hide (h.below B0)
  have hB1 : base ≤ (((w.alloc (.cells #[.int .i64 x, .int .u64 y] 27)).alloc (.cells #[.int .i64 z0, .int .i64 z1, .int .u64 z2, .int .i64 z3, .int .u64 z4] 29)).alloc (.cells #[.int .i64 a, .int .i64 o] 52)).heap.size := by simp; omega
  have HR := hide (hR.below B0)
  have h0 := hide h
  clear B0 h hR
  have ho := hide ho
  go_enter Tryd.func35, Tryd.ntmps35
  go_wp2_with fail
  generalize (((w.alloc (.cells #[.int .i64 x, .int .u64 y] 27)).alloc (.cells #[.int .i64 z0, .int .i64 z1, .int .u64 z2, .int .i64 z3, .int .u64 z4] 29)).alloc (.cells #[.int .i64 a, .int .i64 o] 52)) = W1 at IV IZ IO B1 L1 hB1 HR ⊢
  generalize hH : w.heap.size = H at IV IZ IO ⊢
  replace hH := hide hH
  refine (find_some base p m (i, r, n, l, b) L _ L1.out hB1 x y hv hm hy oc ho.out).mono ?_; rintro e w2 ⟨c, rfl, hcn, hc, hin, hb2⟩
  obtain ⟨rb, lb, lv, os, ⟨x0, x1, x2, x3, x4⟩, ⟨y0, y1, y2, y3, y4⟩⟩ := c
  have R2 : Hid (RecAt w2 rb lb lv os (x0, x1, x2, x3, x4) (y0, y1, y2, y3, y4)) := hc
  have hcn2 : oc = (os, (x0, x1, x2, x3, x4), (y0, y1, y2, y3, y4)) := hcn.symm
  have HO := hide hcn2
  have HIN : Hid (Here w.heap.size base (x, y) ⟨rb, lb, lv, os, (x0, x1, x2, x3, x4), (y0, y1, y2, y3, y4)⟩ L) := hin.imp id (fun g => ⟨g.1, Nat.le_trans B1.out.size g.2.1, Nat.le_trans B1.out.size g.2.2⟩)
  clear hcn hcn2 hc hin ho hB1
  have IV := hide (IV.out.below hb2)
  have IZ := hide (IZ.out.below hb2)
  have IO := hide (IO.out.below hb2)
  have B2 := hide (B1.out.trans (hb2.mono B1.out.size))
  have L1 := hide (L1.out.below hb2)
  have HR := hide (HR.out.below hb2)
  clear hb2
  have qV0 := IV.out.cell 0
  have qV1 := IV.out.cell 1
  have qZ0 := IZ.out.cell 0
  have qZ1 := IZ.out.cell 1
  have qZ2 := IZ.out.cell 2
  have qZ3 := IZ.out.cell 3
  have qZ4 := IZ.out.cell 4
  have qO0 := IO.out.cell 0
  have qO1 := IO.out.cell 1
  simp at qV0 qV1 qZ0 qZ1 qZ2 qZ3 qZ4 qO0 qO1
  go_wp2_with fail
  refine (heldBy_any rb lb lv os _ _ _ R2.out a o).mono ?_; rintro e w3 ⟨rfl, hb3⟩
  rw [show heE os a o = 0 by have := hh.out; rw [HO.out] at this; exact this]
  clear qV0 qV1 qZ0 qZ1 qZ2 qZ3 qZ4 qO0 qO1
  have IV := hide (IV.out.below hb3)
  have IZ := hide (IZ.out.below hb3)
  have IO := hide (IO.out.below hb3)
  have B3 := hide (B2.out.trans (hb3.mono B2.out.size))
  have L1 := hide (L1.out.below hb3)
  have HR := hide (HR.out.below hb3)
  have R2 := hide (R2.out.below hb3)
  clear hb3
  have qV0 := IV.out.cell 0
  have qV1 := IV.out.cell 1
  have qZ0 := IZ.out.cell 0
  have qZ1 := IZ.out.cell 1
  have qZ2 := IZ.out.cell 2
  have qZ3 := IZ.out.cell 3
  have qZ4 := IZ.out.cell 4
  have qO0 := IO.out.cell 0
  have qO1 := IO.out.cell 1
  simp at qV0 qV1 qZ0 qZ1 qZ2 qZ3 qZ4 qO0 qO1
  go_wp2_with fail
  refine (toRight_any p m i r n l b _ L1.out.blk z0 z1 z2 z3 z4 HR.out).mono ?_; rintro e w4 ⟨rfl, hb4⟩
  rw [hs.out]
  clear qV0 qV1 qZ0 qZ1 qZ2 qZ3 qZ4 qO0 qO1
  have IV := hide (IV.out.below hb4)
  have IZ := hide (IZ.out.below hb4)
  have IO := hide (IO.out.below hb4)
  have B4 := hide (B3.out.trans (hb4.mono B3.out.size))
  have L1 := hide (L1.out.below hb4)
  have HR := hide (HR.out.below hb4)
  have R2 := hide (R2.out.below hb4)
  clear hb4
  have qV0 := IV.out.cell 0
  have qV1 := IV.out.cell 1
  have qZ0 := IZ.out.cell 0
  have qZ1 := IZ.out.cell 1
  have qZ2 := IZ.out.cell 2
  have qZ3 := IZ.out.cell 3
  have qZ4 := IZ.out.cell 4
  have qO0 := IO.out.cell 0
  have qO1 := IO.out.cell 1
  simp at qV0 qV1 qZ0 qZ1 qZ2 qZ3 qZ4 qO0 qO1
  have c0 : w4.cell? ⟨rb, 6, none⟩ = some (.int .i64 y0) := R2.out.blk.cell 6
  have f0 : w4.frozen? ⟨rb, 6, none⟩ = false := R2.out.blk.free 6
  have c1 : w4.cell? ⟨rb, 7, none⟩ = some (.int .i64 y1) := R2.out.blk.cell 7
  have f1 : w4.frozen? ⟨rb, 7, none⟩ = false := R2.out.blk.free 7
  have c2 : w4.cell? ⟨rb, 8, none⟩ = some (.int .u64 y2) := R2.out.blk.cell 8
  have f2 : w4.frozen? ⟨rb, 8, none⟩ = false := R2.out.blk.free 8
  have c3 : w4.cell? ⟨rb, 9, none⟩ = some (.int .i64 y3) := R2.out.blk.cell 9
  have f3 : w4.frozen? ⟨rb, 9, none⟩ = false := R2.out.blk.free 9
  have c4 : w4.cell? ⟨rb, 10, none⟩ = some (.int .u64 y4) := R2.out.blk.cell 10
  have f4 : w4.frozen? ⟨rb, 10, none⟩ = false := R2.out.blk.free 10
  have hrl := R2.out.blk.lt
  have rv0 : rb ≠ H := fun e => (R2.out.blk.ne_t IV.out (by decide)) e
  have rv1 : rb ≠ H + 1 := fun e => (R2.out.blk.ne_t IZ.out (by decide)) e
  have r5 := hide (R2.out.right z0 z1 z2 z3 z4)
  have k5 := put5_kp w4 rb 6 (.int .i64 z0) (.int .i64 z1) (.int .u64 z2) (.int .i64 z3) (.int .u64 z4)
  have hK5 : Hid (Kp [rb, lb] w4 (put5 w4 rb 6 (.int .i64 z0) (.int .i64 z1) (.int .u64 z2) (.int .i64 z3) (.int .u64 z4))) := k5.wide (by simp)
  have I5 := hide (IV.out.kp k5 (by simp; exact fun e => rv0 e.symm))
  have hU := hide (LK.upd L1.out (x, y) ⟨rb, lb, lv, os, (x0, x1, x2, x3, x4), (y0, y1, y2, y3, y4)⟩ ⟨rb, lb, lv, os, (x0, x1, x2, x3, x4), (z0, z1, z2, z3, z4)⟩ R2.out HIN.out.or hK5.out r5.out rfl rfl)
  have qv0 : (put5 w4 rb 6 (.int .i64 z0) (.int .i64 z1) (.int .u64 z2) (.int .i64 z3) (.int .u64 z4)).cell? ⟨H, 0, none⟩ = some (.int .i64 x) := I5.out.cell 0
  have qv1 : (put5 w4 rb 6 (.int .i64 z0) (.int .i64 z1) (.int .u64 z2) (.int .i64 z3) (.int .u64 z4)).cell? ⟨H, 1, none⟩ = some (.int .u64 y) := I5.out.cell 1
  clear k5
  go_wp2_with fail
  generalize hW5 : put5 w4 rb 6 (.int .i64 z0) (.int .i64 z1) (.int .u64 z2) (.int .i64 z3) (.int .u64 z4) = W5 at r5 hK5 hU I5 qv0 qv1
  have hW6 : (((((w4.setCell ⟨rb, 6, none⟩ (.int .i64 z0)).setCell ⟨rb, 7, none⟩ (.int .i64 z1)).setCell ⟨rb, 8, none⟩ (.int .u64 z2)).setCell ⟨rb, 9, none⟩ (.int .i64 z3)).setCell ⟨rb, 10, none⟩ (.int .u64 z4)) = W5 := hW5
  first | rw [hW6] | skip
  clear hW5 hW6
  refine (keep_any base p m (i, r, n, l, b) (updL (x, y) ⟨rb, lb, lv, os, (x0, x1, x2, x3, x4), (z0, z1, z2, z3, z4)⟩ L) _ hU.out.1 x y hv ⟨rb, lb, lv, os, (x0, x1, x2, x3, x4), (z0, z1, z2, z3, z4)⟩ r5.out hU.out.2).mono ?_; rintro e w6 ⟨rfl, h6, k6⟩
  have X6 := hide (h0.out.done (x, y) ⟨rb, lb, lv, os, (x0, x1, x2, x3, x4), (y0, y1, y2, y3, y4)⟩ ⟨rb, lb, lv, os, (x0, x1, x2, x3, x4), (z0, z1, z2, z3, z4)⟩ B4.out HIN.out hK5.out rfl rfl k6 h6)
  clear h6 k6
  clear c0 f0 c1 f1 c2 f2 c3 f3 c4 f4 qv0 qv1
  clear qV0 qV1 qZ0 qZ1 qZ2 qZ3 qZ4 qO0 qO1
  go_wp2
  go_ret
  refine ⟨rfl, ⟨rb, lb, lv, os, (x0, x1, x2, x3, x4), (z0, z1, z2, z3, z4)⟩, ?_, X6.out⟩
  rw [HO.out]
  rfl

end Go.Proofs.YtdogdinkopocaaaDoor
