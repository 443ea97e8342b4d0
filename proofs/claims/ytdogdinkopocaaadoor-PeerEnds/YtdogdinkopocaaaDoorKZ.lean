/- Package link: Put. -/
import Derived.Test.YtdogdinkopocaaaDoorKY
namespace Go.Proofs.YtdogdinkopocaaaDoor
open Go.RowKit Go.Maps

set_option maxHeartbeats 8000000 in
set_option maxRecDepth 100000 in
theorem put_no (p : Value) (x y : Int) (a0 a1 a2 a3 a4 b0 b1 b2 b3 b4 : Int) (oa oo : Int) (w : World) (h : NoLinks w p) : Calls Tryd.prog 37 #[p, .agg #[.int .i64 x, .int .u64 y], .agg #[.int .i64 a0, .int .i64 a1, .int .u64 a2, .int .i64 a3, .int .u64 a4], .agg #[.int .i64 b0, .int .i64 b1, .int .u64 b2, .int .i64 b3, .int .u64 b4], .agg #[.int .i64 oa, .int .i64 oo]] w fun e w' => e = .returned (.int .i64 4) ∧ Below w.heap.size w w' := by
  have B0 : Below w.heap.size w ((((w.alloc (.cells #[.int .i64 x, .int .u64 y] 27)).alloc (.cells #[.int .i64 a0, .int .i64 a1, .int .u64 a2, .int .i64 a3, .int .u64 a4] 29)).alloc (.cells #[.int .i64 b0, .int .i64 b1, .int .u64 b2, .int .i64 b3, .int .u64 b4] 29)).alloc (.cells #[.int .i64 oa, .int .i64 oo] 52)) := (((((Below.refl w.heap.size w).alloc (Nat.le_refl _) (.cells #[.int .i64 x, .int .u64 y] 27)).alloc (by simp) (.cells #[.int .i64 a0, .int .i64 a1, .int .u64 a2, .int .i64 a3, .int .u64 a4] 29)).alloc (by simp; omega) (.cells #[.int .i64 b0, .int .i64 b1, .int .u64 b2, .int .i64 b3, .int .u64 b4] 29)).alloc (by simp; omega) (.cells #[.int .i64 oa, .int .i64 oo] 52))
  have IV0 := ((((IsB.new w #[.int .i64 x, .int .u64 y] 27).below ((Below.refl _ _).alloc (Nat.le_refl _) (.cells #[.int .i64 a0, .int .i64 a1, .int .u64 a2, .int .i64 a3, .int .u64 a4] 29))).below ((Below.refl _ _).alloc (Nat.le_refl _) (.cells #[.int .i64 b0, .int .i64 b1, .int .u64 b2, .int .i64 b3, .int .u64 b4] 29))).below ((Below.refl _ _).alloc (Nat.le_refl _) (.cells #[.int .i64 oa, .int .i64 oo] 52)))
  have IV := hide IV0
  clear IV0
  have IA0 := (((IsB.new (w.alloc (.cells #[.int .i64 x, .int .u64 y] 27)) #[.int .i64 a0, .int .i64 a1, .int .u64 a2, .int .i64 a3, .int .u64 a4] 29).below ((Below.refl _ _).alloc (Nat.le_refl _) (.cells #[.int .i64 b0, .int .i64 b1, .int .u64 b2, .int .i64 b3, .int .u64 b4] 29))).below ((Below.refl _ _).alloc (Nat.le_refl _) (.cells #[.int .i64 oa, .int .i64 oo] 52)))
  simp only [World.size_alloc] at IA0
  have IA := hide IA0
  clear IA0
  have IB0 := ((IsB.new ((w.alloc (.cells #[.int .i64 x, .int .u64 y] 27)).alloc (.cells #[.int .i64 a0, .int .i64 a1, .int .u64 a2, .int .i64 a3, .int .u64 a4] 29)) #[.int .i64 b0, .int .i64 b1, .int .u64 b2, .int .i64 b3, .int .u64 b4] 29).below ((Below.refl _ _).alloc (Nat.le_refl _) (.cells #[.int .i64 oa, .int .i64 oo] 52)))
  simp only [World.size_alloc] at IB0
  have IB := hide IB0
  clear IB0
  have IO0 := (IsB.new (((w.alloc (.cells #[.int .i64 x, .int .u64 y] 27)).alloc (.cells #[.int .i64 a0, .int .i64 a1, .int .u64 a2, .int .i64 a3, .int .u64 a4] 29)).alloc (.cells #[.int .i64 b0, .int .i64 b1, .int .u64 b2, .int .i64 b3, .int .u64 b4] 29)) #[.int .i64 oa, .int .i64 oo] 52)
  simp only [World.size_alloc] at IO0
  have IO := hide IO0
  clear IO0
  have B1 := hide B0
  have L1 := hide (h.below B0)
  clear B0 h
  go_enter Tryd.func37, Tryd.ntmps37
  go_wp2_with fail
  generalize ((((w.alloc (.cells #[.int .i64 x, .int .u64 y] 27)).alloc (.cells #[.int .i64 a0, .int .i64 a1, .int .u64 a2, .int .i64 a3, .int .u64 a4] 29)).alloc (.cells #[.int .i64 b0, .int .i64 b1, .int .u64 b2, .int .i64 b3, .int .u64 b4] 29)).alloc (.cells #[.int .i64 oa, .int .i64 oo] 52)) = W1 at IV IA IB IO B1 L1 ⊢
  generalize hH : w.heap.size = H at IV IA IB IO ⊢
  replace hH := hide hH
  refine (lmade_no p _ L1.out).mono ?_; intro e w2 hE1; obtain ⟨rfl, hw⟩ := hE1
  rw [hw]
  clear hw
  go_wp2
  go_ret
  exact ⟨rfl, B1.out⟩

set_option maxHeartbeats 8000000 in
set_option maxRecDepth 100000 in
theorem put_end (base p m : Nat) (me : Rf) (L : Tb) (w : World) (h : LK w base p m me L) (x y : Int) (a0 a1 a2 a3 a4 b0 b1 b2 b3 b4 : Int) (oa oo : Int) (hr : me.2.1 ≠ 2) : Calls Tryd.prog 37 #[(.pointer (some ⟨p, 0, none⟩)), .agg #[.int .i64 x, .int .u64 y], .agg #[.int .i64 a0, .int .i64 a1, .int .u64 a2, .int .i64 a3, .int .u64 a4], .agg #[.int .i64 b0, .int .i64 b1, .int .u64 b2, .int .i64 b3, .int .u64 b4], .agg #[.int .i64 oa, .int .i64 oo]] w fun e w' => e = .returned (.int .i64 80) ∧ Below w.heap.size w w' := by
  obtain ⟨i, r, n, l, b⟩ := me
  simp only [] at hr
  have B0 : Below w.heap.size w ((((w.alloc (.cells #[.int .i64 x, .int .u64 y] 27)).alloc (.cells #[.int .i64 a0, .int .i64 a1, .int .u64 a2, .int .i64 a3, .int .u64 a4] 29)).alloc (.cells #[.int .i64 b0, .int .i64 b1, .int .u64 b2, .int .i64 b3, .int .u64 b4] 29)).alloc (.cells #[.int .i64 oa, .int .i64 oo] 52)) := (((((Below.refl w.heap.size w).alloc (Nat.le_refl _) (.cells #[.int .i64 x, .int .u64 y] 27)).alloc (by simp) (.cells #[.int .i64 a0, .int .i64 a1, .int .u64 a2, .int .i64 a3, .int .u64 a4] 29)).alloc (by simp; omega) (.cells #[.int .i64 b0, .int .i64 b1, .int .u64 b2, .int .i64 b3, .int .u64 b4] 29)).alloc (by simp; omega) (.cells #[.int .i64 oa, .int .i64 oo] 52))
  have IV0 := ((((IsB.new w #[.int .i64 x, .int .u64 y] 27).below ((Below.refl _ _).alloc (Nat.le_refl _) (.cells #[.int .i64 a0, .int .i64 a1, .int .u64 a2, .int .i64 a3, .int .u64 a4] 29))).below ((Below.refl _ _).alloc (Nat.le_refl _) (.cells #[.int .i64 b0, .int .i64 b1, .int .u64 b2, .int .i64 b3, .int .u64 b4] 29))).below ((Below.refl _ _).alloc (Nat.le_refl _) (.cells #[.int .i64 oa, .int .i64 oo] 52)))
  have IV := hide IV0
  clear IV0
  have IA0 := (((IsB.new (w.alloc (.cells #[.int .i64 x, .int .u64 y] 27)) #[.int .i64 a0, .int .i64 a1, .int .u64 a2, .int .i64 a3, .int .u64 a4] 29).below ((Below.refl _ _).alloc (Nat.le_refl _) (.cells #[.int .i64 b0, .int .i64 b1, .int .u64 b2, .int .i64 b3, .int .u64 b4] 29))).below ((Below.refl _ _).alloc (Nat.le_refl _) (.cells #[.int .i64 oa, .int .i64 oo] 52)))
  simp only [World.size_alloc] at IA0
  have IA := hide IA0
  clear IA0
  have IB0 := ((IsB.new ((w.alloc (.cells #[.int .i64 x, .int .u64 y] 27)).alloc (.cells #[.int .i64 a0, .int .i64 a1, .int .u64 a2, .int .i64 a3, .int .u64 a4] 29)) #[.int .i64 b0, .int .i64 b1, .int .u64 b2, .int .i64 b3, .int .u64 b4] 29).below ((Below.refl _ _).alloc (Nat.le_refl _) (.cells #[.int .i64 oa, .int .i64 oo] 52)))
  simp only [World.size_alloc] at IB0
  have IB := hide IB0
  clear IB0
  have IO0 := (IsB.new (((w.alloc (.cells #[.int .i64 x, .int .u64 y] 27)).alloc (.cells #[.int .i64 a0, .int .i64 a1, .int .u64 a2, .int .i64 a3, .int .u64 a4] 29)).alloc (.cells #[.int .i64 b0, .int .i64 b1, .int .u64 b2, .int .i64 b3, .int .u64 b4] 29)) #[.int .i64 oa, .int .i64 oo] 52)
  simp only [World.size_alloc] at IO0
  have IO := hide IO0
  clear IO0
  have B1 := hide B0
  have L1 := hide (h.below B0)
  clear B0 h
  go_enter Tryd.func37, Tryd.ntmps37
  go_wp2_with fail
  generalize ((((w.alloc (.cells #[.int .i64 x, .int .u64 y] 27)).alloc (.cells #[.int .i64 a0, .int .i64 a1, .int .u64 a2, .int .i64 a3, .int .u64 a4] 29)).alloc (.cells #[.int .i64 b0, .int .i64 b1, .int .u64 b2, .int .i64 b3, .int .u64 b4] 29)).alloc (.cells #[.int .i64 oa, .int .i64 oo] 52)) = W1 at IV IA IB IO B1 L1 ⊢
  generalize hH : w.heap.size = H at IV IA IB IO ⊢
  replace hH := hide hH
  refine (lmade_yes p m i r n l b _ L1.out.blk).mono ?_; intro e w2 hE1; obtain ⟨rfl, hw⟩ := hE1
  rw [hw]
  clear hw w2
  go_wp2_with fail
  refine (isEnd_any p m i r n l b _ L1.out.blk).mono ?_; intro e w2 hE1; obtain ⟨rfl, hw⟩ := hE1
  rw [hw]
  clear hw w2
  rw [decide_eq_true hr]
  go_wp2
  go_ret
  exact ⟨rfl, B1.out⟩

set_option maxHeartbeats 8000000 in
set_option maxRecDepth 100000 in
theorem put_may (base p m : Nat) (me : Rf) (L : Tb) (w : World) (h : LK w base p m me L) (x y : Int) (hm : okMe me) (hy : 0 ≤ y) (a0 a1 a2 a3 a4 b0 b1 b2 b3 b4 : Int) (oa oo : Int) (hr : me.2.1 = 2) (hM : may me (x, y) = false) : Calls Tryd.prog 37 #[(.pointer (some ⟨p, 0, none⟩)), .agg #[.int .i64 x, .int .u64 y], .agg #[.int .i64 a0, .int .i64 a1, .int .u64 a2, .int .i64 a3, .int .u64 a4], .agg #[.int .i64 b0, .int .i64 b1, .int .u64 b2, .int .i64 b3, .int .u64 b4], .agg #[.int .i64 oa, .int .i64 oo]] w fun e w' => e = .returned (.int .i64 80) ∧ Below w.heap.size w w' := by
  replace hM := hide hM
  obtain ⟨i, r, n, l, b⟩ := me
  simp only [] at hr
  have B0 : Below w.heap.size w ((((w.alloc (.cells #[.int .i64 x, .int .u64 y] 27)).alloc (.cells #[.int .i64 a0, .int .i64 a1, .int .u64 a2, .int .i64 a3, .int .u64 a4] 29)).alloc (.cells #[.int .i64 b0, .int .i64 b1, .int .u64 b2, .int .i64 b3, .int .u64 b4] 29)).alloc (.cells #[.int .i64 oa, .int .i64 oo] 52)) := (((((Below.refl w.heap.size w).alloc (Nat.le_refl _) (.cells #[.int .i64 x, .int .u64 y] 27)).alloc (by simp) (.cells #[.int .i64 a0, .int .i64 a1, .int .u64 a2, .int .i64 a3, .int .u64 a4] 29)).alloc (by simp; omega) (.cells #[.int .i64 b0, .int .i64 b1, .int .u64 b2, .int .i64 b3, .int .u64 b4] 29)).alloc (by simp; omega) (.cells #[.int .i64 oa, .int .i64 oo] 52))
  have IV0 := ((((IsB.new w #[.int .i64 x, .int .u64 y] 27).below ((Below.refl _ _).alloc (Nat.le_refl _) (.cells #[.int .i64 a0, .int .i64 a1, .int .u64 a2, .int .i64 a3, .int .u64 a4] 29))).below ((Below.refl _ _).alloc (Nat.le_refl _) (.cells #[.int .i64 b0, .int .i64 b1, .int .u64 b2, .int .i64 b3, .int .u64 b4] 29))).below ((Below.refl _ _).alloc (Nat.le_refl _) (.cells #[.int .i64 oa, .int .i64 oo] 52)))
  have IV := hide IV0
  clear IV0
  have IA0 := (((IsB.new (w.alloc (.cells #[.int .i64 x, .int .u64 y] 27)) #[.int .i64 a0, .int .i64 a1, .int .u64 a2, .int .i64 a3, .int .u64 a4] 29).below ((Below.refl _ _).alloc (Nat.le_refl _) (.cells #[.int .i64 b0, .int .i64 b1, .int .u64 b2, .int .i64 b3, .int .u64 b4] 29))).below ((Below.refl _ _).alloc (Nat.le_refl _) (.cells #[.int .i64 oa, .int .i64 oo] 52)))
  simp only [World.size_alloc] at IA0
  have IA := hide IA0
  clear IA0
  have IB0 := ((IsB.new ((w.alloc (.cells #[.int .i64 x, .int .u64 y] 27)).alloc (.cells #[.int .i64 a0, .int .i64 a1, .int .u64 a2, .int .i64 a3, .int .u64 a4] 29)) #[.int .i64 b0, .int .i64 b1, .int .u64 b2, .int .i64 b3, .int .u64 b4] 29).below ((Below.refl _ _).alloc (Nat.le_refl _) (.cells #[.int .i64 oa, .int .i64 oo] 52)))
  simp only [World.size_alloc] at IB0
  have IB := hide IB0
  clear IB0
  have IO0 := (IsB.new (((w.alloc (.cells #[.int .i64 x, .int .u64 y] 27)).alloc (.cells #[.int .i64 a0, .int .i64 a1, .int .u64 a2, .int .i64 a3, .int .u64 a4] 29)).alloc (.cells #[.int .i64 b0, .int .i64 b1, .int .u64 b2, .int .i64 b3, .int .u64 b4] 29)) #[.int .i64 oa, .int .i64 oo] 52)
  simp only [World.size_alloc] at IO0
  have IO := hide IO0
  clear IO0
  have B1 := hide B0
  have L1 := hide (h.below B0)
  clear B0 h
  go_enter Tryd.func37, Tryd.ntmps37
  go_wp2_with fail
  generalize ((((w.alloc (.cells #[.int .i64 x, .int .u64 y] 27)).alloc (.cells #[.int .i64 a0, .int .i64 a1, .int .u64 a2, .int .i64 a3, .int .u64 a4] 29)).alloc (.cells #[.int .i64 b0, .int .i64 b1, .int .u64 b2, .int .i64 b3, .int .u64 b4] 29)).alloc (.cells #[.int .i64 oa, .int .i64 oo] 52)) = W1 at IV IA IB IO B1 L1 ⊢
  generalize hH : w.heap.size = H at IV IA IB IO ⊢
  replace hH := hide hH
  refine (lmade_yes p m i r n l b _ L1.out.blk).mono ?_; intro e w2 hE1; obtain ⟨rfl, hw⟩ := hE1
  rw [hw]
  clear hw w2
  go_wp2_with fail
  refine (isEnd_any p m i r n l b _ L1.out.blk).mono ?_; intro e w2 hE1; obtain ⟨rfl, hw⟩ := hE1
  rw [hw]
  clear hw w2
  rw [decide_eq_false (by omega)]
  have qV0 := IV.out.cell 0
  have qV1 := IV.out.cell 1
  simp at qV0 qV1
  go_wp2_with fail
  refine (may_any p m i r n l b _ L1.out.blk x y hm hy).mono ?_; rintro e w2 ⟨rfl, hb2⟩
  rw [show mayA r l b x y = false from hM.out]
  clear qV0 qV1
  have B2 := hide (B1.out.trans (hb2.mono B1.out.size))
  clear hb2
  go_wp2
  go_ret
  exact ⟨rfl, B2.out⟩

set_option maxHeartbeats 8000000 in
set_option maxRecDepth 100000 in
theorem put_in (base p m : Nat) (me : Rf) (L : Tb) (w : World) (h : LK w base p m me L) (x y : Int) (hv : okV (x, y)) (hm : okMe me) (hy : 0 ≤ y) (a0 a1 a2 a3 a4 b0 b1 b2 b3 b4 : Int) (oa oo : Int) (hr : me.2.1 = 2) (hM : may me (x, y) = true) (c : Rc) (hc : ((x, y), c) ∈ L) : Calls Tryd.prog 37 #[(.pointer (some ⟨p, 0, none⟩)), .agg #[.int .i64 x, .int .u64 y], .agg #[.int .i64 a0, .int .i64 a1, .int .u64 a2, .int .i64 a3, .int .u64 a4], .agg #[.int .i64 b0, .int .i64 b1, .int .u64 b2, .int .i64 b3, .int .u64 b4], .agg #[.int .i64 oa, .int .i64 oo]] w fun e w' => e = .returned (.int .i64 81) ∧ Below w.heap.size w w' := by
  have mixed : Tryd.prog.follows .mixedOrders = true := by kernel_rfl
  replace hM := hide hM
  obtain ⟨rb, hrb⟩ : ∃ rb, c.rb = rb := ⟨_, rfl⟩
  have hmem : Hid (((x, y), rb) ∈ L.map pair) := by rw [← hrb]; exact mem_pair hc
  clear hrb hc
  obtain ⟨i, r, n, l, b⟩ := me
  simp only [] at hr
  have B0 : Below w.heap.size w ((((w.alloc (.cells #[.int .i64 x, .int .u64 y] 27)).alloc (.cells #[.int .i64 a0, .int .i64 a1, .int .u64 a2, .int .i64 a3, .int .u64 a4] 29)).alloc (.cells #[.int .i64 b0, .int .i64 b1, .int .u64 b2, .int .i64 b3, .int .u64 b4] 29)).alloc (.cells #[.int .i64 oa, .int .i64 oo] 52)) := (((((Below.refl w.heap.size w).alloc (Nat.le_refl _) (.cells #[.int .i64 x, .int .u64 y] 27)).alloc (by simp) (.cells #[.int .i64 a0, .int .i64 a1, .int .u64 a2, .int .i64 a3, .int .u64 a4] 29)).alloc (by simp; omega) (.cells #[.int .i64 b0, .int .i64 b1, .int .u64 b2, .int .i64 b3, .int .u64 b4] 29)).alloc (by simp; omega) (.cells #[.int .i64 oa, .int .i64 oo] 52))
  have IV0 := ((((IsB.new w #[.int .i64 x, .int .u64 y] 27).below ((Below.refl _ _).alloc (Nat.le_refl _) (.cells #[.int .i64 a0, .int .i64 a1, .int .u64 a2, .int .i64 a3, .int .u64 a4] 29))).below ((Below.refl _ _).alloc (Nat.le_refl _) (.cells #[.int .i64 b0, .int .i64 b1, .int .u64 b2, .int .i64 b3, .int .u64 b4] 29))).below ((Below.refl _ _).alloc (Nat.le_refl _) (.cells #[.int .i64 oa, .int .i64 oo] 52)))
  have IV := hide IV0
  clear IV0
  have IA0 := (((IsB.new (w.alloc (.cells #[.int .i64 x, .int .u64 y] 27)) #[.int .i64 a0, .int .i64 a1, .int .u64 a2, .int .i64 a3, .int .u64 a4] 29).below ((Below.refl _ _).alloc (Nat.le_refl _) (.cells #[.int .i64 b0, .int .i64 b1, .int .u64 b2, .int .i64 b3, .int .u64 b4] 29))).below ((Below.refl _ _).alloc (Nat.le_refl _) (.cells #[.int .i64 oa, .int .i64 oo] 52)))
  simp only [World.size_alloc] at IA0
  have IA := hide IA0
  clear IA0
  have IB0 := ((IsB.new ((w.alloc (.cells #[.int .i64 x, .int .u64 y] 27)).alloc (.cells #[.int .i64 a0, .int .i64 a1, .int .u64 a2, .int .i64 a3, .int .u64 a4] 29)) #[.int .i64 b0, .int .i64 b1, .int .u64 b2, .int .i64 b3, .int .u64 b4] 29).below ((Below.refl _ _).alloc (Nat.le_refl _) (.cells #[.int .i64 oa, .int .i64 oo] 52)))
  simp only [World.size_alloc] at IB0
  have IB := hide IB0
  clear IB0
  have IO0 := (IsB.new (((w.alloc (.cells #[.int .i64 x, .int .u64 y] 27)).alloc (.cells #[.int .i64 a0, .int .i64 a1, .int .u64 a2, .int .i64 a3, .int .u64 a4] 29)).alloc (.cells #[.int .i64 b0, .int .i64 b1, .int .u64 b2, .int .i64 b3, .int .u64 b4] 29)) #[.int .i64 oa, .int .i64 oo] 52)
  simp only [World.size_alloc] at IO0
  have IO := hide IO0
  clear IO0
  have B1 := hide B0
  have L1 := hide (h.below B0)
  clear B0 h
  go_enter Tryd.func37, Tryd.ntmps37
  go_wp2_with fail
  generalize ((((w.alloc (.cells #[.int .i64 x, .int .u64 y] 27)).alloc (.cells #[.int .i64 a0, .int .i64 a1, .int .u64 a2, .int .i64 a3, .int .u64 a4] 29)).alloc (.cells #[.int .i64 b0, .int .i64 b1, .int .u64 b2, .int .i64 b3, .int .u64 b4] 29)).alloc (.cells #[.int .i64 oa, .int .i64 oo] 52)) = W1 at IV IA IB IO B1 L1 ⊢
  generalize hH : w.heap.size = H at IV IA IB IO ⊢
  replace hH := hide hH
  refine (lmade_yes p m i r n l b _ L1.out.blk).mono ?_; intro e w2 hE1; obtain ⟨rfl, hw⟩ := hE1
  rw [hw]
  clear hw w2
  go_wp2_with fail
  refine (isEnd_any p m i r n l b _ L1.out.blk).mono ?_; intro e w2 hE1; obtain ⟨rfl, hw⟩ := hE1
  rw [hw]
  clear hw w2
  rw [decide_eq_false (by omega)]
  have qV0 := IV.out.cell 0
  have qV1 := IV.out.cell 1
  simp at qV0 qV1
  go_wp2_with fail
  refine (may_any p m i r n l b _ L1.out.blk x y hm hy).mono ?_; rintro e w2 ⟨rfl, hb2⟩
  rw [show mayA r l b x y = true from hM.out]
  clear qV0 qV1
  have IV := hide (IV.out.below hb2)
  have IA := hide (IA.out.below hb2)
  have IB := hide (IB.out.below hb2)
  have IO := hide (IO.out.below hb2)
  have B2 := hide (B1.out.trans (hb2.mono B1.out.size))
  have L1 := hide (L1.out.below hb2)
  clear hb2
  go_wp2
  refine regionL 8 (fun w' => w'.cell? ⟨p, 5, none⟩ = some (.map (some m)) ∧ w'.cell? ⟨H, 0, none⟩ = some (.int .i64 x) ∧ w'.cell? ⟨H, 1, none⟩ = some (.int .u64 y) ∧ VMp w' m (L.map pair)) mixed ⟨L1.out.blk.cell 5, IV.out.cell 0, IV.out.cell 1, L1.out.map⟩ (fun hHeld => ?_)
  refine pickA (v := ?_) 0 (some 28) rfl rfl (by kernel_rfl) (by kernel_rfl) (by kernel_rfl) (by decide) (fun _ _ _ h => h) (by rfl) ?_ (by assumption) ?_
  rotate_left
  · intro w'
    go_simp
    try with_reducible rfl
  try simp only [Act.put, List.setIfInBounds_toArray, List.set_cons_zero, List.set_cons_succ]
  refine pickA (v := ?_) 1 (some 29) rfl rfl (by kernel_rfl) (by kernel_rfl) (by kernel_rfl) (by decide) (fun _ _ _ h => h) (by rfl) ?_ (by assumption) ?_
  rotate_left
  · intro w'
    go_simp
    try with_reducible rfl
  try simp only [Act.put, List.setIfInBounds_toArray, List.set_cons_zero, List.set_cons_succ]
  refine pickA (v := ?_) 2 (some 30) rfl rfl (by kernel_rfl) (by kernel_rfl) (by kernel_rfl) (by decide) (fun _ _ _ h => h) (by rfl) ?_ (by assumption) ?_
  rotate_left
  · intro w'
    go_simp
    try with_reducible rfl
  try simp only [Act.put, List.setIfInBounds_toArray, List.set_cons_zero, List.set_cons_succ]
  refine pickL (v := ?_) 3 (some 31) rfl rfl (by kernel_rfl) (by kernel_rfl) (by kernel_rfl) (by decide) (by kernel_rfl) (by kernel_rfl) (fun _ _ _ h => h) (by rfl) ?_ (by assumption) ?_
  rotate_left
  · intro w' hSw
    obtain ⟨q0, q1, q2, q3⟩ := hSw; have hlk : (Instr.lookup 96 (.map (some m)) (.agg #[.int .i64 x, .int .u64 y]) false).run Tryd.prog w' = .ok (.pointer (some ⟨rb, 0, none⟩)) w' := q3.look_in (x, y) hv rb hmem.out
    go_simp
    try with_reducible rfl
  try simp only [Act.put, List.setIfInBounds_toArray, List.set_cons_zero, List.set_cons_succ]
  refine pickL (v := ?_) 4 (some 32) rfl rfl (by kernel_rfl) (by kernel_rfl) (by kernel_rfl) (by decide) (by kernel_rfl) (by kernel_rfl) (fun _ _ _ h => h) (by rfl) ?_ (by assumption) ?_
  rotate_left
  · intro w' hSw
    obtain ⟨q0, q1, q2, q3⟩ := hSw; have hlk : (Instr.lookup 96 (.map (some m)) (.agg #[.int .i64 x, .int .u64 y]) false).run Tryd.prog w' = .ok (.pointer (some ⟨rb, 0, none⟩)) w' := q3.look_in (x, y) hv rb hmem.out
    go_simp
    try with_reducible rfl
  try simp only [Act.put, List.setIfInBounds_toArray, List.set_cons_zero, List.set_cons_succ]
  refine pickL (v := ?_) 5 (some 33) rfl rfl (by kernel_rfl) (by kernel_rfl) (by kernel_rfl) (by decide) (by kernel_rfl) (by kernel_rfl) (fun _ _ _ h => h) (by rfl) ?_ (by assumption) ?_
  rotate_left
  · intro w' hSw
    obtain ⟨q0, q1, q2, q3⟩ := hSw; have hlk : (Instr.lookup 96 (.map (some m)) (.agg #[.int .i64 x, .int .u64 y]) false).run Tryd.prog w' = .ok (.pointer (some ⟨rb, 0, none⟩)) w' := q3.look_in (x, y) hv rb hmem.out
    go_simp
    try with_reducible rfl
  try simp only [Act.put, List.setIfInBounds_toArray, List.set_cons_zero, List.set_cons_succ]
  refine pickA (v := ?_) 6 (some 34) rfl rfl (by kernel_rfl) (by kernel_rfl) (by kernel_rfl) (by decide) (fun _ _ _ h => h) (by rfl) ?_ (by assumption) ?_
  rotate_left
  · intro w'
    go_simp
    try with_reducible rfl
  try simp only [Act.put, List.setIfInBounds_toArray, List.set_cons_zero, List.set_cons_succ]
  refine pickA (v := ?_) 7 (some 27) rfl rfl (by kernel_rfl) (by kernel_rfl) (by kernel_rfl) (by decide) (fun _ _ _ h => h) (by rfl) ?_ (by assumption) ?_
  rotate_left
  · intro w'
    go_simp
    try with_reducible rfl
  try simp only [Act.put, List.setIfInBounds_toArray, List.set_cons_zero, List.set_cons_succ]
  refine doneL (by kernel_rfl) ?_ _
  clear hHeld
  go_wp2
  go_ret
  exact ⟨rfl, B2.out.drew⟩

set_option maxHeartbeats 8000000 in
set_option maxRecDepth 100000 in
theorem put_left (base p m : Nat) (me : Rf) (L : Tb) (w : World) (h : LK w base p m me L) (x y : Int) (hv : okV (x, y)) (hm : okMe me) (hy : 0 ≤ y) (a0 a1 a2 a3 a4 b0 b1 b2 b3 b4 : Int) (oa oo : Int) (hR : Ranks w) (hr : me.2.1 = 2) (hM : may me (x, y) = true) (hn : ∀ e ∈ L, e.1 ≠ (x, y)) (hs : toL a1 a2 me.2.1 me.2.2.1 = false) : Calls Tryd.prog 37 #[(.pointer (some ⟨p, 0, none⟩)), .agg #[.int .i64 x, .int .u64 y], .agg #[.int .i64 a0, .int .i64 a1, .int .u64 a2, .int .i64 a3, .int .u64 a4], .agg #[.int .i64 b0, .int .i64 b1, .int .u64 b2, .int .i64 b3, .int .u64 b4], .agg #[.int .i64 oa, .int .i64 oo]] w fun e w' => e = .returned (.int .i64 83) ∧ Below w.heap.size w w' := by
  have mixed : Tryd.prog.follows .mixedOrders = true := by kernel_rfl
  replace hM := hide hM
  have hn := hide (no_pair hn)
  obtain ⟨i, r, n, l, b⟩ := me
  simp only [] at hr hs
  have B0 : Below w.heap.size w ((((w.alloc (.cells #[.int .i64 x, .int .u64 y] 27)).alloc (.cells #[.int .i64 a0, .int .i64 a1, .int .u64 a2, .int .i64 a3, .int .u64 a4] 29)).alloc (.cells #[.int .i64 b0, .int .i64 b1, .int .u64 b2, .int .i64 b3, .int .u64 b4] 29)).alloc (.cells #[.int .i64 oa, .int .i64 oo] 52)) := (((((Below.refl w.heap.size w).alloc (Nat.le_refl _) (.cells #[.int .i64 x, .int .u64 y] 27)).alloc (by simp) (.cells #[.int .i64 a0, .int .i64 a1, .int .u64 a2, .int .i64 a3, .int .u64 a4] 29)).alloc (by simp; omega) (.cells #[.int .i64 b0, .int .i64 b1, .int .u64 b2, .int .i64 b3, .int .u64 b4] 29)).alloc (by simp; omega) (.cells #[.int .i64 oa, .int .i64 oo] 52))
  have IV0 := ((((IsB.new w #[.int .i64 x, .int .u64 y] 27).below ((Below.refl _ _).alloc (Nat.le_refl _) (.cells #[.int .i64 a0, .int .i64 a1, .int .u64 a2, .int .i64 a3, .int .u64 a4] 29))).below ((Below.refl _ _).alloc (Nat.le_refl _) (.cells #[.int .i64 b0, .int .i64 b1, .int .u64 b2, .int .i64 b3, .int .u64 b4] 29))).below ((Below.refl _ _).alloc (Nat.le_refl _) (.cells #[.int .i64 oa, .int .i64 oo] 52)))
  have IV := hide IV0
  clear IV0
  have IA0 := (((IsB.new (w.alloc (.cells #[.int .i64 x, .int .u64 y] 27)) #[.int .i64 a0, .int .i64 a1, .int .u64 a2, .int .i64 a3, .int .u64 a4] 29).below ((Below.refl _ _).alloc (Nat.le_refl _) (.cells #[.int .i64 b0, .int .i64 b1, .int .u64 b2, .int .i64 b3, .int .u64 b4] 29))).below ((Below.refl _ _).alloc (Nat.le_refl _) (.cells #[.int .i64 oa, .int .i64 oo] 52)))
  simp only [World.size_alloc] at IA0
  have IA := hide IA0
  clear IA0
  have IB0 := ((IsB.new ((w.alloc (.cells #[.int .i64 x, .int .u64 y] 27)).alloc (.cells #[.int .i64 a0, .int .i64 a1, .int .u64 a2, .int .i64 a3, .int .u64 a4] 29)) #[.int .i64 b0, .int .i64 b1, .int .u64 b2, .int .i64 b3, .int .u64 b4] 29).below ((Below.refl _ _).alloc (Nat.le_refl _) (.cells #[.int .i64 oa, .int .i64 oo] 52)))
  simp only [World.size_alloc] at IB0
  have IB := hide IB0
  clear IB0
  have IO0 := (IsB.new (((w.alloc (.cells #[.int .i64 x, .int .u64 y] 27)).alloc (.cells #[.int .i64 a0, .int .i64 a1, .int .u64 a2, .int .i64 a3, .int .u64 a4] 29)).alloc (.cells #[.int .i64 b0, .int .i64 b1, .int .u64 b2, .int .i64 b3, .int .u64 b4] 29)) #[.int .i64 oa, .int .i64 oo] 52)
  simp only [World.size_alloc] at IO0
  have IO := hide IO0
  clear IO0
  have B1 := hide B0
  have L1 := hide (h.below B0)
  have HR := hide (hR.below B0)
  clear B0 h hR
  go_enter Tryd.func37, Tryd.ntmps37
  go_wp2_with fail
  generalize ((((w.alloc (.cells #[.int .i64 x, .int .u64 y] 27)).alloc (.cells #[.int .i64 a0, .int .i64 a1, .int .u64 a2, .int .i64 a3, .int .u64 a4] 29)).alloc (.cells #[.int .i64 b0, .int .i64 b1, .int .u64 b2, .int .i64 b3, .int .u64 b4] 29)).alloc (.cells #[.int .i64 oa, .int .i64 oo] 52)) = W1 at IV IA IB IO B1 L1 HR ⊢
  generalize hH : w.heap.size = H at IV IA IB IO ⊢
  replace hH := hide hH
  refine (lmade_yes p m i r n l b _ L1.out.blk).mono ?_; intro e w2 hE1; obtain ⟨rfl, hw⟩ := hE1
  rw [hw]
  clear hw w2
  go_wp2_with fail
  refine (isEnd_any p m i r n l b _ L1.out.blk).mono ?_; intro e w2 hE1; obtain ⟨rfl, hw⟩ := hE1
  rw [hw]
  clear hw w2
  rw [decide_eq_false (by omega)]
  have qV0 := IV.out.cell 0
  have qV1 := IV.out.cell 1
  simp at qV0 qV1
  go_wp2_with fail
  refine (may_any p m i r n l b _ L1.out.blk x y hm hy).mono ?_; rintro e w2 ⟨rfl, hb2⟩
  rw [show mayA r l b x y = true from hM.out]
  clear qV0 qV1
  have IV := hide (IV.out.below hb2)
  have IA := hide (IA.out.below hb2)
  have IB := hide (IB.out.below hb2)
  have IO := hide (IO.out.below hb2)
  have B2 := hide (B1.out.trans (hb2.mono B1.out.size))
  have L1 := hide (L1.out.below hb2)
  have HR := hide (HR.out.below hb2)
  clear hb2
  go_wp2
  refine regionL 8 (fun w' => w'.cell? ⟨p, 5, none⟩ = some (.map (some m)) ∧ w'.cell? ⟨H, 0, none⟩ = some (.int .i64 x) ∧ w'.cell? ⟨H, 1, none⟩ = some (.int .u64 y) ∧ VMp w' m (L.map pair)) mixed ⟨L1.out.blk.cell 5, IV.out.cell 0, IV.out.cell 1, L1.out.map⟩ (fun hHeld => ?_)
  refine pickA (v := ?_) 0 (some 28) rfl rfl (by kernel_rfl) (by kernel_rfl) (by kernel_rfl) (by decide) (fun _ _ _ h => h) (by rfl) ?_ (by assumption) ?_
  rotate_left
  · intro w'
    go_simp
    try with_reducible rfl
  try simp only [Act.put, List.setIfInBounds_toArray, List.set_cons_zero, List.set_cons_succ]
  refine pickA (v := ?_) 1 (some 29) rfl rfl (by kernel_rfl) (by kernel_rfl) (by kernel_rfl) (by decide) (fun _ _ _ h => h) (by rfl) ?_ (by assumption) ?_
  rotate_left
  · intro w'
    go_simp
    try with_reducible rfl
  try simp only [Act.put, List.setIfInBounds_toArray, List.set_cons_zero, List.set_cons_succ]
  refine pickA (v := ?_) 2 (some 30) rfl rfl (by kernel_rfl) (by kernel_rfl) (by kernel_rfl) (by decide) (fun _ _ _ h => h) (by rfl) ?_ (by assumption) ?_
  rotate_left
  · intro w'
    go_simp
    try with_reducible rfl
  try simp only [Act.put, List.setIfInBounds_toArray, List.set_cons_zero, List.set_cons_succ]
  refine pickL (v := ?_) 3 (some 31) rfl rfl (by kernel_rfl) (by kernel_rfl) (by kernel_rfl) (by decide) (by kernel_rfl) (by kernel_rfl) (fun _ _ _ h => h) (by rfl) ?_ (by assumption) ?_
  rotate_left
  · intro w' hSw
    obtain ⟨q0, q1, q2, q3⟩ := hSw; have hlk : (Instr.lookup 96 (.map (some m)) (.agg #[.int .i64 x, .int .u64 y]) false).run Tryd.prog w' = .ok (.pointer none) w' := q3.look_no (x, y) hv hn.out
    go_simp
    try with_reducible rfl
  try simp only [Act.put, List.setIfInBounds_toArray, List.set_cons_zero, List.set_cons_succ]
  refine pickL (v := ?_) 4 (some 32) rfl rfl (by kernel_rfl) (by kernel_rfl) (by kernel_rfl) (by decide) (by kernel_rfl) (by kernel_rfl) (fun _ _ _ h => h) (by rfl) ?_ (by assumption) ?_
  rotate_left
  · intro w' hSw
    obtain ⟨q0, q1, q2, q3⟩ := hSw; have hlk : (Instr.lookup 96 (.map (some m)) (.agg #[.int .i64 x, .int .u64 y]) false).run Tryd.prog w' = .ok (.pointer none) w' := q3.look_no (x, y) hv hn.out
    go_simp
    try with_reducible rfl
  try simp only [Act.put, List.setIfInBounds_toArray, List.set_cons_zero, List.set_cons_succ]
  refine pickL (v := ?_) 5 (some 33) rfl rfl (by kernel_rfl) (by kernel_rfl) (by kernel_rfl) (by decide) (by kernel_rfl) (by kernel_rfl) (fun _ _ _ h => h) (by rfl) ?_ (by assumption) ?_
  rotate_left
  · intro w' hSw
    obtain ⟨q0, q1, q2, q3⟩ := hSw; have hlk : (Instr.lookup 96 (.map (some m)) (.agg #[.int .i64 x, .int .u64 y]) false).run Tryd.prog w' = .ok (.pointer none) w' := q3.look_no (x, y) hv hn.out
    go_simp
    try with_reducible rfl
  try simp only [Act.put, List.setIfInBounds_toArray, List.set_cons_zero, List.set_cons_succ]
  refine pickA (v := ?_) 6 (some 34) rfl rfl (by kernel_rfl) (by kernel_rfl) (by kernel_rfl) (by decide) (fun _ _ _ h => h) (by rfl) ?_ (by assumption) ?_
  rotate_left
  · intro w'
    go_simp
    try with_reducible rfl
  try simp only [Act.put, List.setIfInBounds_toArray, List.set_cons_zero, List.set_cons_succ]
  refine pickA (v := ?_) 7 (some 27) rfl rfl (by kernel_rfl) (by kernel_rfl) (by kernel_rfl) (by decide) (fun _ _ _ h => h) (by rfl) ?_ (by assumption) ?_
  rotate_left
  · intro w'
    go_simp
    try with_reducible rfl
  try simp only [Act.put, List.setIfInBounds_toArray, List.set_cons_zero, List.set_cons_succ]
  refine doneL (by kernel_rfl) ?_ _
  clear hHeld
  have IV := hide (IV.out.below (Below.refl _ _).drew)
  have IA := hide (IA.out.below (Below.refl _ _).drew)
  have IB := hide (IB.out.below (Below.refl _ _).drew)
  have IO := hide (IO.out.below (Below.refl _ _).drew)
  have L1 := hide (L1.out.below (Below.refl _ _).drew)
  have HR := hide (HR.out.below (Below.refl _ _).drew)
  have B3 := hide B2.out.drew
  clear B2
  have qA0 := IA.out.cell 0
  have qA1 := IA.out.cell 1
  have qA2 := IA.out.cell 2
  have qA3 := IA.out.cell 3
  have qA4 := IA.out.cell 4
  simp at qA0 qA1 qA2 qA3 qA4
  go_wp2_with fail
  refine (toLeft_any p m i r n l b _ L1.out.blk a0 a1 a2 a3 a4 HR.out).mono ?_; rintro e w4 ⟨rfl, hb4⟩
  clear qA0 qA1 qA2 qA3 qA4
  rw [hs]
  have B4 := hide (B3.out.trans (hb4.mono B3.out.size))
  clear hb4
  go_wp2
  go_ret
  exact ⟨rfl, B4.out⟩

set_option maxHeartbeats 8000000 in
set_option maxRecDepth 100000 in
theorem put_right (base p m : Nat) (me : Rf) (L : Tb) (w : World) (h : LK w base p m me L) (x y : Int) (hv : okV (x, y)) (hm : okMe me) (hy : 0 ≤ y) (a0 a1 a2 a3 a4 b0 b1 b2 b3 b4 : Int) (oa oo : Int) (hR : Ranks w) (hr : me.2.1 = 2) (hM : may me (x, y) = true) (hn : ∀ e ∈ L, e.1 ≠ (x, y)) (hs : toL a1 a2 me.2.1 me.2.2.1 = true) (ht : toR b1 b2 me.2.1 me.2.2.1 = false) : Calls Tryd.prog 37 #[(.pointer (some ⟨p, 0, none⟩)), .agg #[.int .i64 x, .int .u64 y], .agg #[.int .i64 a0, .int .i64 a1, .int .u64 a2, .int .i64 a3, .int .u64 a4], .agg #[.int .i64 b0, .int .i64 b1, .int .u64 b2, .int .i64 b3, .int .u64 b4], .agg #[.int .i64 oa, .int .i64 oo]] w fun e w' => e = .returned (.int .i64 83) ∧ Below w.heap.size w w' := by
  have mixed : Tryd.prog.follows .mixedOrders = true := by kernel_rfl
  replace hM := hide hM
  have hn := hide (no_pair hn)
  obtain ⟨i, r, n, l, b⟩ := me
  simp only [] at hr hs ht
  have B0 : Below w.heap.size w ((((w.alloc (.cells #[.int .i64 x, .int .u64 y] 27)).alloc (.cells #[.int .i64 a0, .int .i64 a1, .int .u64 a2, .int .i64 a3, .int .u64 a4] 29)).alloc (.cells #[.int .i64 b0, .int .i64 b1, .int .u64 b2, .int .i64 b3, .int .u64 b4] 29)).alloc (.cells #[.int .i64 oa, .int .i64 oo] 52)) := (((((Below.refl w.heap.size w).alloc (Nat.le_refl _) (.cells #[.int .i64 x, .int .u64 y] 27)).alloc (by simp) (.cells #[.int .i64 a0, .int .i64 a1, .int .u64 a2, .int .i64 a3, .int .u64 a4] 29)).alloc (by simp; omega) (.cells #[.int .i64 b0, .int .i64 b1, .int .u64 b2, .int .i64 b3, .int .u64 b4] 29)).alloc (by simp; omega) (.cells #[.int .i64 oa, .int .i64 oo] 52))
  have IV0 := ((((IsB.new w #[.int .i64 x, .int .u64 y] 27).below ((Below.refl _ _).alloc (Nat.le_refl _) (.cells #[.int .i64 a0, .int .i64 a1, .int .u64 a2, .int .i64 a3, .int .u64 a4] 29))).below ((Below.refl _ _).alloc (Nat.le_refl _) (.cells #[.int .i64 b0, .int .i64 b1, .int .u64 b2, .int .i64 b3, .int .u64 b4] 29))).below ((Below.refl _ _).alloc (Nat.le_refl _) (.cells #[.int .i64 oa, .int .i64 oo] 52)))
  have IV := hide IV0
  clear IV0
  have IA0 := (((IsB.new (w.alloc (.cells #[.int .i64 x, .int .u64 y] 27)) #[.int .i64 a0, .int .i64 a1, .int .u64 a2, .int .i64 a3, .int .u64 a4] 29).below ((Below.refl _ _).alloc (Nat.le_refl _) (.cells #[.int .i64 b0, .int .i64 b1, .int .u64 b2, .int .i64 b3, .int .u64 b4] 29))).below ((Below.refl _ _).alloc (Nat.le_refl _) (.cells #[.int .i64 oa, .int .i64 oo] 52)))
  simp only [World.size_alloc] at IA0
  have IA := hide IA0
  clear IA0
  have IB0 := ((IsB.new ((w.alloc (.cells #[.int .i64 x, .int .u64 y] 27)).alloc (.cells #[.int .i64 a0, .int .i64 a1, .int .u64 a2, .int .i64 a3, .int .u64 a4] 29)) #[.int .i64 b0, .int .i64 b1, .int .u64 b2, .int .i64 b3, .int .u64 b4] 29).below ((Below.refl _ _).alloc (Nat.le_refl _) (.cells #[.int .i64 oa, .int .i64 oo] 52)))
  simp only [World.size_alloc] at IB0
  have IB := hide IB0
  clear IB0
  have IO0 := (IsB.new (((w.alloc (.cells #[.int .i64 x, .int .u64 y] 27)).alloc (.cells #[.int .i64 a0, .int .i64 a1, .int .u64 a2, .int .i64 a3, .int .u64 a4] 29)).alloc (.cells #[.int .i64 b0, .int .i64 b1, .int .u64 b2, .int .i64 b3, .int .u64 b4] 29)) #[.int .i64 oa, .int .i64 oo] 52)
  simp only [World.size_alloc] at IO0
  have IO := hide IO0
  clear IO0
  have B1 := hide B0
  have L1 := hide (h.below B0)
  have HR := hide (hR.below B0)
  clear B0 h hR
  go_enter Tryd.func37, Tryd.ntmps37
  go_wp2_with fail
  generalize ((((w.alloc (.cells #[.int .i64 x, .int .u64 y] 27)).alloc (.cells #[.int .i64 a0, .int .i64 a1, .int .u64 a2, .int .i64 a3, .int .u64 a4] 29)).alloc (.cells #[.int .i64 b0, .int .i64 b1, .int .u64 b2, .int .i64 b3, .int .u64 b4] 29)).alloc (.cells #[.int .i64 oa, .int .i64 oo] 52)) = W1 at IV IA IB IO B1 L1 HR ⊢
  generalize hH : w.heap.size = H at IV IA IB IO ⊢
  replace hH := hide hH
  refine (lmade_yes p m i r n l b _ L1.out.blk).mono ?_; intro e w2 hE1; obtain ⟨rfl, hw⟩ := hE1
  rw [hw]
  clear hw w2
  go_wp2_with fail
  refine (isEnd_any p m i r n l b _ L1.out.blk).mono ?_; intro e w2 hE1; obtain ⟨rfl, hw⟩ := hE1
  rw [hw]
  clear hw w2
  rw [decide_eq_false (by omega)]
  have qV0 := IV.out.cell 0
  have qV1 := IV.out.cell 1
  simp at qV0 qV1
  go_wp2_with fail
  refine (may_any p m i r n l b _ L1.out.blk x y hm hy).mono ?_; rintro e w2 ⟨rfl, hb2⟩
  rw [show mayA r l b x y = true from hM.out]
  clear qV0 qV1
  have IV := hide (IV.out.below hb2)
  have IA := hide (IA.out.below hb2)
  have IB := hide (IB.out.below hb2)
  have IO := hide (IO.out.below hb2)
  have B2 := hide (B1.out.trans (hb2.mono B1.out.size))
  have L1 := hide (L1.out.below hb2)
  have HR := hide (HR.out.below hb2)
  clear hb2
  go_wp2
  refine regionL 8 (fun w' => w'.cell? ⟨p, 5, none⟩ = some (.map (some m)) ∧ w'.cell? ⟨H, 0, none⟩ = some (.int .i64 x) ∧ w'.cell? ⟨H, 1, none⟩ = some (.int .u64 y) ∧ VMp w' m (L.map pair)) mixed ⟨L1.out.blk.cell 5, IV.out.cell 0, IV.out.cell 1, L1.out.map⟩ (fun hHeld => ?_)
  refine pickA (v := ?_) 0 (some 28) rfl rfl (by kernel_rfl) (by kernel_rfl) (by kernel_rfl) (by decide) (fun _ _ _ h => h) (by rfl) ?_ (by assumption) ?_
  rotate_left
  · intro w'
    go_simp
    try with_reducible rfl
  try simp only [Act.put, List.setIfInBounds_toArray, List.set_cons_zero, List.set_cons_succ]
  refine pickA (v := ?_) 1 (some 29) rfl rfl (by kernel_rfl) (by kernel_rfl) (by kernel_rfl) (by decide) (fun _ _ _ h => h) (by rfl) ?_ (by assumption) ?_
  rotate_left
  · intro w'
    go_simp
    try with_reducible rfl
  try simp only [Act.put, List.setIfInBounds_toArray, List.set_cons_zero, List.set_cons_succ]
  refine pickA (v := ?_) 2 (some 30) rfl rfl (by kernel_rfl) (by kernel_rfl) (by kernel_rfl) (by decide) (fun _ _ _ h => h) (by rfl) ?_ (by assumption) ?_
  rotate_left
  · intro w'
    go_simp
    try with_reducible rfl
  try simp only [Act.put, List.setIfInBounds_toArray, List.set_cons_zero, List.set_cons_succ]
  refine pickL (v := ?_) 3 (some 31) rfl rfl (by kernel_rfl) (by kernel_rfl) (by kernel_rfl) (by decide) (by kernel_rfl) (by kernel_rfl) (fun _ _ _ h => h) (by rfl) ?_ (by assumption) ?_
  rotate_left
  · intro w' hSw
    obtain ⟨q0, q1, q2, q3⟩ := hSw; have hlk : (Instr.lookup 96 (.map (some m)) (.agg #[.int .i64 x, .int .u64 y]) false).run Tryd.prog w' = .ok (.pointer none) w' := q3.look_no (x, y) hv hn.out
    go_simp
    try with_reducible rfl
  try simp only [Act.put, List.setIfInBounds_toArray, List.set_cons_zero, List.set_cons_succ]
  refine pickL (v := ?_) 4 (some 32) rfl rfl (by kernel_rfl) (by kernel_rfl) (by kernel_rfl) (by decide) (by kernel_rfl) (by kernel_rfl) (fun _ _ _ h => h) (by rfl) ?_ (by assumption) ?_
  rotate_left
  · intro w' hSw
    obtain ⟨q0, q1, q2, q3⟩ := hSw; have hlk : (Instr.lookup 96 (.map (some m)) (.agg #[.int .i64 x, .int .u64 y]) false).run Tryd.prog w' = .ok (.pointer none) w' := q3.look_no (x, y) hv hn.out
    go_simp
    try with_reducible rfl
  try simp only [Act.put, List.setIfInBounds_toArray, List.set_cons_zero, List.set_cons_succ]
  refine pickL (v := ?_) 5 (some 33) rfl rfl (by kernel_rfl) (by kernel_rfl) (by kernel_rfl) (by decide) (by kernel_rfl) (by kernel_rfl) (fun _ _ _ h => h) (by rfl) ?_ (by assumption) ?_
  rotate_left
  · intro w' hSw
    obtain ⟨q0, q1, q2, q3⟩ := hSw; have hlk : (Instr.lookup 96 (.map (some m)) (.agg #[.int .i64 x, .int .u64 y]) false).run Tryd.prog w' = .ok (.pointer none) w' := q3.look_no (x, y) hv hn.out
    go_simp
    try with_reducible rfl
  try simp only [Act.put, List.setIfInBounds_toArray, List.set_cons_zero, List.set_cons_succ]
  refine pickA (v := ?_) 6 (some 34) rfl rfl (by kernel_rfl) (by kernel_rfl) (by kernel_rfl) (by decide) (fun _ _ _ h => h) (by rfl) ?_ (by assumption) ?_
  rotate_left
  · intro w'
    go_simp
    try with_reducible rfl
  try simp only [Act.put, List.setIfInBounds_toArray, List.set_cons_zero, List.set_cons_succ]
  refine pickA (v := ?_) 7 (some 27) rfl rfl (by kernel_rfl) (by kernel_rfl) (by kernel_rfl) (by decide) (fun _ _ _ h => h) (by rfl) ?_ (by assumption) ?_
  rotate_left
  · intro w'
    go_simp
    try with_reducible rfl
  try simp only [Act.put, List.setIfInBounds_toArray, List.set_cons_zero, List.set_cons_succ]
  refine doneL (by kernel_rfl) ?_ _
  clear hHeld
  have IV := hide (IV.out.below (Below.refl _ _).drew)
  have IA := hide (IA.out.below (Below.refl _ _).drew)
  have IB := hide (IB.out.below (Below.refl _ _).drew)
  have IO := hide (IO.out.below (Below.refl _ _).drew)
  have L1 := hide (L1.out.below (Below.refl _ _).drew)
  have HR := hide (HR.out.below (Below.refl _ _).drew)
  have B3 := hide B2.out.drew
  clear B2
  have qA0 := IA.out.cell 0
  have qA1 := IA.out.cell 1
  have qA2 := IA.out.cell 2
  have qA3 := IA.out.cell 3
  have qA4 := IA.out.cell 4
  simp at qA0 qA1 qA2 qA3 qA4
  go_wp2_with fail
  refine (toLeft_any p m i r n l b _ L1.out.blk a0 a1 a2 a3 a4 HR.out).mono ?_; rintro e w4 ⟨rfl, hb4⟩
  clear qA0 qA1 qA2 qA3 qA4
  rw [hs]
  have IV := hide (IV.out.below hb4)
  have IA := hide (IA.out.below hb4)
  have IB := hide (IB.out.below hb4)
  have IO := hide (IO.out.below hb4)
  have B4 := hide (B3.out.trans (hb4.mono B3.out.size))
  have L1 := hide (L1.out.below hb4)
  have HR := hide (HR.out.below hb4)
  clear hb4
  have qB0 := IB.out.cell 0
  have qB1 := IB.out.cell 1
  have qB2 := IB.out.cell 2
  have qB3 := IB.out.cell 3
  have qB4 := IB.out.cell 4
  simp at qB0 qB1 qB2 qB3 qB4
  go_wp2_with fail
  refine (toRight_any p m i r n l b _ L1.out.blk b0 b1 b2 b3 b4 HR.out).mono ?_; rintro e w5 ⟨rfl, hb5⟩
  clear qB0 qB1 qB2 qB3 qB4
  rw [ht]
  have B5 := hide (B4.out.trans (hb5.mono B4.out.size))
  clear hb5
  go_wp2
  go_ret
  exact ⟨rfl, B5.out⟩

set_option maxHeartbeats 8000000 in
set_option maxRecDepth 100000 in
theorem put_owner (base p m : Nat) (me : Rf) (L : Tb) (w : World) (h : LK w base p m me L) (x y : Int) (hv : okV (x, y)) (hm : okMe me) (hy : 0 ≤ y) (a0 a1 a2 a3 a4 b0 b1 b2 b3 b4 : Int) (oa oo : Int) (hR : Ranks w) (hr : me.2.1 = 2) (hM : may me (x, y) = true) (hn : ∀ e ∈ L, e.1 ≠ (x, y)) (hs : toL a1 a2 me.2.1 me.2.2.1 = true) (ht : toR b1 b2 me.2.1 me.2.2.1 = true) (hok : okO oa oo = false) : Calls Tryd.prog 37 #[(.pointer (some ⟨p, 0, none⟩)), .agg #[.int .i64 x, .int .u64 y], .agg #[.int .i64 a0, .int .i64 a1, .int .u64 a2, .int .i64 a3, .int .u64 a4], .agg #[.int .i64 b0, .int .i64 b1, .int .u64 b2, .int .i64 b3, .int .u64 b4], .agg #[.int .i64 oa, .int .i64 oo]] w fun e w' => e = .returned (.int .i64 70) ∧ Below w.heap.size w w' := by
  have mixed : Tryd.prog.follows .mixedOrders = true := by kernel_rfl
  replace hM := hide hM
  have hn := hide (no_pair hn)
  obtain ⟨i, r, n, l, b⟩ := me
  simp only [] at hr hs ht
  have B0 : Below w.heap.size w ((((w.alloc (.cells #[.int .i64 x, .int .u64 y] 27)).alloc (.cells #[.int .i64 a0, .int .i64 a1, .int .u64 a2, .int .i64 a3, .int .u64 a4] 29)).alloc (.cells #[.int .i64 b0, .int .i64 b1, .int .u64 b2, .int .i64 b3, .int .u64 b4] 29)).alloc (.cells #[.int .i64 oa, .int .i64 oo] 52)) := (((((Below.refl w.heap.size w).alloc (Nat.le_refl _) (.cells #[.int .i64 x, .int .u64 y] 27)).alloc (by simp) (.cells #[.int .i64 a0, .int .i64 a1, .int .u64 a2, .int .i64 a3, .int .u64 a4] 29)).alloc (by simp; omega) (.cells #[.int .i64 b0, .int .i64 b1, .int .u64 b2, .int .i64 b3, .int .u64 b4] 29)).alloc (by simp; omega) (.cells #[.int .i64 oa, .int .i64 oo] 52))
  have IV0 := ((((IsB.new w #[.int .i64 x, .int .u64 y] 27).below ((Below.refl _ _).alloc (Nat.le_refl _) (.cells #[.int .i64 a0, .int .i64 a1, .int .u64 a2, .int .i64 a3, .int .u64 a4] 29))).below ((Below.refl _ _).alloc (Nat.le_refl _) (.cells #[.int .i64 b0, .int .i64 b1, .int .u64 b2, .int .i64 b3, .int .u64 b4] 29))).below ((Below.refl _ _).alloc (Nat.le_refl _) (.cells #[.int .i64 oa, .int .i64 oo] 52)))
  have IV := hide IV0
  clear IV0
  have IA0 := (((IsB.new (w.alloc (.cells #[.int .i64 x, .int .u64 y] 27)) #[.int .i64 a0, .int .i64 a1, .int .u64 a2, .int .i64 a3, .int .u64 a4] 29).below ((Below.refl _ _).alloc (Nat.le_refl _) (.cells #[.int .i64 b0, .int .i64 b1, .int .u64 b2, .int .i64 b3, .int .u64 b4] 29))).below ((Below.refl _ _).alloc (Nat.le_refl _) (.cells #[.int .i64 oa, .int .i64 oo] 52)))
  simp only [World.size_alloc] at IA0
  have IA := hide IA0
  clear IA0
  have IB0 := ((IsB.new ((w.alloc (.cells #[.int .i64 x, .int .u64 y] 27)).alloc (.cells #[.int .i64 a0, .int .i64 a1, .int .u64 a2, .int .i64 a3, .int .u64 a4] 29)) #[.int .i64 b0, .int .i64 b1, .int .u64 b2, .int .i64 b3, .int .u64 b4] 29).below ((Below.refl _ _).alloc (Nat.le_refl _) (.cells #[.int .i64 oa, .int .i64 oo] 52)))
  simp only [World.size_alloc] at IB0
  have IB := hide IB0
  clear IB0
  have IO0 := (IsB.new (((w.alloc (.cells #[.int .i64 x, .int .u64 y] 27)).alloc (.cells #[.int .i64 a0, .int .i64 a1, .int .u64 a2, .int .i64 a3, .int .u64 a4] 29)).alloc (.cells #[.int .i64 b0, .int .i64 b1, .int .u64 b2, .int .i64 b3, .int .u64 b4] 29)) #[.int .i64 oa, .int .i64 oo] 52)
  simp only [World.size_alloc] at IO0
  have IO := hide IO0
  clear IO0
  have B1 := hide B0
  have L1 := hide (h.below B0)
  have HR := hide (hR.below B0)
  clear B0 h hR
  go_enter Tryd.func37, Tryd.ntmps37
  go_wp2_with fail
  generalize ((((w.alloc (.cells #[.int .i64 x, .int .u64 y] 27)).alloc (.cells #[.int .i64 a0, .int .i64 a1, .int .u64 a2, .int .i64 a3, .int .u64 a4] 29)).alloc (.cells #[.int .i64 b0, .int .i64 b1, .int .u64 b2, .int .i64 b3, .int .u64 b4] 29)).alloc (.cells #[.int .i64 oa, .int .i64 oo] 52)) = W1 at IV IA IB IO B1 L1 HR ⊢
  generalize hH : w.heap.size = H at IV IA IB IO ⊢
  replace hH := hide hH
  refine (lmade_yes p m i r n l b _ L1.out.blk).mono ?_; intro e w2 hE1; obtain ⟨rfl, hw⟩ := hE1
  rw [hw]
  clear hw w2
  go_wp2_with fail
  refine (isEnd_any p m i r n l b _ L1.out.blk).mono ?_; intro e w2 hE1; obtain ⟨rfl, hw⟩ := hE1
  rw [hw]
  clear hw w2
  rw [decide_eq_false (by omega)]
  have qV0 := IV.out.cell 0
  have qV1 := IV.out.cell 1
  simp at qV0 qV1
  go_wp2_with fail
  refine (may_any p m i r n l b _ L1.out.blk x y hm hy).mono ?_; rintro e w2 ⟨rfl, hb2⟩
  rw [show mayA r l b x y = true from hM.out]
  clear qV0 qV1
  have IV := hide (IV.out.below hb2)
  have IA := hide (IA.out.below hb2)
  have IB := hide (IB.out.below hb2)
  have IO := hide (IO.out.below hb2)
  have B2 := hide (B1.out.trans (hb2.mono B1.out.size))
  have L1 := hide (L1.out.below hb2)
  have HR := hide (HR.out.below hb2)
  clear hb2
  go_wp2
  refine regionL 8 (fun w' => w'.cell? ⟨p, 5, none⟩ = some (.map (some m)) ∧ w'.cell? ⟨H, 0, none⟩ = some (.int .i64 x) ∧ w'.cell? ⟨H, 1, none⟩ = some (.int .u64 y) ∧ VMp w' m (L.map pair)) mixed ⟨L1.out.blk.cell 5, IV.out.cell 0, IV.out.cell 1, L1.out.map⟩ (fun hHeld => ?_)
  refine pickA (v := ?_) 0 (some 28) rfl rfl (by kernel_rfl) (by kernel_rfl) (by kernel_rfl) (by decide) (fun _ _ _ h => h) (by rfl) ?_ (by assumption) ?_
  rotate_left
  · intro w'
    go_simp
    try with_reducible rfl
  try simp only [Act.put, List.setIfInBounds_toArray, List.set_cons_zero, List.set_cons_succ]
  refine pickA (v := ?_) 1 (some 29) rfl rfl (by kernel_rfl) (by kernel_rfl) (by kernel_rfl) (by decide) (fun _ _ _ h => h) (by rfl) ?_ (by assumption) ?_
  rotate_left
  · intro w'
    go_simp
    try with_reducible rfl
  try simp only [Act.put, List.setIfInBounds_toArray, List.set_cons_zero, List.set_cons_succ]
  refine pickA (v := ?_) 2 (some 30) rfl rfl (by kernel_rfl) (by kernel_rfl) (by kernel_rfl) (by decide) (fun _ _ _ h => h) (by rfl) ?_ (by assumption) ?_
  rotate_left
  · intro w'
    go_simp
    try with_reducible rfl
  try simp only [Act.put, List.setIfInBounds_toArray, List.set_cons_zero, List.set_cons_succ]
  refine pickL (v := ?_) 3 (some 31) rfl rfl (by kernel_rfl) (by kernel_rfl) (by kernel_rfl) (by decide) (by kernel_rfl) (by kernel_rfl) (fun _ _ _ h => h) (by rfl) ?_ (by assumption) ?_
  rotate_left
  · intro w' hSw
    obtain ⟨q0, q1, q2, q3⟩ := hSw; have hlk : (Instr.lookup 96 (.map (some m)) (.agg #[.int .i64 x, .int .u64 y]) false).run Tryd.prog w' = .ok (.pointer none) w' := q3.look_no (x, y) hv hn.out
    go_simp
    try with_reducible rfl
  try simp only [Act.put, List.setIfInBounds_toArray, List.set_cons_zero, List.set_cons_succ]
  refine pickL (v := ?_) 4 (some 32) rfl rfl (by kernel_rfl) (by kernel_rfl) (by kernel_rfl) (by decide) (by kernel_rfl) (by kernel_rfl) (fun _ _ _ h => h) (by rfl) ?_ (by assumption) ?_
  rotate_left
  · intro w' hSw
    obtain ⟨q0, q1, q2, q3⟩ := hSw; have hlk : (Instr.lookup 96 (.map (some m)) (.agg #[.int .i64 x, .int .u64 y]) false).run Tryd.prog w' = .ok (.pointer none) w' := q3.look_no (x, y) hv hn.out
    go_simp
    try with_reducible rfl
  try simp only [Act.put, List.setIfInBounds_toArray, List.set_cons_zero, List.set_cons_succ]
  refine pickL (v := ?_) 5 (some 33) rfl rfl (by kernel_rfl) (by kernel_rfl) (by kernel_rfl) (by decide) (by kernel_rfl) (by kernel_rfl) (fun _ _ _ h => h) (by rfl) ?_ (by assumption) ?_
  rotate_left
  · intro w' hSw
    obtain ⟨q0, q1, q2, q3⟩ := hSw; have hlk : (Instr.lookup 96 (.map (some m)) (.agg #[.int .i64 x, .int .u64 y]) false).run Tryd.prog w' = .ok (.pointer none) w' := q3.look_no (x, y) hv hn.out
    go_simp
    try with_reducible rfl
  try simp only [Act.put, List.setIfInBounds_toArray, List.set_cons_zero, List.set_cons_succ]
  refine pickA (v := ?_) 6 (some 34) rfl rfl (by kernel_rfl) (by kernel_rfl) (by kernel_rfl) (by decide) (fun _ _ _ h => h) (by rfl) ?_ (by assumption) ?_
  rotate_left
  · intro w'
    go_simp
    try with_reducible rfl
  try simp only [Act.put, List.setIfInBounds_toArray, List.set_cons_zero, List.set_cons_succ]
  refine pickA (v := ?_) 7 (some 27) rfl rfl (by kernel_rfl) (by kernel_rfl) (by kernel_rfl) (by decide) (fun _ _ _ h => h) (by rfl) ?_ (by assumption) ?_
  rotate_left
  · intro w'
    go_simp
    try with_reducible rfl
  try simp only [Act.put, List.setIfInBounds_toArray, List.set_cons_zero, List.set_cons_succ]
  refine doneL (by kernel_rfl) ?_ _
  clear hHeld
  have IV := hide (IV.out.below (Below.refl _ _).drew)
  have IA := hide (IA.out.below (Below.refl _ _).drew)
  have IB := hide (IB.out.below (Below.refl _ _).drew)
  have IO := hide (IO.out.below (Below.refl _ _).drew)
  have L1 := hide (L1.out.below (Below.refl _ _).drew)
  have HR := hide (HR.out.below (Below.refl _ _).drew)
  have B3 := hide B2.out.drew
  clear B2
  have qA0 := IA.out.cell 0
  have qA1 := IA.out.cell 1
  have qA2 := IA.out.cell 2
  have qA3 := IA.out.cell 3
  have qA4 := IA.out.cell 4
  simp at qA0 qA1 qA2 qA3 qA4
  go_wp2_with fail
  refine (toLeft_any p m i r n l b _ L1.out.blk a0 a1 a2 a3 a4 HR.out).mono ?_; rintro e w4 ⟨rfl, hb4⟩
  clear qA0 qA1 qA2 qA3 qA4
  rw [hs]
  have IV := hide (IV.out.below hb4)
  have IA := hide (IA.out.below hb4)
  have IB := hide (IB.out.below hb4)
  have IO := hide (IO.out.below hb4)
  have B4 := hide (B3.out.trans (hb4.mono B3.out.size))
  have L1 := hide (L1.out.below hb4)
  have HR := hide (HR.out.below hb4)
  clear hb4
  have qB0 := IB.out.cell 0
  have qB1 := IB.out.cell 1
  have qB2 := IB.out.cell 2
  have qB3 := IB.out.cell 3
  have qB4 := IB.out.cell 4
  simp at qB0 qB1 qB2 qB3 qB4
  go_wp2_with fail
  refine (toRight_any p m i r n l b _ L1.out.blk b0 b1 b2 b3 b4 HR.out).mono ?_; rintro e w5 ⟨rfl, hb5⟩
  clear qB0 qB1 qB2 qB3 qB4
  rw [ht]
  have IV := hide (IV.out.below hb5)
  have IA := hide (IA.out.below hb5)
  have IB := hide (IB.out.below hb5)
  have IO := hide (IO.out.below hb5)
  have B5 := hide (B4.out.trans (hb5.mono B4.out.size))
  have L1 := hide (L1.out.below hb5)
  have HR := hide (HR.out.below hb5)
  clear hb5
  have qA0 := IA.out.cell 0
  have qA1 := IA.out.cell 1
  have qA2 := IA.out.cell 2
  have qA3 := IA.out.cell 3
  have qA4 := IA.out.cell 4
  have qB0 := IB.out.cell 0
  have qB1 := IB.out.cell 1
  have qB2 := IB.out.cell 2
  have qB3 := IB.out.cell 3
  have qB4 := IB.out.cell 4
  simp at qA0 qA1 qA2 qA3 qA4 qB0 qB1 qB2 qB3 qB4
  go_wp2_with fail
  refine (newRecord_any a0 a1 a2 a3 a4 b0 b1 b2 b3 b4 _).mono ?_; rintro e w6 ⟨rb, lb, rfl, g1, g2, g3, hb6⟩
  have hs5 : Hid (w.heap.size ≤ rb ∧ w.heap.size ≤ lb) := ⟨Nat.le_trans B5.out.size g1, Nat.le_trans B5.out.size g2⟩
  have R2 := hide g3
  clear g1 g2 g3
  clear qA0 qA1 qA2 qA3 qA4 qB0 qB1 qB2 qB3 qB4
  have hb7 := hb6.drew
  have IV := hide (IV.out.below hb7)
  have IA := hide (IA.out.below hb7)
  have IB := hide (IB.out.below hb7)
  have IO := hide (IO.out.below hb7)
  have L1 := hide (L1.out.below hb7)
  have R2 := hide (R2.out.below (Below.refl _ _).drew)
  have B7 := hide (B5.out.trans (hb7.mono B5.out.size))
  clear hb6 hb7
  go_wp2
  refine regionL 11 (fun w' => w'.cell? ⟨rb, 0, none⟩ = some (.pointer (some ⟨lb, 0, none⟩)) ∧ w'.cell? ⟨H + 1 + 1 + 1, 0, none⟩ = some (.int .i64 oa) ∧ w'.cell? ⟨H + 1 + 1 + 1, 1, none⟩ = some (.int .i64 oo)) mixed ⟨R2.out.blk.cell 0, IO.out.cell 0, IO.out.cell 1⟩ (fun hHeld => ?_)
  refine pickA (v := ?_) 0 (some 50) rfl rfl (by kernel_rfl) (by kernel_rfl) (by kernel_rfl) (by decide) (fun _ _ _ h => h) (by rfl) ?_ (by assumption) ?_
  rotate_left
  · intro w'
    go_simp
    try with_reducible rfl
  try simp only [Act.put, List.setIfInBounds_toArray, List.set_cons_zero, List.set_cons_succ]
  refine pickA (v := ?_) 1 (some 51) rfl rfl (by kernel_rfl) (by kernel_rfl) (by kernel_rfl) (by decide) (fun _ _ _ h => h) (by rfl) ?_ (by assumption) ?_
  rotate_left
  · intro w'
    go_simp
    try with_reducible rfl
  try simp only [Act.put, List.setIfInBounds_toArray, List.set_cons_zero, List.set_cons_succ]
  refine pickA (v := ?_) 2 (some 52) rfl rfl (by kernel_rfl) (by kernel_rfl) (by kernel_rfl) (by decide) (fun _ _ _ h => h) (by rfl) ?_ (by assumption) ?_
  rotate_left
  · intro w'
    go_simp
    try with_reducible rfl
  try simp only [Act.put, List.setIfInBounds_toArray, List.set_cons_zero, List.set_cons_succ]
  refine pickL (v := ?_) 3 (some 53) rfl rfl (by kernel_rfl) (by kernel_rfl) (by kernel_rfl) (by decide) (by kernel_rfl) (by kernel_rfl) (fun _ _ _ h => h) (by rfl) ?_ (by assumption) ?_
  rotate_left
  · intro w' hSw
    obtain ⟨q0, q1, q2⟩ := hSw
    go_simp
    try with_reducible rfl
  try simp only [Act.put, List.setIfInBounds_toArray, List.set_cons_zero, List.set_cons_succ]
  refine pickL (v := ?_) 4 (some 54) rfl rfl (by kernel_rfl) (by kernel_rfl) (by kernel_rfl) (by decide) (by kernel_rfl) (by kernel_rfl) (fun _ _ _ h => h) (by rfl) ?_ (by assumption) ?_
  rotate_left
  · intro w' hSw
    obtain ⟨q0, q1, q2⟩ := hSw
    go_simp
    try with_reducible rfl
  try simp only [Act.put, List.setIfInBounds_toArray, List.set_cons_zero, List.set_cons_succ]
  refine oneL (i := 5) (by kernel_rfl) rfl (fun K hK => ?_)
  go_simp
  refine (ask_bad lb _ [] _ R2.out.ls oa oo hok).mono ?_; rintro e w8 ⟨rfl, hb8⟩
  have hS8 : (fun w' => w'.cell? ⟨rb, 0, none⟩ = some (.pointer (some ⟨lb, 0, none⟩)) ∧ w'.cell? ⟨H + 1 + 1 + 1, 0, none⟩ = some (.int .i64 oa) ∧ w'.cell? ⟨H + 1 + 1 + 1, 1, none⟩ = some (.int .i64 oo)) w8 := ⟨(R2.out.below hb8).blk.cell 0, (IO.out.below hb8).cell 0, (IO.out.below hb8).cell 1⟩
  have B8 := hide (B7.out.trans (hb8.mono B7.out.size))
  clear hb8
  refine hK.out _ _ ?_ ?_
  · exact hS8
  clear hK K
  try simp only [Act.put, List.setIfInBounds_toArray, List.set_cons_zero, List.set_cons_succ]
  clear hHeld
  have hHeld := hS8
  refine pickA (v := ?_) 6 (some 49) rfl rfl (by kernel_rfl) (by kernel_rfl) (by kernel_rfl) (by decide) (fun _ _ _ h => h) (by rfl) ?_ (by assumption) ?_
  rotate_left
  · intro w'
    go_simp
    try with_reducible rfl
  try simp only [Act.put, List.setIfInBounds_toArray, List.set_cons_zero, List.set_cons_succ]
  refine pickA (v := ?_) 7 (some 56) rfl rfl (by kernel_rfl) (by kernel_rfl) (by kernel_rfl) (by decide) (fun _ _ _ h => h) (by rfl) ?_ (by assumption) ?_
  rotate_left
  · intro w'
    go_simp
    try with_reducible rfl
  try simp only [Act.put, List.setIfInBounds_toArray, List.set_cons_zero, List.set_cons_succ]
  refine pickA (v := ?_) 8 (some 57) rfl rfl (by kernel_rfl) (by kernel_rfl) (by kernel_rfl) (by decide) (fun _ _ _ h => h) (by rfl) ?_ (by assumption) ?_
  rotate_left
  · intro w'
    go_simp
    try with_reducible rfl
  try simp only [Act.put, List.setIfInBounds_toArray, List.set_cons_zero, List.set_cons_succ]
  refine pickA (v := ?_) 9 (some 12) rfl rfl (by kernel_rfl) (by kernel_rfl) (by kernel_rfl) (by decide) (fun _ _ _ h => h) (by rfl) ?_ (by assumption) ?_
  rotate_left
  · intro w'
    go_simp
    try with_reducible rfl
  try simp only [Act.put, List.setIfInBounds_toArray, List.set_cons_zero, List.set_cons_succ]
  refine pickA (v := ?_) 10 (some 13) rfl rfl (by kernel_rfl) (by kernel_rfl) (by kernel_rfl) (by decide) (fun _ _ _ h => h) (by rfl) ?_ (by assumption) ?_
  rotate_left
  · intro w'
    go_simp
    try with_reducible rfl
  try simp only [Act.put, List.setIfInBounds_toArray, List.set_cons_zero, List.set_cons_succ]
  refine doneL (by kernel_rfl) ?_ _
  clear hHeld
  go_wp2
  go_ret
  exact ⟨rfl, B8.out⟩

set_option maxHeartbeats 8000000 in
set_option maxRecDepth 100000 in
theorem put_ok (base p m : Nat) (me : Rf) (L : Tb) (w : World) (h : LK w base p m me L) (hB : base ≤ w.heap.size) (x y : Int) (hv : okV (x, y)) (hm : okMe me) (hy : 0 ≤ y) (a0 a1 a2 a3 a4 b0 b1 b2 b3 b4 : Int) (oa oo : Int) (hR : Ranks w) (hr : me.2.1 = 2) (hM : may me (x, y) = true) (hn : ∀ e ∈ L, e.1 ≠ (x, y)) (hs : toL a1 a2 me.2.1 me.2.2.1 = true) (ht : toR b1 b2 me.2.1 me.2.2.1 = true) (hok : okO oa oo = true) : Calls Tryd.prog 37 #[(.pointer (some ⟨p, 0, none⟩)), .agg #[.int .i64 x, .int .u64 y], .agg #[.int .i64 a0, .int .i64 a1, .int .u64 a2, .int .i64 a3, .int .u64 a4], .agg #[.int .i64 b0, .int .i64 b1, .int .u64 b2, .int .i64 b3, .int .u64 b4], .agg #[.int .i64 oa, .int .i64 oo]] w fun e w' => e = .returned (.int .i64 0) ∧ ∃ c : Rc, c.cn = ([(oa, oo)], (a0, a1, a2, a3, a4), (b0, b1, b2, b3, b4)) ∧ KX w w' base p m me L (keepT me (x, y) c (updL (x, y) c L)) := by
  have mixed : Tryd.prog.follows .mixedOrders = true := by kernel_rfl
  replace hM := hide hM
  have hn0 := hide hn
  have hn := hide (no_pair hn)
  obtain ⟨i, r, n, l, b⟩ := me
  simp only [] at hr hs ht
  have B0 : Below w.heap.size w ((((w.alloc (.cells #[.int .i64 x, .int .u64 y] 27)).alloc (.cells #[.int .i64 a0, .int .i64 a1, .int .u64 a2, .int .i64 a3, .int .u64 a4] 29)).alloc (.cells #[.int .i64 b0, .int .i64 b1, .int .u64 b2, .int .i64 b3, .int .u64 b4] 29)).alloc (.cells #[.int .i64 oa, .int .i64 oo] 52)) := (((((Below.refl w.heap.size w).alloc (Nat.le_refl _) (.cells #[.int .i64 x, .int .u64 y] 27)).alloc (by simp) (.cells #[.int .i64 a0, .int .i64 a1, .int .u64 a2, .int .i64 a3, .int .u64 a4] 29)).alloc (by simp; omega) (.cells #[.int .i64 b0, .int .i64 b1, .int .u64 b2, .int .i64 b3, .int .u64 b4] 29)).alloc (by simp; omega) (.cells #[.int .i64 oa, .int .i64 oo] 52))
  have IV0 := ((((IsB.new w #[.int .i64 x, .int .u64 y] 27).below ((Below.refl _ _).alloc (Nat.le_refl _) (.cells #[.int .i64 a0, .int .i64 a1, .int .u64 a2, .int .i64 a3, .int .u64 a4] 29))).below ((Below.refl _ _).alloc (Nat.le_refl _) (.cells #[.int .i64 b0, .int .i64 b1, .int .u64 b2, .int .i64 b3, .int .u64 b4] 29))).below ((Below.refl _ _).alloc (Nat.le_refl _) (.cells #[.int .i64 oa, .int .i64 oo] 52)))
  have IV := hide IV0
  clear IV0
  have IA0 := (((IsB.new (w.alloc (.cells #[.int .i64 x, .int .u64 y] 27)) #[.int .i64 a0, .int .i64 a1, .int .u64 a2, .int .i64 a3, .int .u64 a4] 29).below ((Below.refl _ _).alloc (Nat.le_refl _) (.cells #[.int .i64 b0, .int .i64 b1, .int .u64 b2, .int .i64 b3, .int .u64 b4] 29))).below ((Below.refl _ _).alloc (Nat.le_refl _) (.cells #[.int .i64 oa, .int .i64 oo] 52)))
  simp only [World.size_alloc] at IA0
  have IA := hide IA0
  clear IA0
  have IB0 := ((IsB.new ((w.alloc (.cells #[.int .i64 x, .int .u64 y] 27)).alloc (.cells #[.int .i64 a0, .int .i64 a1, .int .u64 a2, .int .i64 a3, .int .u64 a4] 29)) #[.int .i64 b0, .int .i64 b1, .int .u64 b2, .int .i64 b3, .int .u64 b4] 29).below ((Below.refl _ _).alloc (Nat.le_refl _) (.cells #[.int .i64 oa, .int .i64 oo] 52)))
  simp only [World.size_alloc] at IB0
  have IB := hide IB0
  clear IB0
  have IO0 := (IsB.new (((w.alloc (.cells #[.int .i64 x, .int .u64 y] 27)).alloc (.cells #[.int .i64 a0, .int .i64 a1, .int .u64 a2, .int .i64 a3, .int .u64 a4] 29)).alloc (.cells #[.int .i64 b0, .int .i64 b1, .int .u64 b2, .int .i64 b3, .int .u64 b4] 29)) #[.int .i64 oa, .int .i64 oo] 52)
  simp only [World.size_alloc] at IO0
  have IO := hide IO0
  clear IO0
  have B1 := hide B0
  have L1 := hide (h.below B0)
  have h0 := hide h
  have HR := hide (hR.below B0)
  clear B0 h hR
  go_enter Tryd.func37, Tryd.ntmps37
  go_wp2_with fail
  generalize ((((w.alloc (.cells #[.int .i64 x, .int .u64 y] 27)).alloc (.cells #[.int .i64 a0, .int .i64 a1, .int .u64 a2, .int .i64 a3, .int .u64 a4] 29)).alloc (.cells #[.int .i64 b0, .int .i64 b1, .int .u64 b2, .int .i64 b3, .int .u64 b4] 29)).alloc (.cells #[.int .i64 oa, .int .i64 oo] 52)) = W1 at IV IA IB IO B1 L1 HR ⊢
  generalize hH : w.heap.size = H at IV IA IB IO ⊢
  replace hH := hide hH
  refine (lmade_yes p m i r n l b _ L1.out.blk).mono ?_; intro e w2 hE1; obtain ⟨rfl, hw⟩ := hE1
  rw [hw]
  clear hw w2
  go_wp2_with fail
  refine (isEnd_any p m i r n l b _ L1.out.blk).mono ?_; intro e w2 hE1; obtain ⟨rfl, hw⟩ := hE1
  rw [hw]
  clear hw w2
  rw [decide_eq_false (by omega)]
  have qV0 := IV.out.cell 0
  have qV1 := IV.out.cell 1
  simp at qV0 qV1
  go_wp2_with fail
  refine (may_any p m i r n l b _ L1.out.blk x y hm hy).mono ?_; rintro e w2 ⟨rfl, hb2⟩
  rw [show mayA r l b x y = true from hM.out]
  clear qV0 qV1
  have IV := hide (IV.out.below hb2)
  have IA := hide (IA.out.below hb2)
  have IB := hide (IB.out.below hb2)
  have IO := hide (IO.out.below hb2)
  have B2 := hide (B1.out.trans (hb2.mono B1.out.size))
  have L1 := hide (L1.out.below hb2)
  have HR := hide (HR.out.below hb2)
  clear hb2
  go_wp2
  refine regionL 8 (fun w' => w'.cell? ⟨p, 5, none⟩ = some (.map (some m)) ∧ w'.cell? ⟨H, 0, none⟩ = some (.int .i64 x) ∧ w'.cell? ⟨H, 1, none⟩ = some (.int .u64 y) ∧ VMp w' m (L.map pair)) mixed ⟨L1.out.blk.cell 5, IV.out.cell 0, IV.out.cell 1, L1.out.map⟩ (fun hHeld => ?_)
  refine pickA (v := ?_) 0 (some 28) rfl rfl (by kernel_rfl) (by kernel_rfl) (by kernel_rfl) (by decide) (fun _ _ _ h => h) (by rfl) ?_ (by assumption) ?_
  rotate_left
  · intro w'
    go_simp
    try with_reducible rfl
  try simp only [Act.put, List.setIfInBounds_toArray, List.set_cons_zero, List.set_cons_succ]
  refine pickA (v := ?_) 1 (some 29) rfl rfl (by kernel_rfl) (by kernel_rfl) (by kernel_rfl) (by decide) (fun _ _ _ h => h) (by rfl) ?_ (by assumption) ?_
  rotate_left
  · intro w'
    go_simp
    try with_reducible rfl
  try simp only [Act.put, List.setIfInBounds_toArray, List.set_cons_zero, List.set_cons_succ]
  refine pickA (v := ?_) 2 (some 30) rfl rfl (by kernel_rfl) (by kernel_rfl) (by kernel_rfl) (by decide) (fun _ _ _ h => h) (by rfl) ?_ (by assumption) ?_
  rotate_left
  · intro w'
    go_simp
    try with_reducible rfl
  try simp only [Act.put, List.setIfInBounds_toArray, List.set_cons_zero, List.set_cons_succ]
  refine pickL (v := ?_) 3 (some 31) rfl rfl (by kernel_rfl) (by kernel_rfl) (by kernel_rfl) (by decide) (by kernel_rfl) (by kernel_rfl) (fun _ _ _ h => h) (by rfl) ?_ (by assumption) ?_
  rotate_left
  · intro w' hSw
    obtain ⟨q0, q1, q2, q3⟩ := hSw; have hlk : (Instr.lookup 96 (.map (some m)) (.agg #[.int .i64 x, .int .u64 y]) false).run Tryd.prog w' = .ok (.pointer none) w' := q3.look_no (x, y) hv hn.out
    go_simp
    try with_reducible rfl
  try simp only [Act.put, List.setIfInBounds_toArray, List.set_cons_zero, List.set_cons_succ]
  refine pickL (v := ?_) 4 (some 32) rfl rfl (by kernel_rfl) (by kernel_rfl) (by kernel_rfl) (by decide) (by kernel_rfl) (by kernel_rfl) (fun _ _ _ h => h) (by rfl) ?_ (by assumption) ?_
  rotate_left
  · intro w' hSw
    obtain ⟨q0, q1, q2, q3⟩ := hSw; have hlk : (Instr.lookup 96 (.map (some m)) (.agg #[.int .i64 x, .int .u64 y]) false).run Tryd.prog w' = .ok (.pointer none) w' := q3.look_no (x, y) hv hn.out
    go_simp
    try with_reducible rfl
  try simp only [Act.put, List.setIfInBounds_toArray, List.set_cons_zero, List.set_cons_succ]
  refine pickL (v := ?_) 5 (some 33) rfl rfl (by kernel_rfl) (by kernel_rfl) (by kernel_rfl) (by decide) (by kernel_rfl) (by kernel_rfl) (fun _ _ _ h => h) (by rfl) ?_ (by assumption) ?_
  rotate_left
  · intro w' hSw
    obtain ⟨q0, q1, q2, q3⟩ := hSw; have hlk : (Instr.lookup 96 (.map (some m)) (.agg #[.int .i64 x, .int .u64 y]) false).run Tryd.prog w' = .ok (.pointer none) w' := q3.look_no (x, y) hv hn.out
    go_simp
    try with_reducible rfl
  try simp only [Act.put, List.setIfInBounds_toArray, List.set_cons_zero, List.set_cons_succ]
  refine pickA (v := ?_) 6 (some 34) rfl rfl (by kernel_rfl) (by kernel_rfl) (by kernel_rfl) (by decide) (fun _ _ _ h => h) (by rfl) ?_ (by assumption) ?_
  rotate_left
  · intro w'
    go_simp
    try with_reducible rfl
  try simp only [Act.put, List.setIfInBounds_toArray, List.set_cons_zero, List.set_cons_succ]
  refine pickA (v := ?_) 7 (some 27) rfl rfl (by kernel_rfl) (by kernel_rfl) (by kernel_rfl) (by decide) (fun _ _ _ h => h) (by rfl) ?_ (by assumption) ?_
  rotate_left
  · intro w'
    go_simp
    try with_reducible rfl
  try simp only [Act.put, List.setIfInBounds_toArray, List.set_cons_zero, List.set_cons_succ]
  refine doneL (by kernel_rfl) ?_ _
  clear hHeld
  have IV := hide (IV.out.below (Below.refl _ _).drew)
  have IA := hide (IA.out.below (Below.refl _ _).drew)
  have IB := hide (IB.out.below (Below.refl _ _).drew)
  have IO := hide (IO.out.below (Below.refl _ _).drew)
  have L1 := hide (L1.out.below (Below.refl _ _).drew)
  have HR := hide (HR.out.below (Below.refl _ _).drew)
  have B3 := hide B2.out.drew
  clear B2
  have qA0 := IA.out.cell 0
  have qA1 := IA.out.cell 1
  have qA2 := IA.out.cell 2
  have qA3 := IA.out.cell 3
  have qA4 := IA.out.cell 4
  simp at qA0 qA1 qA2 qA3 qA4
  go_wp2_with fail
  refine (toLeft_any p m i r n l b _ L1.out.blk a0 a1 a2 a3 a4 HR.out).mono ?_; rintro e w4 ⟨rfl, hb4⟩
  clear qA0 qA1 qA2 qA3 qA4
  rw [hs]
  have IV := hide (IV.out.below hb4)
  have IA := hide (IA.out.below hb4)
  have IB := hide (IB.out.below hb4)
  have IO := hide (IO.out.below hb4)
  have B4 := hide (B3.out.trans (hb4.mono B3.out.size))
  have L1 := hide (L1.out.below hb4)
  have HR := hide (HR.out.below hb4)
  clear hb4
  have qB0 := IB.out.cell 0
  have qB1 := IB.out.cell 1
  have qB2 := IB.out.cell 2
  have qB3 := IB.out.cell 3
  have qB4 := IB.out.cell 4
  simp at qB0 qB1 qB2 qB3 qB4
  go_wp2_with fail
  refine (toRight_any p m i r n l b _ L1.out.blk b0 b1 b2 b3 b4 HR.out).mono ?_; rintro e w5 ⟨rfl, hb5⟩
  clear qB0 qB1 qB2 qB3 qB4
  rw [ht]
  have IV := hide (IV.out.below hb5)
  have IA := hide (IA.out.below hb5)
  have IB := hide (IB.out.below hb5)
  have IO := hide (IO.out.below hb5)
  have B5 := hide (B4.out.trans (hb5.mono B4.out.size))
  have L1 := hide (L1.out.below hb5)
  have HR := hide (HR.out.below hb5)
  clear hb5
  have qA0 := IA.out.cell 0
  have qA1 := IA.out.cell 1
  have qA2 := IA.out.cell 2
  have qA3 := IA.out.cell 3
  have qA4 := IA.out.cell 4
  have qB0 := IB.out.cell 0
  have qB1 := IB.out.cell 1
  have qB2 := IB.out.cell 2
  have qB3 := IB.out.cell 3
  have qB4 := IB.out.cell 4
  simp at qA0 qA1 qA2 qA3 qA4 qB0 qB1 qB2 qB3 qB4
  go_wp2_with fail
  refine (newRecord_any a0 a1 a2 a3 a4 b0 b1 b2 b3 b4 _).mono ?_; rintro e w6 ⟨rb, lb, rfl, g1, g2, g3, hb6⟩
  have hs5 : Hid (w.heap.size ≤ rb ∧ w.heap.size ≤ lb) := ⟨Nat.le_trans B5.out.size g1, Nat.le_trans B5.out.size g2⟩
  have R2 := hide g3
  clear g1 g2 g3
  clear qA0 qA1 qA2 qA3 qA4 qB0 qB1 qB2 qB3 qB4
  have hb7 := hb6.drew
  have IV := hide (IV.out.below hb7)
  have IA := hide (IA.out.below hb7)
  have IB := hide (IB.out.below hb7)
  have IO := hide (IO.out.below hb7)
  have L1 := hide (L1.out.below hb7)
  have R2 := hide (R2.out.below (Below.refl _ _).drew)
  have B7 := hide (B5.out.trans (hb7.mono B5.out.size))
  clear hb6 hb7
  go_wp2
  have HIN : Hid (Here w.heap.size base (x, y) ⟨rb, lb, .slice none 0 0, [], (a0, a1, a2, a3, a4), (b0, b1, b2, b3, b4)⟩ L) := by
    refine Or.inr ⟨⟨hn0.out, Nat.le_trans hB hs5.out.1, Nat.le_trans hB hs5.out.2, fun e he => ?_, fun e he => ?_⟩, hs5.out.1, hs5.out.2⟩
    · have := (h0.out.lts e he).1
      have := hs5.out.1
      simp only []
      omega
    · have := (h0.out.lts e he).2
      have := hs5.out.2
      simp only []
      omega
  refine regionL 11 (fun w' => w'.cell? ⟨rb, 0, none⟩ = some (.pointer (some ⟨lb, 0, none⟩)) ∧ w'.cell? ⟨H + 1 + 1 + 1, 0, none⟩ = some (.int .i64 oa) ∧ w'.cell? ⟨H + 1 + 1 + 1, 1, none⟩ = some (.int .i64 oo)) mixed ⟨R2.out.blk.cell 0, IO.out.cell 0, IO.out.cell 1⟩ (fun hHeld => ?_)
  refine pickA (v := ?_) 0 (some 50) rfl rfl (by kernel_rfl) (by kernel_rfl) (by kernel_rfl) (by decide) (fun _ _ _ h => h) (by rfl) ?_ (by assumption) ?_
  rotate_left
  · intro w'
    go_simp
    try with_reducible rfl
  try simp only [Act.put, List.setIfInBounds_toArray, List.set_cons_zero, List.set_cons_succ]
  refine pickA (v := ?_) 1 (some 51) rfl rfl (by kernel_rfl) (by kernel_rfl) (by kernel_rfl) (by decide) (fun _ _ _ h => h) (by rfl) ?_ (by assumption) ?_
  rotate_left
  · intro w'
    go_simp
    try with_reducible rfl
  try simp only [Act.put, List.setIfInBounds_toArray, List.set_cons_zero, List.set_cons_succ]
  refine pickA (v := ?_) 2 (some 52) rfl rfl (by kernel_rfl) (by kernel_rfl) (by kernel_rfl) (by decide) (fun _ _ _ h => h) (by rfl) ?_ (by assumption) ?_
  rotate_left
  · intro w'
    go_simp
    try with_reducible rfl
  try simp only [Act.put, List.setIfInBounds_toArray, List.set_cons_zero, List.set_cons_succ]
  refine pickL (v := ?_) 3 (some 53) rfl rfl (by kernel_rfl) (by kernel_rfl) (by kernel_rfl) (by decide) (by kernel_rfl) (by kernel_rfl) (fun _ _ _ h => h) (by rfl) ?_ (by assumption) ?_
  rotate_left
  · intro w' hSw
    obtain ⟨q0, q1, q2⟩ := hSw
    go_simp
    try with_reducible rfl
  try simp only [Act.put, List.setIfInBounds_toArray, List.set_cons_zero, List.set_cons_succ]
  refine pickL (v := ?_) 4 (some 54) rfl rfl (by kernel_rfl) (by kernel_rfl) (by kernel_rfl) (by decide) (by kernel_rfl) (by kernel_rfl) (fun _ _ _ h => h) (by rfl) ?_ (by assumption) ?_
  rotate_left
  · intro w' hSw
    obtain ⟨q0, q1, q2⟩ := hSw
    go_simp
    try with_reducible rfl
  try simp only [Act.put, List.setIfInBounds_toArray, List.set_cons_zero, List.set_cons_succ]
  refine oneL (i := 5) (by kernel_rfl) rfl (fun K hK => ?_)
  go_simp
  refine (ask_new lb _ [] _ R2.out.ls oa oo hok (plc_nmem (by simp)) (by simp)).mono ?_; rintro e w8 ⟨rfl, v', hx⟩
  have hx2 : Lx _ w8 lb _ v' [(oa, oo)] := hx
  have R8 := hide (R2.out.locked hx2)
  have K8 : Hid (Kp [rb, lb] _ w8) := hx2.kp.wide (by simp)
  have hlo : ∀ {b : Nat} {cs : Array Value} {t : TypeId}, IsB _ b cs t → t ≠ 154 → IsB w8 b cs t := fun hb ht => hb.kp hx2.kp (by simp only [List.mem_cons, List.not_mem_nil, or_false]; exact hb.ne_t R2.out.ls.blk ht)
  have IO8 := hide (hlo IO.out (by decide))
  have IV8 := hide (hlo IV.out (by decide))
  have hS8 : (fun w' => w'.cell? ⟨rb, 0, none⟩ = some (.pointer (some ⟨lb, 0, none⟩)) ∧ w'.cell? ⟨H + 1 + 1 + 1, 0, none⟩ = some (.int .i64 oa) ∧ w'.cell? ⟨H + 1 + 1 + 1, 1, none⟩ = some (.int .i64 oo)) w8 := ⟨R8.out.blk.cell 0, IO8.out.cell 0, IO8.out.cell 1⟩
  have hU := hide (LK.upd L1.out (x, y) ⟨rb, lb, .slice none 0 0, [], (a0, a1, a2, a3, a4), (b0, b1, b2, b3, b4)⟩ ⟨rb, lb, v', [(oa, oo)], (a0, a1, a2, a3, a4), (b0, b1, b2, b3, b4)⟩ R2.out HIN.out.or K8.out R8.out rfl rfl)
  clear hx hx2 hlo
  refine hK.out _ _ ?_ ?_
  · exact hS8
  clear hK K
  try simp only [Act.put, List.setIfInBounds_toArray, List.set_cons_zero, List.set_cons_succ]
  clear hHeld
  have hHeld := hS8
  refine pickA (v := ?_) 6 (some 49) rfl rfl (by kernel_rfl) (by kernel_rfl) (by kernel_rfl) (by decide) (fun _ _ _ h => h) (by rfl) ?_ (by assumption) ?_
  rotate_left
  · intro w'
    go_simp
    try with_reducible rfl
  try simp only [Act.put, List.setIfInBounds_toArray, List.set_cons_zero, List.set_cons_succ]
  refine pickA (v := ?_) 7 (some 56) rfl rfl (by kernel_rfl) (by kernel_rfl) (by kernel_rfl) (by decide) (fun _ _ _ h => h) (by rfl) ?_ (by assumption) ?_
  rotate_left
  · intro w'
    go_simp
    try with_reducible rfl
  try simp only [Act.put, List.setIfInBounds_toArray, List.set_cons_zero, List.set_cons_succ]
  refine pickA (v := ?_) 8 (some 57) rfl rfl (by kernel_rfl) (by kernel_rfl) (by kernel_rfl) (by decide) (fun _ _ _ h => h) (by rfl) ?_ (by assumption) ?_
  rotate_left
  · intro w'
    go_simp
    try with_reducible rfl
  try simp only [Act.put, List.setIfInBounds_toArray, List.set_cons_zero, List.set_cons_succ]
  refine pickA (v := ?_) 9 (some 12) rfl rfl (by kernel_rfl) (by kernel_rfl) (by kernel_rfl) (by decide) (fun _ _ _ h => h) (by rfl) ?_ (by assumption) ?_
  rotate_left
  · intro w'
    go_simp
    try with_reducible rfl
  try simp only [Act.put, List.setIfInBounds_toArray, List.set_cons_zero, List.set_cons_succ]
  refine pickA (v := ?_) 10 (some 13) rfl rfl (by kernel_rfl) (by kernel_rfl) (by kernel_rfl) (by decide) (fun _ _ _ h => h) (by rfl) ?_ (by assumption) ?_
  rotate_left
  · intro w'
    go_simp
    try with_reducible rfl
  try simp only [Act.put, List.setIfInBounds_toArray, List.set_cons_zero, List.set_cons_succ]
  refine doneL (by kernel_rfl) ?_ _
  clear hHeld
  have qv0 := IV8.out.cell 0
  have qv1 := IV8.out.cell 1
  simp at qv0 qv1
  go_wp2_with fail
  refine (keep_any base p m (i, r, n, l, b) (updL (x, y) ⟨rb, lb, v', [(oa, oo)], (a0, a1, a2, a3, a4), (b0, b1, b2, b3, b4)⟩ L) _ hU.out.1 x y hv ⟨rb, lb, v', [(oa, oo)], (a0, a1, a2, a3, a4), (b0, b1, b2, b3, b4)⟩ R8.out hU.out.2).mono ?_; rintro e w9 ⟨rfl, h9, k9⟩
  have X9 := hide (h0.out.done (x, y) ⟨rb, lb, .slice none 0 0, [], (a0, a1, a2, a3, a4), (b0, b1, b2, b3, b4)⟩ ⟨rb, lb, v', [(oa, oo)], (a0, a1, a2, a3, a4), (b0, b1, b2, b3, b4)⟩ B7.out HIN.out K8.out rfl rfl k9 h9)
  clear h9 k9 qv0 qv1
  go_wp2
  go_ret
  exact ⟨rfl, ⟨rb, lb, v', [(oa, oo)], (a0, a1, a2, a3, a4), (b0, b1, b2, b3, b4)⟩, rfl, X9.out⟩

end Go.Proofs.YtdogdinkopocaaaDoor
