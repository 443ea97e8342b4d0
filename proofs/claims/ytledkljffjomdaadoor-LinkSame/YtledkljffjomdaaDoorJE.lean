/- LinkSame: the law walked. -/
import Derived.Test.YtledkljffjomdaaDoorJC
import Derived.Test.YtledkljffjomdaaDoorKSR
import Derived.Test.YtledkljffjomdaaDoorKLD
namespace Go.Proofs.YtledkljffjomdaaDoor
open Go.RowKit Go.Maps

set_option maxHeartbeats 8000000 in
set_option maxRecDepth 100000 in
theorem linkSame_big1 (f0 f1 f2 f3 f4 f5 f6 f7 f8 f9 fa fb : Int) (fc : Bool) (fd fe : Int) (g0 g1 g2 g3 g4 g5 g6 g7 g8 g9 ga gb : Int) (gc : Bool) (gd ge : Int) (v1 v2 : Value) (l1 l2 : List Ow) (w : World) (hR : Ranks w) (h1 : SlR w v1 l1) (h2 : SlR w v2 l2) (hl : 200 < l1.length) : Calls Tryd.prog 3 #[.agg #[.int .i64 f0, .int .u64 f1, .int .i64 f2, .int .i64 f3, .int .u64 f4, .int .i64 f5, .int .u64 f6, .int .i64 f7, .int .i64 f8, .int .u64 f9, .int .i64 fa, .int .u64 fb, .bool fc, .int .i64 fd, .int .i64 fe, v1], .agg #[.int .i64 g0, .int .u64 g1, .int .i64 g2, .int .i64 g3, .int .u64 g4, .int .i64 g5, .int .u64 g6, .int .i64 g7, .int .i64 g8, .int .u64 g9, .int .i64 ga, .int .u64 gb, .bool gc, .int .i64 gd, .int .i64 ge, v2]] w fun e w' => e = .returned (.bool true) ∧ Below w.heap.size w w' := by
  obtain ⟨va, vc, rfl⟩ := h1.1
  obtain ⟨va2, vc2, rfl⟩ := h2.1
  obtain ⟨n1, hn1⟩ : ∃ n, l1.length = n := ⟨_, rfl⟩
  obtain ⟨n2, hn2⟩ : ∃ n, l2.length = n := ⟨_, rfl⟩
  rw [hn1] at h1 ⊢
  rw [hn2] at h2 ⊢
  have B0 : Below w.heap.size w ((w.alloc (.cells #[.int .i64 f0, .int .u64 f1, .int .i64 f2, .int .i64 f3, .int .u64 f4, .int .i64 f5, .int .u64 f6, .int .i64 f7, .int .i64 f8, .int .u64 f9, .int .i64 fa, .int .u64 fb, .bool fc, .int .i64 fd, .int .i64 fe, .slice va n1 vc] 34)).alloc (.cells #[.int .i64 g0, .int .u64 g1, .int .i64 g2, .int .i64 g3, .int .u64 g4, .int .i64 g5, .int .u64 g6, .int .i64 g7, .int .i64 g8, .int .u64 g9, .int .i64 ga, .int .u64 gb, .bool gc, .int .i64 gd, .int .i64 ge, .slice va2 n2 vc2] 34)) := ((Below.refl w.heap.size w).alloc (Nat.le_refl _) (.cells #[.int .i64 f0, .int .u64 f1, .int .i64 f2, .int .i64 f3, .int .u64 f4, .int .i64 f5, .int .u64 f6, .int .i64 f7, .int .i64 f8, .int .u64 f9, .int .i64 fa, .int .u64 fb, .bool fc, .int .i64 fd, .int .i64 fe, .slice va n1 vc] 34)).alloc (by simp) (.cells #[.int .i64 g0, .int .u64 g1, .int .i64 g2, .int .i64 g3, .int .u64 g4, .int .i64 g5, .int .u64 g6, .int .i64 g7, .int .i64 g8, .int .u64 g9, .int .i64 ga, .int .u64 gb, .bool gc, .int .i64 gd, .int .i64 ge, .slice va2 n2 vc2] 34)
  have IF0 := (IsB.new w #[.int .i64 f0, .int .u64 f1, .int .i64 f2, .int .i64 f3, .int .u64 f4, .int .i64 f5, .int .u64 f6, .int .i64 f7, .int .i64 f8, .int .u64 f9, .int .i64 fa, .int .u64 fb, .bool fc, .int .i64 fd, .int .i64 fe, .slice va n1 vc] 34).below ((Below.refl _ _).alloc (Nat.le_refl _) (.cells #[.int .i64 g0, .int .u64 g1, .int .i64 g2, .int .i64 g3, .int .u64 g4, .int .i64 g5, .int .u64 g6, .int .i64 g7, .int .i64 g8, .int .u64 g9, .int .i64 ga, .int .u64 gb, .bool gc, .int .i64 gd, .int .i64 ge, .slice va2 n2 vc2] 34))
  have IG0 := IsB.new (w.alloc (.cells #[.int .i64 f0, .int .u64 f1, .int .i64 f2, .int .i64 f3, .int .u64 f4, .int .i64 f5, .int .u64 f6, .int .i64 f7, .int .i64 f8, .int .u64 f9, .int .i64 fa, .int .u64 fb, .bool fc, .int .i64 fd, .int .i64 fe, .slice va n1 vc] 34)) #[.int .i64 g0, .int .u64 g1, .int .i64 g2, .int .i64 g3, .int .u64 g4, .int .i64 g5, .int .u64 g6, .int .i64 g7, .int .i64 g8, .int .u64 g9, .int .i64 ga, .int .u64 gb, .bool gc, .int .i64 gd, .int .i64 ge, .slice va2 n2 vc2] 34
  simp only [World.size_alloc] at IG0
  have IF := hide IF0
  have IG := hide IG0
  have S1 := hide (h1.below B0)
  have S2 := hide (h2.below B0)
  have HR := hide (hR.below B0)
  have B1 := hide B0
  clear B0 IF0 IG0 h1 h2 hR
  have hg1 : decide (200 < (n1 : Int)) = true := by simp; omega
  go_enter Tryd.func3, Tryd.ntmps3
  go_wp2_with fail
  generalize ((w.alloc (.cells #[.int .i64 f0, .int .u64 f1, .int .i64 f2, .int .i64 f3, .int .u64 f4, .int .i64 f5, .int .u64 f6, .int .i64 f7, .int .i64 f8, .int .u64 f9, .int .i64 fa, .int .u64 fb, .bool fc, .int .i64 fd, .int .i64 fe, .slice va n1 vc] 34)).alloc (.cells #[.int .i64 g0, .int .u64 g1, .int .i64 g2, .int .i64 g3, .int .u64 g4, .int .i64 g5, .int .u64 g6, .int .i64 g7, .int .i64 g8, .int .u64 g9, .int .i64 ga, .int .u64 gb, .bool gc, .int .i64 gd, .int .i64 ge, .slice va2 n2 vc2] 34)) = W1 at IF IG S1 S2 HR B1 ⊢
  generalize hH : w.heap.size = H at IF IG ⊢
  replace hH := hide hH
  refine (awake_any _ HR.out).mono ?_; rintro e w2 ⟨rfl, hb⟩
  have B2 := hide (B1.out.trans (hb.mono B1.out.size))
  clear hb
  go_wp2
  go_ret
  exact ⟨rfl, B2.out⟩

set_option maxHeartbeats 8000000 in
set_option maxRecDepth 100000 in
theorem linkSame_big2 (f0 f1 f2 f3 f4 f5 f6 f7 f8 f9 fa fb : Int) (fc : Bool) (fd fe : Int) (g0 g1 g2 g3 g4 g5 g6 g7 g8 g9 ga gb : Int) (gc : Bool) (gd ge : Int) (v1 v2 : Value) (l1 l2 : List Ow) (w : World) (hR : Ranks w) (h1 : SlR w v1 l1) (h2 : SlR w v2 l2) (hl : l1.length ≤ 200) (hl2 : 200 < l2.length) : Calls Tryd.prog 3 #[.agg #[.int .i64 f0, .int .u64 f1, .int .i64 f2, .int .i64 f3, .int .u64 f4, .int .i64 f5, .int .u64 f6, .int .i64 f7, .int .i64 f8, .int .u64 f9, .int .i64 fa, .int .u64 fb, .bool fc, .int .i64 fd, .int .i64 fe, v1], .agg #[.int .i64 g0, .int .u64 g1, .int .i64 g2, .int .i64 g3, .int .u64 g4, .int .i64 g5, .int .u64 g6, .int .i64 g7, .int .i64 g8, .int .u64 g9, .int .i64 ga, .int .u64 gb, .bool gc, .int .i64 gd, .int .i64 ge, v2]] w fun e w' => e = .returned (.bool true) ∧ Below w.heap.size w w' := by
  obtain ⟨va, vc, rfl⟩ := h1.1
  obtain ⟨va2, vc2, rfl⟩ := h2.1
  obtain ⟨n1, hn1⟩ : ∃ n, l1.length = n := ⟨_, rfl⟩
  obtain ⟨n2, hn2⟩ : ∃ n, l2.length = n := ⟨_, rfl⟩
  rw [hn1] at h1 ⊢
  rw [hn2] at h2 ⊢
  have B0 : Below w.heap.size w ((w.alloc (.cells #[.int .i64 f0, .int .u64 f1, .int .i64 f2, .int .i64 f3, .int .u64 f4, .int .i64 f5, .int .u64 f6, .int .i64 f7, .int .i64 f8, .int .u64 f9, .int .i64 fa, .int .u64 fb, .bool fc, .int .i64 fd, .int .i64 fe, .slice va n1 vc] 34)).alloc (.cells #[.int .i64 g0, .int .u64 g1, .int .i64 g2, .int .i64 g3, .int .u64 g4, .int .i64 g5, .int .u64 g6, .int .i64 g7, .int .i64 g8, .int .u64 g9, .int .i64 ga, .int .u64 gb, .bool gc, .int .i64 gd, .int .i64 ge, .slice va2 n2 vc2] 34)) := ((Below.refl w.heap.size w).alloc (Nat.le_refl _) (.cells #[.int .i64 f0, .int .u64 f1, .int .i64 f2, .int .i64 f3, .int .u64 f4, .int .i64 f5, .int .u64 f6, .int .i64 f7, .int .i64 f8, .int .u64 f9, .int .i64 fa, .int .u64 fb, .bool fc, .int .i64 fd, .int .i64 fe, .slice va n1 vc] 34)).alloc (by simp) (.cells #[.int .i64 g0, .int .u64 g1, .int .i64 g2, .int .i64 g3, .int .u64 g4, .int .i64 g5, .int .u64 g6, .int .i64 g7, .int .i64 g8, .int .u64 g9, .int .i64 ga, .int .u64 gb, .bool gc, .int .i64 gd, .int .i64 ge, .slice va2 n2 vc2] 34)
  have IF0 := (IsB.new w #[.int .i64 f0, .int .u64 f1, .int .i64 f2, .int .i64 f3, .int .u64 f4, .int .i64 f5, .int .u64 f6, .int .i64 f7, .int .i64 f8, .int .u64 f9, .int .i64 fa, .int .u64 fb, .bool fc, .int .i64 fd, .int .i64 fe, .slice va n1 vc] 34).below ((Below.refl _ _).alloc (Nat.le_refl _) (.cells #[.int .i64 g0, .int .u64 g1, .int .i64 g2, .int .i64 g3, .int .u64 g4, .int .i64 g5, .int .u64 g6, .int .i64 g7, .int .i64 g8, .int .u64 g9, .int .i64 ga, .int .u64 gb, .bool gc, .int .i64 gd, .int .i64 ge, .slice va2 n2 vc2] 34))
  have IG0 := IsB.new (w.alloc (.cells #[.int .i64 f0, .int .u64 f1, .int .i64 f2, .int .i64 f3, .int .u64 f4, .int .i64 f5, .int .u64 f6, .int .i64 f7, .int .i64 f8, .int .u64 f9, .int .i64 fa, .int .u64 fb, .bool fc, .int .i64 fd, .int .i64 fe, .slice va n1 vc] 34)) #[.int .i64 g0, .int .u64 g1, .int .i64 g2, .int .i64 g3, .int .u64 g4, .int .i64 g5, .int .u64 g6, .int .i64 g7, .int .i64 g8, .int .u64 g9, .int .i64 ga, .int .u64 gb, .bool gc, .int .i64 gd, .int .i64 ge, .slice va2 n2 vc2] 34
  simp only [World.size_alloc] at IG0
  have IF := hide IF0
  have IG := hide IG0
  have S1 := hide (h1.below B0)
  have S2 := hide (h2.below B0)
  have HR := hide (hR.below B0)
  have B1 := hide B0
  clear B0 IF0 IG0 h1 h2 hR
  have hg1 : decide (200 < (n1 : Int)) = false := by simp; omega
  have hg2 : decide (200 < (n2 : Int)) = true := by simp; omega
  go_enter Tryd.func3, Tryd.ntmps3
  go_wp2_with fail
  generalize ((w.alloc (.cells #[.int .i64 f0, .int .u64 f1, .int .i64 f2, .int .i64 f3, .int .u64 f4, .int .i64 f5, .int .u64 f6, .int .i64 f7, .int .i64 f8, .int .u64 f9, .int .i64 fa, .int .u64 fb, .bool fc, .int .i64 fd, .int .i64 fe, .slice va n1 vc] 34)).alloc (.cells #[.int .i64 g0, .int .u64 g1, .int .i64 g2, .int .i64 g3, .int .u64 g4, .int .i64 g5, .int .u64 g6, .int .i64 g7, .int .i64 g8, .int .u64 g9, .int .i64 ga, .int .u64 gb, .bool gc, .int .i64 gd, .int .i64 ge, .slice va2 n2 vc2] 34)) = W1 at IF IG S1 S2 HR B1 ⊢
  generalize hH : w.heap.size = H at IF IG ⊢
  replace hH := hide hH
  refine (awake_any _ HR.out).mono ?_; rintro e w2 ⟨rfl, hb⟩
  have B2 := hide (B1.out.trans (hb.mono B1.out.size))
  clear hb
  go_wp2
  go_ret
  exact ⟨rfl, B2.out⟩

set_option maxHeartbeats 8000000 in
set_option maxRecDepth 100000 in
theorem linkSame_small (f0 f1 f2 f3 f4 f5 f6 f7 f8 f9 fa fb : Int) (fc : Bool) (fd fe : Int) (g0 g1 g2 g3 g4 g5 g6 g7 g8 g9 ga gb : Int) (gc : Bool) (gd ge : Int) (v1 v2 : Value) (l1 l2 : List Ow) (w : World) (hR : Ranks w) (h1 : SlR w v1 l1) (h2 : SlR w v2 l2) (hl : l1.length ≤ 200) (hl2 : l2.length ≤ 200) : Calls Tryd.prog 3 #[.agg #[.int .i64 f0, .int .u64 f1, .int .i64 f2, .int .i64 f3, .int .u64 f4, .int .i64 f5, .int .u64 f6, .int .i64 f7, .int .i64 f8, .int .u64 f9, .int .i64 fa, .int .u64 fb, .bool fc, .int .i64 fd, .int .i64 fe, v1], .agg #[.int .i64 g0, .int .u64 g1, .int .i64 g2, .int .i64 g3, .int .u64 g4, .int .i64 g5, .int .u64 g6, .int .i64 g7, .int .i64 g8, .int .u64 g9, .int .i64 ga, .int .u64 gb, .bool gc, .int .i64 gd, .int .i64 ge, v2]] w fun e w' => e = .returned (.bool true) ∧ Below w.heap.size w w' := by
  have mixed : Tryd.prog.follows .mixedOrders = true := by kernel_rfl
  obtain ⟨va, vc, rfl⟩ := h1.1
  obtain ⟨va2, vc2, rfl⟩ := h2.1
  obtain ⟨n1, hn1⟩ : ∃ n, l1.length = n := ⟨_, rfl⟩
  obtain ⟨n2, hn2⟩ : ∃ n, l2.length = n := ⟨_, rfl⟩
  rw [hn1] at h1 ⊢
  rw [hn2] at h2 ⊢
  have B0 : Below w.heap.size w ((w.alloc (.cells #[.int .i64 f0, .int .u64 f1, .int .i64 f2, .int .i64 f3, .int .u64 f4, .int .i64 f5, .int .u64 f6, .int .i64 f7, .int .i64 f8, .int .u64 f9, .int .i64 fa, .int .u64 fb, .bool fc, .int .i64 fd, .int .i64 fe, .slice va n1 vc] 34)).alloc (.cells #[.int .i64 g0, .int .u64 g1, .int .i64 g2, .int .i64 g3, .int .u64 g4, .int .i64 g5, .int .u64 g6, .int .i64 g7, .int .i64 g8, .int .u64 g9, .int .i64 ga, .int .u64 gb, .bool gc, .int .i64 gd, .int .i64 ge, .slice va2 n2 vc2] 34)) := ((Below.refl w.heap.size w).alloc (Nat.le_refl _) (.cells #[.int .i64 f0, .int .u64 f1, .int .i64 f2, .int .i64 f3, .int .u64 f4, .int .i64 f5, .int .u64 f6, .int .i64 f7, .int .i64 f8, .int .u64 f9, .int .i64 fa, .int .u64 fb, .bool fc, .int .i64 fd, .int .i64 fe, .slice va n1 vc] 34)).alloc (by simp) (.cells #[.int .i64 g0, .int .u64 g1, .int .i64 g2, .int .i64 g3, .int .u64 g4, .int .i64 g5, .int .u64 g6, .int .i64 g7, .int .i64 g8, .int .u64 g9, .int .i64 ga, .int .u64 gb, .bool gc, .int .i64 gd, .int .i64 ge, .slice va2 n2 vc2] 34)
  have IF0 := (IsB.new w #[.int .i64 f0, .int .u64 f1, .int .i64 f2, .int .i64 f3, .int .u64 f4, .int .i64 f5, .int .u64 f6, .int .i64 f7, .int .i64 f8, .int .u64 f9, .int .i64 fa, .int .u64 fb, .bool fc, .int .i64 fd, .int .i64 fe, .slice va n1 vc] 34).below ((Below.refl _ _).alloc (Nat.le_refl _) (.cells #[.int .i64 g0, .int .u64 g1, .int .i64 g2, .int .i64 g3, .int .u64 g4, .int .i64 g5, .int .u64 g6, .int .i64 g7, .int .i64 g8, .int .u64 g9, .int .i64 ga, .int .u64 gb, .bool gc, .int .i64 gd, .int .i64 ge, .slice va2 n2 vc2] 34))
  have IG0 := IsB.new (w.alloc (.cells #[.int .i64 f0, .int .u64 f1, .int .i64 f2, .int .i64 f3, .int .u64 f4, .int .i64 f5, .int .u64 f6, .int .i64 f7, .int .i64 f8, .int .u64 f9, .int .i64 fa, .int .u64 fb, .bool fc, .int .i64 fd, .int .i64 fe, .slice va n1 vc] 34)) #[.int .i64 g0, .int .u64 g1, .int .i64 g2, .int .i64 g3, .int .u64 g4, .int .i64 g5, .int .u64 g6, .int .i64 g7, .int .i64 g8, .int .u64 g9, .int .i64 ga, .int .u64 gb, .bool gc, .int .i64 gd, .int .i64 ge, .slice va2 n2 vc2] 34
  simp only [World.size_alloc] at IG0
  have IF := hide IF0
  have IG := hide IG0
  have S1 := hide (h1.below B0)
  have S2 := hide (h2.below B0)
  have HR := hide (hR.below B0)
  have B1 := hide B0
  clear B0 IF0 IG0 h1 h2 hR
  have hg1 : decide (200 < (n1 : Int)) = false := by simp; omega
  have hg2 : decide (200 < (n2 : Int)) = false := by simp; omega
  have hb1 : l1.length ≤ 100000 := by omega
  obtain ⟨X, hX⟩ : ∃ X, sameS ((f0, f1), (f2, f3, f4, f5, f6), (f7, f8, f9, fa, fb), fc, (fd, fe), l1) ((g0, g1), (g2, g3, g4, g5, g6), (g7, g8, g9, ga, gb), gc, (gd, ge), l2) = X := ⟨_, rfl⟩
  replace hX := hide hX
  have hY : Hid (sameS ((f0, f1), (f2, f3, f4, f5, f6), (f7, f8, f9, fa, fb), fc, (fd, fe), l1) ((f0, f1), (f2, f3, f4, f5, f6), (f7, f8, f9, fa, fb), fc, (fd, fe), l1) = true) := sameS_iff.2 rfl
  replace hn1 := hide hn1
  replace hn2 := hide hn2
  go_enter Tryd.func3, Tryd.ntmps3
  go_wp2
  generalize ((w.alloc (.cells #[.int .i64 f0, .int .u64 f1, .int .i64 f2, .int .i64 f3, .int .u64 f4, .int .i64 f5, .int .u64 f6, .int .i64 f7, .int .i64 f8, .int .u64 f9, .int .i64 fa, .int .u64 fb, .bool fc, .int .i64 fd, .int .i64 fe, .slice va n1 vc] 34)).alloc (.cells #[.int .i64 g0, .int .u64 g1, .int .i64 g2, .int .i64 g3, .int .u64 g4, .int .i64 g5, .int .u64 g6, .int .i64 g7, .int .i64 g8, .int .u64 g9, .int .i64 ga, .int .u64 gb, .bool gc, .int .i64 gd, .int .i64 ge, .slice va2 n2 vc2] 34)) = W1 at IF IG S1 S2 HR B1 ⊢
  generalize hH : w.heap.size = H at IF IG ⊢
  replace hH := hide hH
  have IF := hide (IF.out.below (Below.refl _ _).drew)
  have IG := hide (IG.out.below (Below.refl _ _).drew)
  have S1 := hide (S1.out.below (Below.refl _ _).drew)
  have S2 := hide (S2.out.below (Below.refl _ _).drew)
  have HR := hide (HR.out.below (Below.refl _ _).drew)
  have B1 := hide B1.out.drew
  generalize hFV : Value.agg #[.int .i64 f0, .int .u64 f1, .int .i64 f2, .int .i64 f3, .int .u64 f4, .int .i64 f5, .int .u64 f6, .int .i64 f7, .int .i64 f8, .int .u64 f9, .int .i64 fa, .int .u64 fb, .bool fc, .int .i64 fd, .int .i64 fe, .slice va n1 vc] = FV
  generalize hGV : Value.agg #[.int .i64 g0, .int .u64 g1, .int .i64 g2, .int .i64 g3, .int .u64 g4, .int .i64 g5, .int .u64 g6, .int .i64 g7, .int .i64 g8, .int .u64 g9, .int .i64 ga, .int .u64 gb, .bool gc, .int .i64 gd, .int .i64 ge, .slice va2 n2 vc2] = GV
  have CL : Hid (∀ w', SlR w' (.slice va n1 vc) l1 → SlR w' (.slice va2 n2 vc2) l2 → Calls Tryd.prog 9 #[FV, GV] w' fun e w'' => e = .returned (.bool X) ∧ Below w'.heap.size w' w'') := fun w' s1 s2 => by
    rw [← hFV, ← hGV, ← hX.out]
    exact lsameR_low f0 f1 f2 f3 f4 f5 f6 f7 f8 f9 fa fb fc fd fe g0 g1 g2 g3 g4 g5 g6 g7 g8 g9 ga gb gc gd ge (.slice va n1 vc) (.slice va2 n2 vc2) l1 l2 hb1 w' s1 s2
  have CR : Hid (∀ w', SlR w' (.slice va n1 vc) l1 → SlR w' (.slice va2 n2 vc2) l2 → Calls Tryd.prog 10 #[FV, GV] w' fun e w'' => e = .returned (.bool X) ∧ Below w'.heap.size w' w'') := fun w' s1 s2 => by
    rw [← hFV, ← hGV, ← hX.out]
    exact rsameR_low f0 f1 f2 f3 f4 f5 f6 f7 f8 f9 fa fb fc fd fe g0 g1 g2 g3 g4 g5 g6 g7 g8 g9 ga gb gc gd ge (.slice va n1 vc) (.slice va2 n2 vc2) l1 l2 hb1 w' s1 s2
  have CM : Hid (∀ w', SlR w' (.slice va n1 vc) l1 → Calls Tryd.prog 9 #[FV, FV] w' fun e w'' => e = .returned (.bool true) ∧ Below w'.heap.size w' w'') := fun w' s1 => by
    rw [← hFV, ← hY.out]
    exact lsameR_low f0 f1 f2 f3 f4 f5 f6 f7 f8 f9 fa fb fc fd fe f0 f1 f2 f3 f4 f5 f6 f7 f8 f9 fa fb fc fd fe (.slice va n1 vc) (.slice va n1 vc) l1 l1 hb1 w' s1 s1
  refine regionL 16 (fun w' => IsB w' H #[.int .i64 f0, .int .u64 f1, .int .i64 f2, .int .i64 f3, .int .u64 f4, .int .i64 f5, .int .u64 f6, .int .i64 f7, .int .i64 f8, .int .u64 f9, .int .i64 fa, .int .u64 fb, .bool fc, .int .i64 fd, .int .i64 fe, .slice va n1 vc] 34 ∧ IsB w' (H + 1) #[.int .i64 g0, .int .u64 g1, .int .i64 g2, .int .i64 g3, .int .u64 g4, .int .i64 g5, .int .u64 g6, .int .i64 g7, .int .i64 g8, .int .u64 g9, .int .i64 ga, .int .u64 gb, .bool gc, .int .i64 gd, .int .i64 ge, .slice va2 n2 vc2] 34) mixed ⟨IF.out, IG.out⟩ (fun hHeld => ?_)
  refine pickL (v := FV) 0 (some 16) rfl rfl (by kernel_rfl) (by kernel_rfl) (by kernel_rfl) (by decide) (by kernel_rfl) (by kernel_rfl) (fun _ _ _ h => h) (by rfl) ?_ (by assumption) ?_
  · intro w' hSw
    skip
    rw [← hFV]
    exact exec_load rfl rfl (load_rs hSw.1 rfl)
  try simp only [Act.put, List.setIfInBounds_toArray, List.set_cons_zero, List.set_cons_succ]
  refine pickL (v := GV) 1 (some 17) rfl rfl (by kernel_rfl) (by kernel_rfl) (by kernel_rfl) (by decide) (by kernel_rfl) (by kernel_rfl) (fun _ _ _ h => h) (by rfl) ?_ (by assumption) ?_
  · intro w' hSw
    skip
    rw [← hGV]
    exact exec_load rfl rfl (load_rs hSw.2 rfl)
  try simp only [Act.put, List.setIfInBounds_toArray, List.set_cons_zero, List.set_cons_succ]
  refine pickL (v := FV) 3 (some 19) rfl rfl (by kernel_rfl) (by kernel_rfl) (by kernel_rfl) (by decide) (by kernel_rfl) (by kernel_rfl) (fun _ _ _ h => h) (by rfl) ?_ (by assumption) ?_
  · intro w' hSw
    skip
    rw [← hFV]
    exact exec_load rfl rfl (load_rs hSw.1 rfl)
  try simp only [Act.put, List.setIfInBounds_toArray, List.set_cons_zero, List.set_cons_succ]
  refine pickL (v := GV) 4 (some 20) rfl rfl (by kernel_rfl) (by kernel_rfl) (by kernel_rfl) (by decide) (by kernel_rfl) (by kernel_rfl) (fun _ _ _ h => h) (by rfl) ?_ (by assumption) ?_
  · intro w' hSw
    skip
    rw [← hGV]
    exact exec_load rfl rfl (load_rs hSw.2 rfl)
  try simp only [Act.put, List.setIfInBounds_toArray, List.set_cons_zero, List.set_cons_succ]
  refine oneL (i := 2) (by kernel_rfl) rfl (fun K hK => ?_)
  go_simp
  refine (CL.out _ S1.out S2.out).mono ?_; rintro e w2 ⟨rfl, hb⟩
  have IF := hide (IF.out.below hb)
  have IG := hide (IG.out.below hb)
  have S1 := hide (S1.out.below hb)
  have S2 := hide (S2.out.below hb)
  have HR := hide (HR.out.below hb)
  have B2 := hide (B1.out.trans (hb.mono B1.out.size))
  clear hb
  have hS2 : (fun w' => IsB w' H #[.int .i64 f0, .int .u64 f1, .int .i64 f2, .int .i64 f3, .int .u64 f4, .int .i64 f5, .int .u64 f6, .int .i64 f7, .int .i64 f8, .int .u64 f9, .int .i64 fa, .int .u64 fb, .bool fc, .int .i64 fd, .int .i64 fe, .slice va n1 vc] 34 ∧ IsB w' (H + 1) #[.int .i64 g0, .int .u64 g1, .int .i64 g2, .int .i64 g3, .int .u64 g4, .int .i64 g5, .int .u64 g6, .int .i64 g7, .int .i64 g8, .int .u64 g9, .int .i64 ga, .int .u64 gb, .bool gc, .int .i64 gd, .int .i64 ge, .slice va2 n2 vc2] 34) w2 := ⟨IF.out, IG.out⟩
  refine hK.out _ _ ?_ ?_
  · exact hS2
  clear hK K
  try simp only [Act.put, List.setIfInBounds_toArray, List.set_cons_zero, List.set_cons_succ]
  clear hHeld
  have hHeld := hS2
  clear hS2
  refine oneL (i := 5) (by kernel_rfl) rfl (fun K hK => ?_)
  go_simp
  refine (CR.out _ S1.out S2.out).mono ?_; rintro e w3 ⟨rfl, hb⟩
  have IF := hide (IF.out.below hb)
  have IG := hide (IG.out.below hb)
  have S1 := hide (S1.out.below hb)
  have S2 := hide (S2.out.below hb)
  have HR := hide (HR.out.below hb)
  have B3 := hide (B2.out.trans (hb.mono B2.out.size))
  clear hb
  have hS3 : (fun w' => IsB w' H #[.int .i64 f0, .int .u64 f1, .int .i64 f2, .int .i64 f3, .int .u64 f4, .int .i64 f5, .int .u64 f6, .int .i64 f7, .int .i64 f8, .int .u64 f9, .int .i64 fa, .int .u64 fb, .bool fc, .int .i64 fd, .int .i64 fe, .slice va n1 vc] 34 ∧ IsB w' (H + 1) #[.int .i64 g0, .int .u64 g1, .int .i64 g2, .int .i64 g3, .int .u64 g4, .int .i64 g5, .int .u64 g6, .int .i64 g7, .int .i64 g8, .int .u64 g9, .int .i64 ga, .int .u64 gb, .bool gc, .int .i64 gd, .int .i64 ge, .slice va2 n2 vc2] 34) w3 := ⟨IF.out, IG.out⟩
  refine hK.out _ _ ?_ ?_
  · exact hS3
  clear hK K
  try simp only [Act.put, List.setIfInBounds_toArray, List.set_cons_zero, List.set_cons_succ]
  clear hHeld
  have hHeld := hS3
  clear hS3
  refine pickA (v := .bool true) 6 (some 22) rfl rfl (by kernel_rfl) (by kernel_rfl) (by kernel_rfl) (by decide) (fun _ _ _ h => h) (by rfl) ?_ (by assumption) ?_
  · intro w'
    go_simp
    try simp
  try simp only [Act.put, List.setIfInBounds_toArray, List.set_cons_zero, List.set_cons_succ]
  refine pickA (v := ?_) 7 (some 23) rfl rfl (by kernel_rfl) (by kernel_rfl) (by kernel_rfl) (by decide) (fun _ _ _ h => h) (by rfl) ?_ (by assumption) ?_
  rotate_left
  · intro w'
    go_simp
    try with_reducible rfl
  try simp only [Act.put, List.setIfInBounds_toArray, List.set_cons_zero, List.set_cons_succ]
  refine pickL (v := FV) 8 (some 24) rfl rfl (by kernel_rfl) (by kernel_rfl) (by kernel_rfl) (by decide) (by kernel_rfl) (by kernel_rfl) (fun _ _ _ h => h) (by rfl) ?_ (by assumption) ?_
  · intro w' hSw
    skip
    rw [← hFV]
    exact exec_load rfl rfl (load_rs hSw.1 rfl)
  try simp only [Act.put, List.setIfInBounds_toArray, List.set_cons_zero, List.set_cons_succ]
  refine pickL (v := FV) 9 (some 25) rfl rfl (by kernel_rfl) (by kernel_rfl) (by kernel_rfl) (by decide) (by kernel_rfl) (by kernel_rfl) (fun _ _ _ h => h) (by rfl) ?_ (by assumption) ?_
  · intro w' hSw
    skip
    rw [← hFV]
    exact exec_load rfl rfl (load_rs hSw.1 rfl)
  try simp only [Act.put, List.setIfInBounds_toArray, List.set_cons_zero, List.set_cons_succ]
  refine oneL (i := 10) (by kernel_rfl) rfl (fun K hK => ?_)
  go_simp
  refine (CM.out _ S1.out).mono ?_; rintro e w4 ⟨rfl, hb⟩
  have IF := hide (IF.out.below hb)
  have IG := hide (IG.out.below hb)
  have S1 := hide (S1.out.below hb)
  have S2 := hide (S2.out.below hb)
  have HR := hide (HR.out.below hb)
  have B4 := hide (B3.out.trans (hb.mono B3.out.size))
  clear hb
  have hS4 : (fun w' => IsB w' H #[.int .i64 f0, .int .u64 f1, .int .i64 f2, .int .i64 f3, .int .u64 f4, .int .i64 f5, .int .u64 f6, .int .i64 f7, .int .i64 f8, .int .u64 f9, .int .i64 fa, .int .u64 fb, .bool fc, .int .i64 fd, .int .i64 fe, .slice va n1 vc] 34 ∧ IsB w' (H + 1) #[.int .i64 g0, .int .u64 g1, .int .i64 g2, .int .i64 g3, .int .u64 g4, .int .i64 g5, .int .u64 g6, .int .i64 g7, .int .i64 g8, .int .u64 g9, .int .i64 ga, .int .u64 gb, .bool gc, .int .i64 gd, .int .i64 ge, .slice va2 n2 vc2] 34) w4 := ⟨IF.out, IG.out⟩
  refine hK.out _ _ ?_ ?_
  · exact hS4
  clear hK K
  try simp only [Act.put, List.setIfInBounds_toArray, List.set_cons_zero, List.set_cons_succ]
  clear hHeld
  have hHeld := hS4
  clear hS4
  refine pickA (v := ?_) 11 (some 27) rfl rfl (by kernel_rfl) (by kernel_rfl) (by kernel_rfl) (by decide) (fun _ _ _ h => h) (by rfl) ?_ (by assumption) ?_
  rotate_left
  · intro w'
    go_simp
    try with_reducible rfl
  try simp only [Act.put, List.setIfInBounds_toArray, List.set_cons_zero, List.set_cons_succ]
  refine pickA (v := ?_) 12 (some 28) rfl rfl (by kernel_rfl) (by kernel_rfl) (by kernel_rfl) (by decide) (fun _ _ _ h => h) (by rfl) ?_ (by assumption) ?_
  rotate_left
  · intro w'
    go_simp
    try with_reducible rfl
  try simp only [Act.put, List.setIfInBounds_toArray, List.set_cons_zero, List.set_cons_succ]
  refine oneL (i := 13) (by kernel_rfl) rfl (fun K hK => ?_)
  go_simp
  refine (awake_any _ HR.out).mono ?_; rintro e w5 ⟨rfl, hb⟩
  have IF := hide (IF.out.below hb)
  have IG := hide (IG.out.below hb)
  have S1 := hide (S1.out.below hb)
  have S2 := hide (S2.out.below hb)
  have HR := hide (HR.out.below hb)
  have B5 := hide (B4.out.trans (hb.mono B4.out.size))
  clear hb
  have hS5 : (fun w' => IsB w' H #[.int .i64 f0, .int .u64 f1, .int .i64 f2, .int .i64 f3, .int .u64 f4, .int .i64 f5, .int .u64 f6, .int .i64 f7, .int .i64 f8, .int .u64 f9, .int .i64 fa, .int .u64 fb, .bool fc, .int .i64 fd, .int .i64 fe, .slice va n1 vc] 34 ∧ IsB w' (H + 1) #[.int .i64 g0, .int .u64 g1, .int .i64 g2, .int .i64 g3, .int .u64 g4, .int .i64 g5, .int .u64 g6, .int .i64 g7, .int .i64 g8, .int .u64 g9, .int .i64 ga, .int .u64 gb, .bool gc, .int .i64 gd, .int .i64 ge, .slice va2 n2 vc2] 34) w5 := ⟨IF.out, IG.out⟩
  refine hK.out _ _ ?_ ?_
  · exact hS5
  clear hK K
  try simp only [Act.put, List.setIfInBounds_toArray, List.set_cons_zero, List.set_cons_succ]
  clear hHeld
  have hHeld := hS5
  clear hS5
  refine pickA (v := ?_) 14 (some 30) rfl rfl (by kernel_rfl) (by kernel_rfl) (by kernel_rfl) (by decide) (fun _ _ _ h => h) (by rfl) ?_ (by assumption) ?_
  rotate_left
  · intro w'
    go_simp
    try with_reducible rfl
  try simp only [Act.put, List.setIfInBounds_toArray, List.set_cons_zero, List.set_cons_succ]
  refine pickA (v := ?_) 15 (some 4) rfl rfl (by kernel_rfl) (by kernel_rfl) (by kernel_rfl) (by decide) (fun _ _ _ h => h) (by rfl) ?_ (by assumption) ?_
  rotate_left
  · intro w'
    go_simp
    try with_reducible rfl
  try simp only [Act.put, List.setIfInBounds_toArray, List.set_cons_zero, List.set_cons_succ]
  refine doneL (by kernel_rfl) ?_ _
  clear hHeld
  go_wp2
  go_ret
  exact ⟨rfl, B5.out⟩

theorem linkSame_walk (f0 f1 f2 f3 f4 f5 f6 f7 f8 f9 fa fb : Int) (fc : Bool) (fd fe : Int) (g0 g1 g2 g3 g4 g5 g6 g7 g8 g9 ga gb : Int) (gc : Bool) (gd ge : Int) (v1 v2 : Value) (l1 l2 : List Ow) (w : World) (hR : Ranks w) (h1 : SlR w v1 l1) (h2 : SlR w v2 l2) : Calls Tryd.prog 3 #[.agg #[.int .i64 f0, .int .u64 f1, .int .i64 f2, .int .i64 f3, .int .u64 f4, .int .i64 f5, .int .u64 f6, .int .i64 f7, .int .i64 f8, .int .u64 f9, .int .i64 fa, .int .u64 fb, .bool fc, .int .i64 fd, .int .i64 fe, v1], .agg #[.int .i64 g0, .int .u64 g1, .int .i64 g2, .int .i64 g3, .int .u64 g4, .int .i64 g5, .int .u64 g6, .int .i64 g7, .int .i64 g8, .int .u64 g9, .int .i64 ga, .int .u64 gb, .bool gc, .int .i64 gd, .int .i64 ge, v2]] w fun e w' => e = .returned (.bool true) ∧ Below w.heap.size w w' := by
  rcases Nat.lt_or_ge 200 l1.length with hg | hg
  · exact linkSame_big1 f0 f1 f2 f3 f4 f5 f6 f7 f8 f9 fa fb fc fd fe g0 g1 g2 g3 g4 g5 g6 g7 g8 g9 ga gb gc gd ge v1 v2 l1 l2 w hR h1 h2 hg
  · rcases Nat.lt_or_ge 200 l2.length with hk | hk
    · exact linkSame_big2 f0 f1 f2 f3 f4 f5 f6 f7 f8 f9 fa fb fc fd fe g0 g1 g2 g3 g4 g5 g6 g7 g8 g9 ga gb gc gd ge v1 v2 l1 l2 w hR h1 h2 hg hk
    · exact linkSame_small f0 f1 f2 f3 f4 f5 f6 f7 f8 f9 fa fb fc fd fe g0 g1 g2 g3 g4 g5 g6 g7 g8 g9 ga gb gc gd ge v1 v2 l1 l2 w hR h1 h2 hg hk

end Go.Proofs.YtledkljffjomdaaDoor
