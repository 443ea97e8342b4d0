/- LinkNobody: the law walked. -/
import Derived.Test.YtledkljffjomdaaDoorJC
namespace Go.Proofs.YtledkljffjomdaaDoor
open Go.RowKit Go.Maps

set_option maxHeartbeats 8000000 in
set_option maxRecDepth 100000 in
theorem linkNobody_walk (k x y a0 a1 a2 a3 a4 b0 b1 b2 b3 b4 oa oo : Int) (w : World) (hR : Ranks w) : Calls Tryd.prog 7 #[.agg #[.int .i64 k, .int .i64 x, .int .u64 y, .int .i64 a0, .int .i64 a1, .int .u64 a2, .int .i64 a3, .int .u64 a4, .int .i64 b0, .int .i64 b1, .int .u64 b2, .int .i64 b3, .int .u64 b4, .int .i64 oa, .int .i64 oo]] w fun e w' => e = .returned (.bool true) ∧ Below w.heap.size w w' := by
  have hO0 := IsB.new w #[.int .i64 k, .int .i64 x, .int .u64 y, .int .i64 a0, .int .i64 a1, .int .u64 a2, .int .i64 a3, .int .u64 a4, .int .i64 b0, .int .i64 b1, .int .u64 b2, .int .i64 b3, .int .u64 b4, .int .i64 oa, .int .i64 oo] 48
  have hZ0 := IsB.new (w.alloc (.cells #[.int .i64 k, .int .i64 x, .int .u64 y, .int .i64 a0, .int .i64 a1, .int .u64 a2, .int .i64 a3, .int .u64 a4, .int .i64 b0, .int .i64 b1, .int .u64 b2, .int .i64 b3, .int .u64 b4, .int .i64 oa, .int .i64 oo] 48)) #[.int .i64 0, .int .i64 0, .int .u64 0, .int .i64 0, .int .u64 0, .map none] 61
  have hL0 := IsB.new ((w.alloc (.cells #[.int .i64 k, .int .i64 x, .int .u64 y, .int .i64 a0, .int .i64 a1, .int .u64 a2, .int .i64 a3, .int .u64 a4, .int .i64 b0, .int .i64 b1, .int .u64 b2, .int .i64 b3, .int .u64 b4, .int .i64 oa, .int .i64 oo] 48)).alloc (.cells #[.int .i64 0, .int .i64 0, .int .u64 0, .int .i64 0, .int .u64 0, .map none] 61)) #[.pointer none, .pointer (some ⟨w.heap.size + 1, 0, none⟩)] 38
  have bb1 := (Below.refl _ (w.alloc (.cells #[.int .i64 k, .int .i64 x, .int .u64 y, .int .i64 a0, .int .i64 a1, .int .u64 a2, .int .i64 a3, .int .u64 a4, .int .i64 b0, .int .i64 b1, .int .u64 b2, .int .i64 b3, .int .u64 b4, .int .i64 oa, .int .i64 oo] 48))).alloc (Nat.le_refl _) (.cells #[.int .i64 0, .int .i64 0, .int .u64 0, .int .i64 0, .int .u64 0, .map none] 61)
  have bb2 := (Below.refl _ ((w.alloc (.cells #[.int .i64 k, .int .i64 x, .int .u64 y, .int .i64 a0, .int .i64 a1, .int .u64 a2, .int .i64 a3, .int .u64 a4, .int .i64 b0, .int .i64 b1, .int .u64 b2, .int .i64 b3, .int .u64 b4, .int .i64 oa, .int .i64 oo] 48)).alloc (.cells #[.int .i64 0, .int .i64 0, .int .u64 0, .int .i64 0, .int .u64 0, .map none] 61))).alloc (Nat.le_refl _) (.cells #[.pointer none, .pointer (some ⟨w.heap.size + 1, 0, none⟩)] 38)
  have hO := hide ((hO0.below bb1).below bb2)
  have hZ := hide (hZ0.below bb2)
  have hL := hide hL0
  have hW0 : Hid (Below w.heap.size w (((w.alloc (.cells #[.int .i64 k, .int .i64 x, .int .u64 y, .int .i64 a0, .int .i64 a1, .int .u64 a2, .int .i64 a3, .int .u64 a4, .int .i64 b0, .int .i64 b1, .int .u64 b2, .int .i64 b3, .int .u64 b4, .int .i64 oa, .int .i64 oo] 48)).alloc (.cells #[.int .i64 0, .int .i64 0, .int .u64 0, .int .i64 0, .int .u64 0, .map none] 61)).alloc (.cells #[.pointer none, .pointer (some ⟨w.heap.size + 1, 0, none⟩)] 38))) := ((((Below.refl w.heap.size w).alloc (Nat.le_refl _) (.cells #[.int .i64 k, .int .i64 x, .int .u64 y, .int .i64 a0, .int .i64 a1, .int .u64 a2, .int .i64 a3, .int .u64 a4, .int .i64 b0, .int .i64 b1, .int .u64 b2, .int .i64 b3, .int .u64 b4, .int .i64 oa, .int .i64 oo] 48)).alloc (by simp) (.cells #[.int .i64 0, .int .i64 0, .int .u64 0, .int .i64 0, .int .u64 0, .map none] 61)).alloc (by simp; omega) (.cells #[.pointer none, .pointer (some ⟨w.heap.size + 1, 0, none⟩)] 38))
  have HR := hide (hR.below hW0.out)
  clear hO0 hZ0 hL0 bb1 bb2 hR
  go_enter Tryd.func7, Tryd.ntmps7
  go_wp2
  simp only [World.size_alloc] at hO hZ hL
  generalize (((w.alloc (.cells #[.int .i64 k, .int .i64 x, .int .u64 y, .int .i64 a0, .int .i64 a1, .int .u64 a2, .int .i64 a3, .int .u64 a4, .int .i64 b0, .int .i64 b1, .int .u64 b2, .int .i64 b3, .int .u64 b4, .int .i64 oa, .int .i64 oo] 48)).alloc (.cells #[.int .i64 0, .int .i64 0, .int .u64 0, .int .i64 0, .int .u64 0, .map none] 61)).alloc (.cells #[.pointer none, .pointer (some ⟨w.heap.size + 1, 0, none⟩)] 38)) = W0 at hO hZ hL hW0 HR ⊢
  generalize hOe : w.heap.size = O at hO hZ hL ⊢
  generalize hZe : O + 1 = Z at hZ hL ⊢
  replace hOe := hide hOe
  replace hZe := hide hZe
  go_loopw [20] (fun i wr => ∃ j : Nat, j ≤ 2 ∧ i = .int .i64 (j : Int) ∧ Below W0.heap.size W0 wr) (fun i _ => 2 - (intOf i).toNat)
  case atStart => exact ⟨0, by omega, rfl, Below.refl _ _⟩
  case round =>
    obtain ⟨j, hj, rfl, hb⟩ := hrel
    have HB := hide hb
    clear hb
    by_cases hlt : j < 2
    · obtain ⟨p, hp, hNo⟩ : ∃ p, wr.cell? ⟨Z + 1, j, none⟩ = some p ∧ NoLinks wr p := by
        have hL1 := hL.out.below HB.out
        have : j = 0 ∨ j = 1 := by omega
        rcases this with rfl | rfl
        · exact ⟨_, hL1.cell 0, Or.inl rfl⟩
        · exact ⟨_, hL1.cell 1, Or.inr ⟨Z, rfl, hZ.out.below HB.out⟩⟩
      have N := hide hNo
      clear hNo
      have o0 : wr.cell? ⟨O, 0, none⟩ = some (.int .i64 k) := (hO.out.below HB.out).cell 0
      have o1 : wr.cell? ⟨O, 1, none⟩ = some (.int .i64 x) := (hO.out.below HB.out).cell 1
      have o2 : wr.cell? ⟨O, 2, none⟩ = some (.int .u64 y) := (hO.out.below HB.out).cell 2
      have o3 : wr.cell? ⟨O, 3, none⟩ = some (.int .i64 a0) := (hO.out.below HB.out).cell 3
      have o4 : wr.cell? ⟨O, 4, none⟩ = some (.int .i64 a1) := (hO.out.below HB.out).cell 4
      have o5 : wr.cell? ⟨O, 5, none⟩ = some (.int .u64 a2) := (hO.out.below HB.out).cell 5
      have o6 : wr.cell? ⟨O, 6, none⟩ = some (.int .i64 a3) := (hO.out.below HB.out).cell 6
      have o7 : wr.cell? ⟨O, 7, none⟩ = some (.int .u64 a4) := (hO.out.below HB.out).cell 7
      have o8 : wr.cell? ⟨O, 8, none⟩ = some (.int .i64 b0) := (hO.out.below HB.out).cell 8
      have o9 : wr.cell? ⟨O, 9, none⟩ = some (.int .i64 b1) := (hO.out.below HB.out).cell 9
      have o10 : wr.cell? ⟨O, 10, none⟩ = some (.int .u64 b2) := (hO.out.below HB.out).cell 10
      have o11 : wr.cell? ⟨O, 11, none⟩ = some (.int .i64 b3) := (hO.out.below HB.out).cell 11
      have o12 : wr.cell? ⟨O, 12, none⟩ = some (.int .u64 b4) := (hO.out.below HB.out).cell 12
      have o13 : wr.cell? ⟨O, 13, none⟩ = some (.int .i64 oa) := (hO.out.below HB.out).cell 13
      have o14 : wr.cell? ⟨O, 14, none⟩ = some (.int .i64 oo) := (hO.out.below HB.out).cell 14
      have olt : O < wr.heap.size := (hO.out.below HB.out).lt
      go_wp2_with fail
      clear o0 o1 o2 o3 o4 o5 o6 o7 o8 o9 o10 o11 o12 o13 o14 olt
      clear hp
      refine (get_no p x y wr N.out).mono ?_; rintro e w1 ⟨rfl, hb⟩
      have HB0 := HB
      have HB := hide (HB0.out.trans (hb.mono HB0.out.size))
      have o0 : w1.cell? ⟨O, 0, none⟩ = some (.int .i64 k) := (hO.out.below HB.out).cell 0
      have o1 : w1.cell? ⟨O, 1, none⟩ = some (.int .i64 x) := (hO.out.below HB.out).cell 1
      have o2 : w1.cell? ⟨O, 2, none⟩ = some (.int .u64 y) := (hO.out.below HB.out).cell 2
      have o3 : w1.cell? ⟨O, 3, none⟩ = some (.int .i64 a0) := (hO.out.below HB.out).cell 3
      have o4 : w1.cell? ⟨O, 4, none⟩ = some (.int .i64 a1) := (hO.out.below HB.out).cell 4
      have o5 : w1.cell? ⟨O, 5, none⟩ = some (.int .u64 a2) := (hO.out.below HB.out).cell 5
      have o6 : w1.cell? ⟨O, 6, none⟩ = some (.int .i64 a3) := (hO.out.below HB.out).cell 6
      have o7 : w1.cell? ⟨O, 7, none⟩ = some (.int .u64 a4) := (hO.out.below HB.out).cell 7
      have o8 : w1.cell? ⟨O, 8, none⟩ = some (.int .i64 b0) := (hO.out.below HB.out).cell 8
      have o9 : w1.cell? ⟨O, 9, none⟩ = some (.int .i64 b1) := (hO.out.below HB.out).cell 9
      have o10 : w1.cell? ⟨O, 10, none⟩ = some (.int .u64 b2) := (hO.out.below HB.out).cell 10
      have o11 : w1.cell? ⟨O, 11, none⟩ = some (.int .i64 b3) := (hO.out.below HB.out).cell 11
      have o12 : w1.cell? ⟨O, 12, none⟩ = some (.int .u64 b4) := (hO.out.below HB.out).cell 12
      have o13 : w1.cell? ⟨O, 13, none⟩ = some (.int .i64 oa) := (hO.out.below HB.out).cell 13
      have o14 : w1.cell? ⟨O, 14, none⟩ = some (.int .i64 oo) := (hO.out.below HB.out).cell 14
      have olt : O < w1.heap.size := (hO.out.below HB.out).lt
      have hba := hb.trans (((Below.refl w1.heap.size w1).alloc (Nat.le_refl _) (.cells #[.int .i64 0, .int .u64 0, .int .i64 0, .int .i64 0, .int .u64 0, .int .i64 0, .int .u64 0, .int .i64 0, .int .i64 0, .int .u64 0, .int .i64 0, .int .u64 0, .bool false, .int .i64 0, .int .i64 0, .slice none 0 0] 34)).mono hb.size)
      have N := hide (N.out.below hba)
      have IR := hide (IsB.new w1 #[.int .i64 0, .int .u64 0, .int .i64 0, .int .i64 0, .int .u64 0, .int .i64 0, .int .u64 0, .int .i64 0, .int .i64 0, .int .u64 0, .int .i64 0, .int .u64 0, .bool false, .int .i64 0, .int .i64 0, .slice none 0 0] 34)
      have HBn := hide (HB0.out.trans (hba.mono HB0.out.size))
      clear hb hba HB0
      go_wp2_with fail
      clear HB
      have HB := HBn
      clear HBn
      generalize w1.alloc (.cells #[.int .i64 0, .int .u64 0, .int .i64 0, .int .i64 0, .int .u64 0, .int .i64 0, .int .u64 0, .int .i64 0, .int .i64 0, .int .u64 0, .int .i64 0, .int .u64 0, .bool false, .int .i64 0, .int .i64 0, .slice none 0 0] 34) = W1 at HB N IR ⊢
      generalize w1.heap.size = RB at *
      clear o0 o1 o2 o3 o4 o5 o6 o7 o8 o9 o10 o11 o12 o13 o14 olt
      refine (out_no p x y oa oo W1 N.out).mono ?_; rintro e w2 ⟨rfl, hb⟩
      have HB := hide (HB.out.trans (hb.mono HB.out.size))
      have N := hide (N.out.below hb)
      have IR := hide (IR.out.below hb)
      clear hb
      have o0 : w2.cell? ⟨O, 0, none⟩ = some (.int .i64 k) := (hO.out.below HB.out).cell 0
      have o1 : w2.cell? ⟨O, 1, none⟩ = some (.int .i64 x) := (hO.out.below HB.out).cell 1
      have o2 : w2.cell? ⟨O, 2, none⟩ = some (.int .u64 y) := (hO.out.below HB.out).cell 2
      have o3 : w2.cell? ⟨O, 3, none⟩ = some (.int .i64 a0) := (hO.out.below HB.out).cell 3
      have o4 : w2.cell? ⟨O, 4, none⟩ = some (.int .i64 a1) := (hO.out.below HB.out).cell 4
      have o5 : w2.cell? ⟨O, 5, none⟩ = some (.int .u64 a2) := (hO.out.below HB.out).cell 5
      have o6 : w2.cell? ⟨O, 6, none⟩ = some (.int .i64 a3) := (hO.out.below HB.out).cell 6
      have o7 : w2.cell? ⟨O, 7, none⟩ = some (.int .u64 a4) := (hO.out.below HB.out).cell 7
      have o8 : w2.cell? ⟨O, 8, none⟩ = some (.int .i64 b0) := (hO.out.below HB.out).cell 8
      have o9 : w2.cell? ⟨O, 9, none⟩ = some (.int .i64 b1) := (hO.out.below HB.out).cell 9
      have o10 : w2.cell? ⟨O, 10, none⟩ = some (.int .u64 b2) := (hO.out.below HB.out).cell 10
      have o11 : w2.cell? ⟨O, 11, none⟩ = some (.int .i64 b3) := (hO.out.below HB.out).cell 11
      have o12 : w2.cell? ⟨O, 12, none⟩ = some (.int .u64 b4) := (hO.out.below HB.out).cell 12
      have o13 : w2.cell? ⟨O, 13, none⟩ = some (.int .i64 oa) := (hO.out.below HB.out).cell 13
      have o14 : w2.cell? ⟨O, 14, none⟩ = some (.int .i64 oo) := (hO.out.below HB.out).cell 14
      have olt : O < w2.heap.size := (hO.out.below HB.out).lt
      go_wp2_with fail
      clear o0 o1 o2 o3 o4 o5 o6 o7 o8 o9 o10 o11 o12 o13 o14 olt
      refine (lock_no p x y oa oo w2 N.out).mono ?_; rintro e w3 ⟨rfl, hb⟩
      have HB := hide (HB.out.trans (hb.mono HB.out.size))
      have N := hide (N.out.below hb)
      have IR := hide (IR.out.below hb)
      clear hb
      have o0 : w3.cell? ⟨O, 0, none⟩ = some (.int .i64 k) := (hO.out.below HB.out).cell 0
      have o1 : w3.cell? ⟨O, 1, none⟩ = some (.int .i64 x) := (hO.out.below HB.out).cell 1
      have o2 : w3.cell? ⟨O, 2, none⟩ = some (.int .u64 y) := (hO.out.below HB.out).cell 2
      have o3 : w3.cell? ⟨O, 3, none⟩ = some (.int .i64 a0) := (hO.out.below HB.out).cell 3
      have o4 : w3.cell? ⟨O, 4, none⟩ = some (.int .i64 a1) := (hO.out.below HB.out).cell 4
      have o5 : w3.cell? ⟨O, 5, none⟩ = some (.int .u64 a2) := (hO.out.below HB.out).cell 5
      have o6 : w3.cell? ⟨O, 6, none⟩ = some (.int .i64 a3) := (hO.out.below HB.out).cell 6
      have o7 : w3.cell? ⟨O, 7, none⟩ = some (.int .u64 a4) := (hO.out.below HB.out).cell 7
      have o8 : w3.cell? ⟨O, 8, none⟩ = some (.int .i64 b0) := (hO.out.below HB.out).cell 8
      have o9 : w3.cell? ⟨O, 9, none⟩ = some (.int .i64 b1) := (hO.out.below HB.out).cell 9
      have o10 : w3.cell? ⟨O, 10, none⟩ = some (.int .u64 b2) := (hO.out.below HB.out).cell 10
      have o11 : w3.cell? ⟨O, 11, none⟩ = some (.int .i64 b3) := (hO.out.below HB.out).cell 11
      have o12 : w3.cell? ⟨O, 12, none⟩ = some (.int .u64 b4) := (hO.out.below HB.out).cell 12
      have o13 : w3.cell? ⟨O, 13, none⟩ = some (.int .i64 oa) := (hO.out.below HB.out).cell 13
      have o14 : w3.cell? ⟨O, 14, none⟩ = some (.int .i64 oo) := (hO.out.below HB.out).cell 14
      have olt : O < w3.heap.size := (hO.out.below HB.out).lt
      go_wp2_with fail
      clear o0 o1 o2 o3 o4 o5 o6 o7 o8 o9 o10 o11 o12 o13 o14 olt
      refine (lfree_no p x y oa oo w3 N.out).mono ?_; rintro e w4 ⟨rfl, hb⟩
      have HB0 := HB
      have HB := hide (HB0.out.trans (hb.mono HB0.out.size))
      have o0 : w4.cell? ⟨O, 0, none⟩ = some (.int .i64 k) := (hO.out.below HB.out).cell 0
      have o1 : w4.cell? ⟨O, 1, none⟩ = some (.int .i64 x) := (hO.out.below HB.out).cell 1
      have o2 : w4.cell? ⟨O, 2, none⟩ = some (.int .u64 y) := (hO.out.below HB.out).cell 2
      have o3 : w4.cell? ⟨O, 3, none⟩ = some (.int .i64 a0) := (hO.out.below HB.out).cell 3
      have o4 : w4.cell? ⟨O, 4, none⟩ = some (.int .i64 a1) := (hO.out.below HB.out).cell 4
      have o5 : w4.cell? ⟨O, 5, none⟩ = some (.int .u64 a2) := (hO.out.below HB.out).cell 5
      have o6 : w4.cell? ⟨O, 6, none⟩ = some (.int .i64 a3) := (hO.out.below HB.out).cell 6
      have o7 : w4.cell? ⟨O, 7, none⟩ = some (.int .u64 a4) := (hO.out.below HB.out).cell 7
      have o8 : w4.cell? ⟨O, 8, none⟩ = some (.int .i64 b0) := (hO.out.below HB.out).cell 8
      have o9 : w4.cell? ⟨O, 9, none⟩ = some (.int .i64 b1) := (hO.out.below HB.out).cell 9
      have o10 : w4.cell? ⟨O, 10, none⟩ = some (.int .u64 b2) := (hO.out.below HB.out).cell 10
      have o11 : w4.cell? ⟨O, 11, none⟩ = some (.int .i64 b3) := (hO.out.below HB.out).cell 11
      have o12 : w4.cell? ⟨O, 12, none⟩ = some (.int .u64 b4) := (hO.out.below HB.out).cell 12
      have o13 : w4.cell? ⟨O, 13, none⟩ = some (.int .i64 oa) := (hO.out.below HB.out).cell 13
      have o14 : w4.cell? ⟨O, 14, none⟩ = some (.int .i64 oo) := (hO.out.below HB.out).cell 14
      have olt : O < w4.heap.size := (hO.out.below HB.out).lt
      have hba := hb.trans (((Below.refl w4.heap.size w4).alloc (Nat.le_refl _) (.cells #[.int .i64 0, .int .i64 0] 31)).mono hb.size)
      have N := hide (N.out.below hba)
      have IR := hide (IR.out.below hba)
      have IF := hide (IsB.new w4 #[.int .i64 0, .int .i64 0] 31)
      have HBn := hide (HB0.out.trans (hba.mono HB0.out.size))
      clear hb hba HB0
      go_wp2_with fail
      clear HB
      have HB := HBn
      clear HBn
      generalize w4.alloc (.cells #[.int .i64 0, .int .i64 0] 31) = W4 at HB N IR IF ⊢
      generalize w4.heap.size = FB at *
      clear o0 o1 o2 o3 o4 o5 o6 o7 o8 o9 o10 o11 o12 o13 o14 olt
      refine (put_no p x y a0 a1 a2 a3 a4 b0 b1 b2 b3 b4 oa oo W4 N.out).mono ?_; rintro e w5 ⟨rfl, hb⟩
      have HB := hide (HB.out.trans (hb.mono HB.out.size))
      have N := hide (N.out.below hb)
      have IR := hide (IR.out.below hb)
      have IF := hide (IF.out.below hb)
      clear hb
      have o0 : w5.cell? ⟨O, 0, none⟩ = some (.int .i64 k) := (hO.out.below HB.out).cell 0
      have o1 : w5.cell? ⟨O, 1, none⟩ = some (.int .i64 x) := (hO.out.below HB.out).cell 1
      have o2 : w5.cell? ⟨O, 2, none⟩ = some (.int .u64 y) := (hO.out.below HB.out).cell 2
      have o3 : w5.cell? ⟨O, 3, none⟩ = some (.int .i64 a0) := (hO.out.below HB.out).cell 3
      have o4 : w5.cell? ⟨O, 4, none⟩ = some (.int .i64 a1) := (hO.out.below HB.out).cell 4
      have o5 : w5.cell? ⟨O, 5, none⟩ = some (.int .u64 a2) := (hO.out.below HB.out).cell 5
      have o6 : w5.cell? ⟨O, 6, none⟩ = some (.int .i64 a3) := (hO.out.below HB.out).cell 6
      have o7 : w5.cell? ⟨O, 7, none⟩ = some (.int .u64 a4) := (hO.out.below HB.out).cell 7
      have o8 : w5.cell? ⟨O, 8, none⟩ = some (.int .i64 b0) := (hO.out.below HB.out).cell 8
      have o9 : w5.cell? ⟨O, 9, none⟩ = some (.int .i64 b1) := (hO.out.below HB.out).cell 9
      have o10 : w5.cell? ⟨O, 10, none⟩ = some (.int .u64 b2) := (hO.out.below HB.out).cell 10
      have o11 : w5.cell? ⟨O, 11, none⟩ = some (.int .i64 b3) := (hO.out.below HB.out).cell 11
      have o12 : w5.cell? ⟨O, 12, none⟩ = some (.int .u64 b4) := (hO.out.below HB.out).cell 12
      have o13 : w5.cell? ⟨O, 13, none⟩ = some (.int .i64 oa) := (hO.out.below HB.out).cell 13
      have o14 : w5.cell? ⟨O, 14, none⟩ = some (.int .i64 oo) := (hO.out.below HB.out).cell 14
      have olt : O < w5.heap.size := (hO.out.below HB.out).lt
      go_wp2_with fail
      clear o0 o1 o2 o3 o4 o5 o6 o7 o8 o9 o10 o11 o12 o13 o14 olt
      refine (left_no p x y a0 a1 a2 a3 a4 w5 N.out).mono ?_; rintro e w6 ⟨rfl, hb⟩
      have HB := hide (HB.out.trans (hb.mono HB.out.size))
      have N := hide (N.out.below hb)
      have IR := hide (IR.out.below hb)
      have IF := hide (IF.out.below hb)
      clear hb
      have o0 : w6.cell? ⟨O, 0, none⟩ = some (.int .i64 k) := (hO.out.below HB.out).cell 0
      have o1 : w6.cell? ⟨O, 1, none⟩ = some (.int .i64 x) := (hO.out.below HB.out).cell 1
      have o2 : w6.cell? ⟨O, 2, none⟩ = some (.int .u64 y) := (hO.out.below HB.out).cell 2
      have o3 : w6.cell? ⟨O, 3, none⟩ = some (.int .i64 a0) := (hO.out.below HB.out).cell 3
      have o4 : w6.cell? ⟨O, 4, none⟩ = some (.int .i64 a1) := (hO.out.below HB.out).cell 4
      have o5 : w6.cell? ⟨O, 5, none⟩ = some (.int .u64 a2) := (hO.out.below HB.out).cell 5
      have o6 : w6.cell? ⟨O, 6, none⟩ = some (.int .i64 a3) := (hO.out.below HB.out).cell 6
      have o7 : w6.cell? ⟨O, 7, none⟩ = some (.int .u64 a4) := (hO.out.below HB.out).cell 7
      have o8 : w6.cell? ⟨O, 8, none⟩ = some (.int .i64 b0) := (hO.out.below HB.out).cell 8
      have o9 : w6.cell? ⟨O, 9, none⟩ = some (.int .i64 b1) := (hO.out.below HB.out).cell 9
      have o10 : w6.cell? ⟨O, 10, none⟩ = some (.int .u64 b2) := (hO.out.below HB.out).cell 10
      have o11 : w6.cell? ⟨O, 11, none⟩ = some (.int .i64 b3) := (hO.out.below HB.out).cell 11
      have o12 : w6.cell? ⟨O, 12, none⟩ = some (.int .u64 b4) := (hO.out.below HB.out).cell 12
      have o13 : w6.cell? ⟨O, 13, none⟩ = some (.int .i64 oa) := (hO.out.below HB.out).cell 13
      have o14 : w6.cell? ⟨O, 14, none⟩ = some (.int .i64 oo) := (hO.out.below HB.out).cell 14
      have olt : O < w6.heap.size := (hO.out.below HB.out).lt
      go_wp2_with fail
      clear o0 o1 o2 o3 o4 o5 o6 o7 o8 o9 o10 o11 o12 o13 o14 olt
      refine (right_no p x y a0 a1 a2 a3 a4 oa oo w6 N.out).mono ?_; rintro e w7 ⟨rfl, hb⟩
      have HB := hide (HB.out.trans (hb.mono HB.out.size))
      have N := hide (N.out.below hb)
      have IR := hide (IR.out.below hb)
      have IF := hide (IF.out.below hb)
      clear hb
      have o0 : w7.cell? ⟨O, 0, none⟩ = some (.int .i64 k) := (hO.out.below HB.out).cell 0
      have o1 : w7.cell? ⟨O, 1, none⟩ = some (.int .i64 x) := (hO.out.below HB.out).cell 1
      have o2 : w7.cell? ⟨O, 2, none⟩ = some (.int .u64 y) := (hO.out.below HB.out).cell 2
      have o3 : w7.cell? ⟨O, 3, none⟩ = some (.int .i64 a0) := (hO.out.below HB.out).cell 3
      have o4 : w7.cell? ⟨O, 4, none⟩ = some (.int .i64 a1) := (hO.out.below HB.out).cell 4
      have o5 : w7.cell? ⟨O, 5, none⟩ = some (.int .u64 a2) := (hO.out.below HB.out).cell 5
      have o6 : w7.cell? ⟨O, 6, none⟩ = some (.int .i64 a3) := (hO.out.below HB.out).cell 6
      have o7 : w7.cell? ⟨O, 7, none⟩ = some (.int .u64 a4) := (hO.out.below HB.out).cell 7
      have o8 : w7.cell? ⟨O, 8, none⟩ = some (.int .i64 b0) := (hO.out.below HB.out).cell 8
      have o9 : w7.cell? ⟨O, 9, none⟩ = some (.int .i64 b1) := (hO.out.below HB.out).cell 9
      have o10 : w7.cell? ⟨O, 10, none⟩ = some (.int .u64 b2) := (hO.out.below HB.out).cell 10
      have o11 : w7.cell? ⟨O, 11, none⟩ = some (.int .i64 b3) := (hO.out.below HB.out).cell 11
      have o12 : w7.cell? ⟨O, 12, none⟩ = some (.int .u64 b4) := (hO.out.below HB.out).cell 12
      have o13 : w7.cell? ⟨O, 13, none⟩ = some (.int .i64 oa) := (hO.out.below HB.out).cell 13
      have o14 : w7.cell? ⟨O, 14, none⟩ = some (.int .i64 oo) := (hO.out.below HB.out).cell 14
      have olt : O < w7.heap.size := (hO.out.below HB.out).lt
      go_wp2_with fail
      clear o0 o1 o2 o3 o4 o5 o6 o7 o8 o9 o10 o11 o12 o13 o14 olt
      refine (may_no p x y w7 N.out).mono ?_; rintro e w8 ⟨rfl, hb⟩
      have HB := hide (HB.out.trans (hb.mono HB.out.size))
      have N := hide (N.out.below hb)
      have IR := hide (IR.out.below hb)
      have IF := hide (IF.out.below hb)
      clear hb
      have g0 : w8.cell? ⟨FB, 0, none⟩ = some (.int .i64 0) := IF.out.cell 0
      have g1 : w8.cell? ⟨FB, 1, none⟩ = some (.int .i64 0) := IF.out.cell 1
      have r0 : w8.cell? ⟨RB, 0, none⟩ = some (.int .i64 0) := IR.out.cell 0
      have r1 : w8.cell? ⟨RB, 1, none⟩ = some (.int .u64 0) := IR.out.cell 1
      have r2 : w8.cell? ⟨RB, 2, none⟩ = some (.int .i64 0) := IR.out.cell 2
      have r3 : w8.cell? ⟨RB, 3, none⟩ = some (.int .i64 0) := IR.out.cell 3
      have r4 : w8.cell? ⟨RB, 4, none⟩ = some (.int .u64 0) := IR.out.cell 4
      have r5 : w8.cell? ⟨RB, 5, none⟩ = some (.int .i64 0) := IR.out.cell 5
      have r6 : w8.cell? ⟨RB, 6, none⟩ = some (.int .u64 0) := IR.out.cell 6
      have r7 : w8.cell? ⟨RB, 7, none⟩ = some (.int .i64 0) := IR.out.cell 7
      have r8 : w8.cell? ⟨RB, 8, none⟩ = some (.int .i64 0) := IR.out.cell 8
      have r9 : w8.cell? ⟨RB, 9, none⟩ = some (.int .u64 0) := IR.out.cell 9
      have r10 : w8.cell? ⟨RB, 10, none⟩ = some (.int .i64 0) := IR.out.cell 10
      have r11 : w8.cell? ⟨RB, 11, none⟩ = some (.int .u64 0) := IR.out.cell 11
      have r12 : w8.cell? ⟨RB, 12, none⟩ = some (.bool false) := IR.out.cell 12
      have r13 : w8.cell? ⟨RB, 13, none⟩ = some (.int .i64 0) := IR.out.cell 13
      have r14 : w8.cell? ⟨RB, 14, none⟩ = some (.int .i64 0) := IR.out.cell 14
      have r15 : w8.cell? ⟨RB, 15, none⟩ = some (.slice none 0 0) := IR.out.cell 15
      go_wp2_with fail
      clear g0 g1 r0 r1 r2 r3 r4 r5 r6 r7 r8 r9 r10 r11 r12 r13 r14 r15
      refine (rsame_low 0 0 0 0 0 0 0 0 0 0 0 0 false 0 0 0 0 0 0 0 0 0 0 0 0 0 0 false 0 0 (.slice none 0 0) (.slice none 0 0) [] [] (by decide) w8 (Or.inl ⟨rfl, rfl⟩) (Or.inl ⟨rfl, rfl⟩)).mono ?_; rintro e w9 ⟨rfl, hb⟩
      rw [show sameS ((0, 0), (0, 0, 0, 0, 0), (0, 0, 0, 0, 0), false, (0, 0), []) ((0, 0), (0, 0, 0, 0, 0), (0, 0, 0, 0, 0), false, (0, 0), []) = true from sameS_iff.2 rfl]
      have HB := hide (HB.out.trans (hb.mono HB.out.size))
      have N := hide (N.out.below hb)
      clear hb
      go_wp2_with fail
      refine (all_no p w9 N.out).mono ?_; intro e w10 hE1; obtain ⟨rfl, hw⟩ := hE1
      rw [hw]
      clear hw
      go_wp2
      exact ⟨⟨j + 1, by omega, by simp, HB.out⟩, by simp [intOf]; omega⟩
    · obtain rfl : j = 2 := by omega
      go_wp2_with fail
      refine (awake_any wr (HR.out.below HB.out)).mono ?_; rintro e w1 ⟨rfl, hb⟩
      have HB1 := hide (HB.out.trans (hb.mono HB.out.size))
      clear hb
      go_wp2
      go_ret
      exact ⟨rfl, hW0.out.trans (HB1.out.mono hW0.out.size)⟩

end Go.Proofs.YtledkljffjomdaaDoor
