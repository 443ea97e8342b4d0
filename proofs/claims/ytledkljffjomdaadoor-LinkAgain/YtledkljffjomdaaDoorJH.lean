/- LinkApart: the law walked. -/
import Derived.Test.YtledkljffjomdaaDoorJC
import Derived.Test.YtledkljffjomdaaDoorJG
import Derived.Test.YtledkljffjomdaaDoorKLD
namespace Go.Proofs.YtledkljffjomdaaDoor
open Go.RowKit Go.Maps

theorem LK.foot_lt {w : World} {base p m : Nat} {me : Rf} {L : Tb} (h : LK w base p m me L) : ∀ k ∈ foot m L, k < w.heap.size := by
  intro k hk
  rcases mem_foot.1 hk with rfl | ⟨e, he, rfl | rfl⟩
  · exact h.map.lt
  · exact (h.lts e he).1
  · exact (h.lts e he).2
theorem IsB.low {w w' : World} {B b : Nat} {cs : Array Value} {t : TypeId} (h : IsB w b cs t) (hb : Below B w w') (hB : b < B) : IsB w' b cs t := (hb.block b hB).trans h

set_option maxHeartbeats 8000000 in
set_option maxRecDepth 100000 in
theorem linkApart_bad (i0 i1 i2 i3 i4 : Int) (v : Value) (os : List Opv) (k x y a0 a1 a2 a3 a4 b0 b1 b2 b3 b4 oa oo : Int) (u t : Int) (w : World) (hR : Ranks w) (hO : OpsAt w v os) (hb : 0 ≤ i4) (hE : newE (i0, i1, i2, i3, i4) ≠ 0) : Calls Tryd.prog 5 #[.agg #[.int .i64 i0, .int .i64 i1, .int .u64 i2, .int .i64 i3, .int .u64 i4], v, .agg #[.int .i64 k, .int .i64 x, .int .u64 y, .int .i64 a0, .int .i64 a1, .int .u64 a2, .int .i64 a3, .int .u64 a4, .int .i64 b0, .int .i64 b1, .int .u64 b2, .int .i64 b3, .int .u64 b4, .int .i64 oa, .int .i64 oo], .agg #[.int .i64 u, .int .u64 t]] w fun e w' => e = .returned (.bool true) ∧ Below w.heap.size w w' := by
  obtain ⟨va, vc, rfl, hmx, -, -⟩ := id hO
  have B0 : Below w.heap.size w (((w.alloc (.cells #[.int .i64 i0, .int .i64 i1, .int .u64 i2, .int .i64 i3, .int .u64 i4] 29)).alloc (.cells #[.int .i64 k, .int .i64 x, .int .u64 y, .int .i64 a0, .int .i64 a1, .int .u64 a2, .int .i64 a3, .int .u64 a4, .int .i64 b0, .int .i64 b1, .int .u64 b2, .int .i64 b3, .int .u64 b4, .int .i64 oa, .int .i64 oo] 48)).alloc (.cells #[.int .i64 u, .int .u64 t] 24)) := ((((Below.refl w.heap.size w).alloc (Nat.le_refl _) (.cells #[.int .i64 i0, .int .i64 i1, .int .u64 i2, .int .i64 i3, .int .u64 i4] 29)).alloc (by simp) (.cells #[.int .i64 k, .int .i64 x, .int .u64 y, .int .i64 a0, .int .i64 a1, .int .u64 a2, .int .i64 a3, .int .u64 a4, .int .i64 b0, .int .i64 b1, .int .u64 b2, .int .i64 b3, .int .u64 b4, .int .i64 oa, .int .i64 oo] 48)).alloc (by simp; omega) (.cells #[.int .i64 u, .int .u64 t] 24))
  have IM0 := (((IsB.new w #[.int .i64 i0, .int .i64 i1, .int .u64 i2, .int .i64 i3, .int .u64 i4] 29).below ((Below.refl _ _).alloc (Nat.le_refl _) (.cells #[.int .i64 k, .int .i64 x, .int .u64 y, .int .i64 a0, .int .i64 a1, .int .u64 a2, .int .i64 a3, .int .u64 a4, .int .i64 b0, .int .i64 b1, .int .u64 b2, .int .i64 b3, .int .u64 b4, .int .i64 oa, .int .i64 oo] 48))).below ((Below.refl _ _).alloc (Nat.le_refl _) (.cells #[.int .i64 u, .int .u64 t] 24)))
  have IM := hide IM0
  clear IM0
  have IC0 := ((IsB.new (w.alloc (.cells #[.int .i64 i0, .int .i64 i1, .int .u64 i2, .int .i64 i3, .int .u64 i4] 29)) #[.int .i64 k, .int .i64 x, .int .u64 y, .int .i64 a0, .int .i64 a1, .int .u64 a2, .int .i64 a3, .int .u64 a4, .int .i64 b0, .int .i64 b1, .int .u64 b2, .int .i64 b3, .int .u64 b4, .int .i64 oa, .int .i64 oo] 48).below ((Below.refl _ _).alloc (Nat.le_refl _) (.cells #[.int .i64 u, .int .u64 t] 24)))
  simp only [World.size_alloc] at IC0
  have IC := hide IC0
  clear IC0
  have IU0 := (IsB.new ((w.alloc (.cells #[.int .i64 i0, .int .i64 i1, .int .u64 i2, .int .i64 i3, .int .u64 i4] 29)).alloc (.cells #[.int .i64 k, .int .i64 x, .int .u64 y, .int .i64 a0, .int .i64 a1, .int .u64 a2, .int .i64 a3, .int .u64 a4, .int .i64 b0, .int .i64 b1, .int .u64 b2, .int .i64 b3, .int .u64 b4, .int .i64 oa, .int .i64 oo] 48)) #[.int .i64 u, .int .u64 t] 24)
  simp only [World.size_alloc] at IU0
  have IU := hide IU0
  clear IU0
  have B1 := hide B0
  have HR := hide (hR.below B0)
  have HO := hide (hO.below B0)
  clear B0 hR hO
  obtain ⟨n, hn⟩ : ∃ n, os.length = n := ⟨_, rfl⟩
  rw [hn] at HO ⊢
  replace hn := hide hn
  clear hmx
  go_enter Tryd.func5, Tryd.ntmps5
  go_wp2_with fail
  generalize (((w.alloc (.cells #[.int .i64 i0, .int .i64 i1, .int .u64 i2, .int .i64 i3, .int .u64 i4] 29)).alloc (.cells #[.int .i64 k, .int .i64 x, .int .u64 y, .int .i64 a0, .int .i64 a1, .int .u64 a2, .int .i64 a3, .int .u64 a4, .int .i64 b0, .int .i64 b1, .int .u64 b2, .int .i64 b3, .int .u64 b4, .int .i64 oa, .int .i64 oo] 48)).alloc (.cells #[.int .i64 u, .int .u64 t] 24)) = W1 at IM IC IU B1 HR HO ⊢
  generalize hH : w.heap.size = H at IM IC IU ⊢
  replace hH := hide hH
  refine (awake_any _ HR.out).mono ?_; rintro e w2 ⟨rfl, hb2⟩
  have IM := hide (IM.out.below hb2)
  have IC := hide (IC.out.below hb2)
  have IU := hide (IU.out.below hb2)
  have HR := hide (HR.out.below hb2)
  have HO := hide (HO.out.below hb2)
  have B2 := hide (B1.out.trans (hb2.mono B1.out.size))
  clear hb2 B1
  have m0 : w2.cell? ⟨H, 0, none⟩ = some (.int .i64 i0) := IM.out.cell 0
  have m1 : w2.cell? ⟨H, 1, none⟩ = some (.int .i64 i1) := IM.out.cell 1
  have m2 : w2.cell? ⟨H, 2, none⟩ = some (.int .u64 i2) := IM.out.cell 2
  have m3 : w2.cell? ⟨H, 3, none⟩ = some (.int .i64 i3) := IM.out.cell 3
  have m4 : w2.cell? ⟨H, 4, none⟩ = some (.int .u64 i4) := IM.out.cell 4
  go_wp2_with fail
  clear m0 m1 m2 m3 m4
  refine (play_bad i0 i1 i2 i3 i4 hb hE _ os _ HR.out HO.out).mono ?_; rintro e w3 ⟨rfl, hb3⟩
  have B3 := hide (B2.out.trans (hb3.mono B2.out.size))
  clear hb3
  go_wp2
  go_ret
  exact ⟨rfl, B3.out⟩

theorem LK.waits_len {w : World} {base p m : Nat} {me : Rf} {L : Tb} (h : LK w base p m me L) (v : Vc) : (getS v (findC me L v)).2.2.2.2.2.length ≤ 65 := by
  unfold findC
  cases hl : lookL L v with
  | some c =>
    have : c.os.length ≤ 65 := (h.recs _ (lookL_some hl)).ls.len
    simp only [getS, stA, Rc.cn, List.length_tail]
    omega
  | none =>
    simp only []
    split
    · simp [getS, stA, fst]
    · simp [getS]

set_option maxHeartbeats 16000000 in
set_option maxRecDepth 100000 in
theorem linkApart_ok (i0 i1 i2 i3 i4 : Int) (v : Value) (os : List Opv) (k x y a0 a1 a2 a3 a4 b0 b1 b2 b3 b4 oa oo : Int) (u t : Int) (w : World) (hR : Ranks w) (hO : OpsAt w v os) (hb : 0 ≤ i4) (hop : okV (x, y)) (hut : okV (u, t)) (hE : newE (i0, i1, i2, i3, i4) = 0) : Calls Tryd.prog 5 #[.agg #[.int .i64 i0, .int .i64 i1, .int .u64 i2, .int .i64 i3, .int .u64 i4], v, .agg #[.int .i64 k, .int .i64 x, .int .u64 y, .int .i64 a0, .int .i64 a1, .int .u64 a2, .int .i64 a3, .int .u64 a4, .int .i64 b0, .int .i64 b1, .int .u64 b2, .int .i64 b3, .int .u64 b4, .int .i64 oa, .int .i64 oo], .agg #[.int .i64 u, .int .u64 t]] w fun e w' => e = .returned (.bool true) ∧ Below w.heap.size w w' := by
  obtain ⟨va, vc, rfl, hmx, -, -⟩ := id hO
  have B0 : Below w.heap.size w (((w.alloc (.cells #[.int .i64 i0, .int .i64 i1, .int .u64 i2, .int .i64 i3, .int .u64 i4] 29)).alloc (.cells #[.int .i64 k, .int .i64 x, .int .u64 y, .int .i64 a0, .int .i64 a1, .int .u64 a2, .int .i64 a3, .int .u64 a4, .int .i64 b0, .int .i64 b1, .int .u64 b2, .int .i64 b3, .int .u64 b4, .int .i64 oa, .int .i64 oo] 48)).alloc (.cells #[.int .i64 u, .int .u64 t] 24)) := ((((Below.refl w.heap.size w).alloc (Nat.le_refl _) (.cells #[.int .i64 i0, .int .i64 i1, .int .u64 i2, .int .i64 i3, .int .u64 i4] 29)).alloc (by simp) (.cells #[.int .i64 k, .int .i64 x, .int .u64 y, .int .i64 a0, .int .i64 a1, .int .u64 a2, .int .i64 a3, .int .u64 a4, .int .i64 b0, .int .i64 b1, .int .u64 b2, .int .i64 b3, .int .u64 b4, .int .i64 oa, .int .i64 oo] 48)).alloc (by simp; omega) (.cells #[.int .i64 u, .int .u64 t] 24))
  have IM0 := (((IsB.new w #[.int .i64 i0, .int .i64 i1, .int .u64 i2, .int .i64 i3, .int .u64 i4] 29).below ((Below.refl _ _).alloc (Nat.le_refl _) (.cells #[.int .i64 k, .int .i64 x, .int .u64 y, .int .i64 a0, .int .i64 a1, .int .u64 a2, .int .i64 a3, .int .u64 a4, .int .i64 b0, .int .i64 b1, .int .u64 b2, .int .i64 b3, .int .u64 b4, .int .i64 oa, .int .i64 oo] 48))).below ((Below.refl _ _).alloc (Nat.le_refl _) (.cells #[.int .i64 u, .int .u64 t] 24)))
  have IM := hide IM0
  clear IM0
  have IC0 := ((IsB.new (w.alloc (.cells #[.int .i64 i0, .int .i64 i1, .int .u64 i2, .int .i64 i3, .int .u64 i4] 29)) #[.int .i64 k, .int .i64 x, .int .u64 y, .int .i64 a0, .int .i64 a1, .int .u64 a2, .int .i64 a3, .int .u64 a4, .int .i64 b0, .int .i64 b1, .int .u64 b2, .int .i64 b3, .int .u64 b4, .int .i64 oa, .int .i64 oo] 48).below ((Below.refl _ _).alloc (Nat.le_refl _) (.cells #[.int .i64 u, .int .u64 t] 24)))
  simp only [World.size_alloc] at IC0
  have IC := hide IC0
  clear IC0
  have IU0 := (IsB.new ((w.alloc (.cells #[.int .i64 i0, .int .i64 i1, .int .u64 i2, .int .i64 i3, .int .u64 i4] 29)).alloc (.cells #[.int .i64 k, .int .i64 x, .int .u64 y, .int .i64 a0, .int .i64 a1, .int .u64 a2, .int .i64 a3, .int .u64 a4, .int .i64 b0, .int .i64 b1, .int .u64 b2, .int .i64 b3, .int .u64 b4, .int .i64 oa, .int .i64 oo] 48)) #[.int .i64 u, .int .u64 t] 24)
  simp only [World.size_alloc] at IU0
  have IU := hide IU0
  clear IU0
  have B1 := hide B0
  have HR := hide (hR.below B0)
  have HO := hide (hO.below B0)
  clear B0 hR hO
  obtain ⟨n, hn⟩ : ∃ n, os.length = n := ⟨_, rfl⟩
  rw [hn] at HO ⊢
  replace hn := hide hn
  clear hmx
  go_enter Tryd.func5, Tryd.ntmps5
  go_wp2_with fail
  generalize (((w.alloc (.cells #[.int .i64 i0, .int .i64 i1, .int .u64 i2, .int .i64 i3, .int .u64 i4] 29)).alloc (.cells #[.int .i64 k, .int .i64 x, .int .u64 y, .int .i64 a0, .int .i64 a1, .int .u64 a2, .int .i64 a3, .int .u64 a4, .int .i64 b0, .int .i64 b1, .int .u64 b2, .int .i64 b3, .int .u64 b4, .int .i64 oa, .int .i64 oo] 48)).alloc (.cells #[.int .i64 u, .int .u64 t] 24)) = W1 at IM IC IU B1 HR HO ⊢
  generalize hH : w.heap.size = H at IM IC IU ⊢
  replace hH := hide hH
  refine (awake_any _ HR.out).mono ?_; rintro e w2 ⟨rfl, hb2⟩
  have IM := hide (IM.out.below hb2)
  have IC := hide (IC.out.below hb2)
  have IU := hide (IU.out.below hb2)
  have HR := hide (HR.out.below hb2)
  have HO := hide (HO.out.below hb2)
  have B2 := hide (B1.out.trans (hb2.mono B1.out.size))
  clear hb2 B1
  have m0 : w2.cell? ⟨H, 0, none⟩ = some (.int .i64 i0) := IM.out.cell 0
  have m1 : w2.cell? ⟨H, 1, none⟩ = some (.int .i64 i1) := IM.out.cell 1
  have m2 : w2.cell? ⟨H, 2, none⟩ = some (.int .u64 i2) := IM.out.cell 2
  have m3 : w2.cell? ⟨H, 3, none⟩ = some (.int .i64 i3) := IM.out.cell 3
  have m4 : w2.cell? ⟨H, 4, none⟩ = some (.int .u64 i4) := IM.out.cell 4
  go_wp2_with fail
  clear m0 m1 m2 m3 m4
  refine (play_ok i0 i1 i2 i3 i4 hb hE _ os _ HR.out HO.out).mono ?_; rintro e w3 ⟨p, m, base, rfl, L, hL, hok, hs1, hs2, hb3⟩
  have hme : okMe (i0, i1, i2, i3, i4) := hb
  have hGr : 0 < base := Nat.lt_of_lt_of_le (lt_of_cell (a := ⟨0, 0, none⟩) HR.out.1) hs1
  have hHl : H < base ∧ H + 1 < base ∧ H + 1 + 1 < base := ⟨Nat.lt_of_lt_of_le IM.out.lt hs1, Nat.lt_of_lt_of_le IC.out.lt hs1, Nat.lt_of_lt_of_le IU.out.lt hs1⟩
  have IM := hide (IM.out.below hb3)
  have IC := hide (IC.out.below hb3)
  have IU := hide (IU.out.below hb3)
  have HR := hide (HR.out.below hb3)
  have B3 := hide (B2.out.trans (hb3.mono B2.out.size))
  have LK3 := hide hL
  have HOK := hide hok
  have hBl : w.heap.size ≤ base := Nat.le_trans B2.out.size hs1
  clear hb3 hL hok B2 HO
  have q0 := IU.out.cell 0
  have q1 := IU.out.cell 1
  simp at q0 q1
  go_wp2_with fail
  clear q0 q1
  obtain ⟨⟨⟨s0, s1⟩, ⟨s2, s3, s4, s5, s6⟩, ⟨s7, s8, s9, sa, sb⟩, sc, ⟨sd, se⟩, sl⟩, hG⟩ : ∃ G, getS (u, t) (findC (i0, i1, i2, i3, i4) L (u, t)) = G := ⟨_, rfl⟩
  obtain ⟨IN, hIN⟩ : ∃ b, (findC (i0, i1, i2, i3, i4) L (u, t)).isSome = b := ⟨_, rfl⟩
  have CG := get_all base p m (i0, i1, i2, i3, i4) L _ LK3.out hs2 u t hut hme (okV.pos hut)
  rw [hG, hIN] at CG
  refine CG.mono ?_; rintro e w4 ⟨qv, rfl, hq, hqf, hb4⟩
  clear CG
  have hlen0 : Hid (sl.length ≤ 100000) := by
    have := LK3.out.waits_len (u, t)
    rw [hG] at this
    show sl.length ≤ 100000
    simp only [] at this
    omega
  replace hG := hide hG
  replace hIN := hide hIN
  simp only [] at hq ⊢
  obtain ⟨qa, qc, rfl, -, -⟩ := hq.shape
  obtain ⟨sn, hsn⟩ : ∃ z, sl.length = z := ⟨_, rfl⟩
  rw [hsn] at hq hqf ⊢
  replace hsn := hide hsn
  have hfl := hide LK3.out.foot_lt
  have hb5 := hb4.trans (((Below.refl w4.heap.size w4).alloc (Nat.le_refl _) (.cells #[.int .i64 s0, .int .u64 s1, .int .i64 s2, .int .i64 s3, .int .u64 s4, .int .i64 s5, .int .u64 s6, .int .i64 s7, .int .i64 s8, .int .u64 s9, .int .i64 sa, .int .u64 sb, .bool sc, .int .i64 sd, .int .i64 se, .slice qa sn qc] 34)).mono hb4.size)
  have IR := hide (IsB.new w4 #[.int .i64 s0, .int .u64 s1, .int .i64 s2, .int .i64 s3, .int .u64 s4, .int .i64 s5, .int .u64 s6, .int .i64 s7, .int .i64 s8, .int .u64 s9, .int .i64 sa, .int .u64 sb, .bool sc, .int .i64 sd, .int .i64 se, .slice qa sn qc] 34)
  have Q5 := hide (hq.below ((Below.refl w4.heap.size w4).alloc (Nat.le_refl _) (.cells #[.int .i64 s0, .int .u64 s1, .int .i64 s2, .int .i64 s3, .int .u64 s4, .int .i64 s5, .int .u64 s6, .int .i64 s7, .int .i64 s8, .int .u64 s9, .int .i64 sa, .int .u64 sb, .bool sc, .int .i64 sd, .int .i64 se, .slice qa sn qc] 34)))
  have IC4 := IC.out.below hb4
  have o0 : w4.cell? ⟨H + 1, 0, none⟩ = some (.int .i64 k) := IC4.cell 0
  have o1 : w4.cell? ⟨H + 1, 1, none⟩ = some (.int .i64 x) := IC4.cell 1
  have o2 : w4.cell? ⟨H + 1, 2, none⟩ = some (.int .u64 y) := IC4.cell 2
  have o3 : w4.cell? ⟨H + 1, 3, none⟩ = some (.int .i64 a0) := IC4.cell 3
  have o4 : w4.cell? ⟨H + 1, 4, none⟩ = some (.int .i64 a1) := IC4.cell 4
  have o5 : w4.cell? ⟨H + 1, 5, none⟩ = some (.int .u64 a2) := IC4.cell 5
  have o6 : w4.cell? ⟨H + 1, 6, none⟩ = some (.int .i64 a3) := IC4.cell 6
  have o7 : w4.cell? ⟨H + 1, 7, none⟩ = some (.int .u64 a4) := IC4.cell 7
  have o8 : w4.cell? ⟨H + 1, 8, none⟩ = some (.int .i64 b0) := IC4.cell 8
  have o9 : w4.cell? ⟨H + 1, 9, none⟩ = some (.int .i64 b1) := IC4.cell 9
  have o10 : w4.cell? ⟨H + 1, 10, none⟩ = some (.int .u64 b2) := IC4.cell 10
  have o11 : w4.cell? ⟨H + 1, 11, none⟩ = some (.int .i64 b3) := IC4.cell 11
  have o12 : w4.cell? ⟨H + 1, 12, none⟩ = some (.int .u64 b4) := IC4.cell 12
  have o13 : w4.cell? ⟨H + 1, 13, none⟩ = some (.int .i64 oa) := IC4.cell 13
  have o14 : w4.cell? ⟨H + 1, 14, none⟩ = some (.int .i64 oo) := IC4.cell 14
  have olt := IC4.lt
  have IM := hide (IM.out.below hb5)
  have IC := hide (IC.out.below hb5)
  have IU := hide (IU.out.below hb5)
  have HR := hide (HR.out.below hb5)
  have LK3 := hide (LK3.out.below hb5)
  have B5 := hide (B3.out.trans (hb5.mono B3.out.size))
  have hs5 : base ≤ (w4.alloc (.cells #[.int .i64 s0, .int .u64 s1, .int .i64 s2, .int .i64 s3, .int .u64 s4, .int .i64 s5, .int .u64 s6, .int .i64 s7, .int .i64 s8, .int .u64 s9, .int .i64 sa, .int .u64 sb, .bool sc, .int .i64 sd, .int .i64 se, .slice qa sn qc] 34)).heap.size := Nat.le_trans hs2 hb5.size
  have hqn : Hid (∀ k, (Value.slice qa sn qc).ownBlock = some k → k ∉ foot m L) := fun k hk hf => by have := hqf k hk; have := hfl.out k hf; omega
  clear hb4 hb5 hq hqf B3 IC4
  go_wp2_with fail
  clear olt o0 o1 o2 o3 o4 o5 o6 o7 o8 o9 o10 o11 o12 o13 o14
  generalize w4.alloc (.cells #[.int .i64 s0, .int .u64 s1, .int .i64 s2, .int .i64 s3, .int .u64 s4, .int .i64 s5, .int .u64 s6, .int .i64 s7, .int .i64 s8, .int .u64 s9, .int .i64 sa, .int .u64 sb, .bool sc, .int .i64 sd, .int .i64 se, .slice qa sn qc] 34) = W5 at *
  generalize hR1 : w4.heap.size = R1 at *
  clear hR1
  generalize hSV : Value.agg #[.int .i64 s0, .int .u64 s1, .int .i64 s2, .int .i64 s3, .int .u64 s4, .int .i64 s5, .int .u64 s6, .int .i64 s7, .int .i64 s8, .int .u64 s9, .int .i64 sa, .int .u64 sb, .bool sc, .int .i64 sd, .int .i64 se, .slice qa sn qc] = SV
  replace hSV := hide hSV
  refine (do_any base p m (i0, i1, i2, i3, i4) L _ LK3.out hs5 k x y a0 a1 a2 a3 a4 b0 b1 b2 b3 b4 oa oo hop hme (okV.pos hop) HR.out HOK.out).mono ?_; rintro e w6 ⟨E, L6, rfl, hEf, hx⟩
  have hlow := hx.low LK3.out hs5
  have IM := hide (IM.out.low hlow hHl.1)
  have IC := hide (IC.out.low hlow hHl.2.1)
  have IU := hide (IU.out.low hlow hHl.2.2)
  have IR := hide (hx.keeps LK3.out IR.out (by decide) (by decide))
  have Q6 := hide (Q5.out.kp hx.kp hqn.out)
  have B6 := hide (B5.out.trans (hlow.mono hBl))
  have hs6 : base ≤ w6.heap.size := Nat.le_trans hs5 hlow.size
  have LK6 := hide hx.lk
  have HE := hide hEf
  clear hx hlow hEf LK3 hfl hqn Q5 B5
  have q0 := IU.out.cell 0
  have q1 := IU.out.cell 1
  simp at q0 q1
  go_wp2_with fail
  clear q0 q1
  obtain ⟨⟨⟨r0, r1⟩, ⟨r2, r3, r4, r5, r6⟩, ⟨r7, r8, r9, ra, rb⟩, rc, ⟨rd, re⟩, rl⟩, hG2⟩ : ∃ G, getS (u, t) (findC (i0, i1, i2, i3, i4) L6 (u, t)) = G := ⟨_, rfl⟩
  obtain ⟨IN2, hIN2⟩ : ∃ b, (findC (i0, i1, i2, i3, i4) L6 (u, t)).isSome = b := ⟨_, rfl⟩
  have CG := get_all base p m (i0, i1, i2, i3, i4) L6 _ LK6.out hs6 u t hut hme (okV.pos hut)
  rw [hG2, hIN2] at CG
  refine CG.mono ?_; rintro e w7 ⟨qv, rfl, hq, -, hb7⟩
  clear CG
  replace hG2 := hide hG2
  replace hIN2 := hide hIN2
  simp only [] at hq ⊢
  obtain ⟨pa, pc, rfl, -, -⟩ := hq.shape
  obtain ⟨rn, hrn⟩ : ∃ z, rl.length = z := ⟨_, rfl⟩
  rw [hrn] at hq ⊢
  replace hrn := hide hrn
  have bA := (Below.refl w7.heap.size w7).alloc (Nat.le_refl _) (.cells #[.int .i64 r0, .int .u64 r1, .int .i64 r2, .int .i64 r3, .int .u64 r4, .int .i64 r5, .int .u64 r6, .int .i64 r7, .int .i64 r8, .int .u64 r9, .int .i64 ra, .int .u64 rb, .bool rc, .int .i64 rd, .int .i64 re, .slice pa rn pc] 34)
  have hb8 := hb7.trans (bA.mono hb7.size)
  have IR2 := hide (IsB.new w7 #[.int .i64 r0, .int .u64 r1, .int .i64 r2, .int .i64 r3, .int .u64 r4, .int .i64 r5, .int .u64 r6, .int .i64 r7, .int .i64 r8, .int .u64 r9, .int .i64 ra, .int .u64 rb, .bool rc, .int .i64 rd, .int .i64 re, .slice pa rn pc] 34)
  have P8 := hide (hq.below bA)
  have Q8 := hide (Q6.out.below hb8)
  have IU7 := IU.out.below hb7
  have IC7 := IC.out.below hb7
  have IR7 := IR.out.below hb7
  have hlts : H + 1 + 1 < w7.heap.size ∧ H + 1 < w7.heap.size ∧ R1 < w7.heap.size := ⟨IU7.lt, IC7.lt, IR7.lt⟩
  have g0 : w7.cell? ⟨H + 1 + 1, 0, none⟩ = some (.int .i64 u) := IU7.cell 0
  have g1 : w7.cell? ⟨H + 1 + 1, 1, none⟩ = some (.int .u64 t) := IU7.cell 1
  have g2 : w7.cell? ⟨H + 1, 1, none⟩ = some (.int .i64 x) := IC7.cell 1
  have g3 : w7.cell? ⟨H + 1, 2, none⟩ = some (.int .u64 y) := IC7.cell 2
  have ld1 : (Instr.loadAt 34 (.pointer (some ⟨R1, 0, none⟩))).run Tryd.prog (w7.alloc (.cells #[.int .i64 r0, .int .u64 r1, .int .i64 r2, .int .i64 r3, .int .u64 r4, .int .i64 r5, .int .u64 r6, .int .i64 r7, .int .i64 r8, .int .u64 r9, .int .i64 ra, .int .u64 rb, .bool rc, .int .i64 rd, .int .i64 re, .slice pa rn pc] 34)) = .ok SV (w7.alloc (.cells #[.int .i64 r0, .int .u64 r1, .int .i64 r2, .int .i64 r3, .int .u64 r4, .int .i64 r5, .int .u64 r6, .int .i64 r7, .int .i64 r8, .int .u64 r9, .int .i64 ra, .int .u64 rb, .bool rc, .int .i64 rd, .int .i64 re, .slice pa rn pc] 34)) := by rw [← hSV.out]; exact load_rs (IR.out.below hb8) rfl
  have ld2 := load_rs IR2.out rfl
  replace ld1 := hide ld1
  replace ld2 := hide ld2
  have B8 := hide (B6.out.trans (hb8.mono B6.out.size))
  clear hb7 hb8 hq IU7 IC7 IR7 bA B6 Q6 LK6
  have hvE : ∀ w, (binOp .eql 24 (.agg #[.int .i64 u, .int .u64 t]) (.agg #[.int .i64 x, .int .u64 y])).run Tryd.prog w = .ok (.bool (u == x && t == y)) w := eqv _ _ _ _
  by_cases hc : (u = x ∧ t = y) ∧ E = 0
  · obtain ⟨⟨rfl, rfl⟩, rfl⟩ := hc
    rw [show (u == u && t == t) = true by simp] at hvE
    go_wp2
    go_ret
    exact ⟨rfl, B8.out⟩
  · have hfe : findC (i0, i1, i2, i3, i4) L6 (u, t) = findC (i0, i1, i2, i3, i4) L (u, t) := by
      by_cases hq : (u, t) = (x, y)
      · have hE0 : E ≠ 0 := fun e => hc ⟨⟨congrArg Prod.fst hq, congrArg Prod.snd hq⟩, e⟩
        rw [HE.out.1 hE0]
      · exact HE.out.2.1 _ hq
    have e1 := hG2.out
    have e2 := hIN2.out
    rw [hfe, hG.out] at e1
    rw [hfe, hIN.out] at e2
    simp only [Prod.mk.injEq] at e1
    obtain ⟨⟨rfl, rfl⟩, ⟨rfl, rfl, rfl, rfl, rfl⟩, ⟨rfl, rfl, rfl, rfl, rfl⟩, rfl, ⟨rfl, rfl⟩, rfl⟩ := e1
    subst e2
    obtain rfl : sn = rn := hsn.out.symm.trans hrn.out
    have hlen : sl.length ≤ 100000 := hlen0.out
    have hS : ∀ W, Below (w7.alloc (.cells #[.int .i64 s0, .int .u64 s1, .int .i64 s2, .int .i64 s3, .int .u64 s4, .int .i64 s5, .int .u64 s6, .int .i64 s7, .int .i64 s8, .int .u64 s9, .int .i64 sa, .int .u64 sb, .bool sc, .int .i64 sd, .int .i64 se, .slice pa sn pc] 34)).heap.size (w7.alloc (.cells #[.int .i64 s0, .int .u64 s1, .int .i64 s2, .int .i64 s3, .int .u64 s4, .int .i64 s5, .int .u64 s6, .int .i64 s7, .int .i64 s8, .int .u64 s9, .int .i64 sa, .int .u64 sb, .bool sc, .int .i64 sd, .int .i64 se, .slice pa sn pc] 34)) W → Calls Tryd.prog 10 #[.agg #[.int .i64 s0, .int .u64 s1, .int .i64 s2, .int .i64 s3, .int .u64 s4, .int .i64 s5, .int .u64 s6, .int .i64 s7, .int .i64 s8, .int .u64 s9, .int .i64 sa, .int .u64 sb, .bool sc, .int .i64 sd, .int .i64 se, .slice qa sn qc], .agg #[.int .i64 s0, .int .u64 s1, .int .i64 s2, .int .i64 s3, .int .u64 s4, .int .i64 s5, .int .u64 s6, .int .i64 s7, .int .i64 s8, .int .u64 s9, .int .i64 sa, .int .u64 sb, .bool sc, .int .i64 sd, .int .i64 se, .slice pa sn pc]] W fun e w' => e = .returned (.bool true) ∧ Below W.heap.size W w' := fun W hW => by
      have := rsame_low s0 s1 s2 s3 s4 s5 s6 s7 s8 s9 sa sb sc sd se s0 s1 s2 s3 s4 s5 s6 s7 s8 s9 sa sb sc sd se (.slice qa sn qc) (.slice pa sn pc) sl sl hlen W (Q8.out.below hW) (P8.out.below hW)
      rw [sameS_iff.2 rfl] at this
      exact this
    replace hS := hide hS
    by_cases hq : u = x ∧ t = y
    · have hE0 : (E == 0) = false := by
        have : E ≠ 0 := fun e => hc ⟨hq, e⟩
        simpa using this
      rw [show (u == x && t == y) = true by simp [hq.1, hq.2]] at hvE
      go_wp2_with (first | (refine wpList_load_w rfl 34 (.tmp 10) rfl rfl ld1.out ?_) | (refine wpList_load_w rfl 34 (.tmp 13) rfl rfl ld2.out ?_))
      rw [← hSV.out]
      refine (hS.out _ (Below.refl _ _)).mono ?_; rintro e w9 ⟨rfl, hb9⟩
      have B9 := hide (B8.out.trans (hb9.mono B8.out.size))
      clear hb9
      go_wp2
      go_ret
      exact ⟨rfl, B9.out⟩
    · rw [show (u == x && t == y) = false by
        by_cases h1 : u = x
        · have h2 : t ≠ y := fun e => hq ⟨h1, e⟩
          simp [h1, h2]
        · simp [h1]] at hvE
      go_wp2_with (first | (refine wpList_load_w rfl 34 (.tmp 10) rfl rfl ld1.out ?_) | (refine wpList_load_w rfl 34 (.tmp 13) rfl rfl ld2.out ?_))
      rw [← hSV.out]
      refine (hS.out _ (Below.refl _ _)).mono ?_; rintro e w9 ⟨rfl, hb9⟩
      have B9 := hide (B8.out.trans (hb9.mono B8.out.size))
      clear hb9
      go_wp2
      go_ret
      exact ⟨rfl, B9.out⟩

theorem linkApart_walk (i0 i1 i2 i3 i4 : Int) (v : Value) (os : List Opv) (k x y a0 a1 a2 a3 a4 b0 b1 b2 b3 b4 oa oo : Int) (u t : Int) (w : World) (hR : Ranks w) (hO : OpsAt w v os) (hb : 0 ≤ i4) (hop : okV (x, y)) (hut : okV (u, t)) : Calls Tryd.prog 5 #[.agg #[.int .i64 i0, .int .i64 i1, .int .u64 i2, .int .i64 i3, .int .u64 i4], v, .agg #[.int .i64 k, .int .i64 x, .int .u64 y, .int .i64 a0, .int .i64 a1, .int .u64 a2, .int .i64 a3, .int .u64 a4, .int .i64 b0, .int .i64 b1, .int .u64 b2, .int .i64 b3, .int .u64 b4, .int .i64 oa, .int .i64 oo], .agg #[.int .i64 u, .int .u64 t]] w fun e w' => e = .returned (.bool true) ∧ Below w.heap.size w w' := by
  by_cases hE : newE (i0, i1, i2, i3, i4) = 0
  · exact linkApart_ok i0 i1 i2 i3 i4 v os k x y a0 a1 a2 a3 a4 b0 b1 b2 b3 b4 oa oo u t w hR hO hb hop hut hE
  · exact linkApart_bad i0 i1 i2 i3 i4 v os k x y a0 a1 a2 a3 a4 b0 b1 b2 b3 b4 oa oo u t w hR hO hb hE

end Go.Proofs.YtledkljffjomdaaDoor
