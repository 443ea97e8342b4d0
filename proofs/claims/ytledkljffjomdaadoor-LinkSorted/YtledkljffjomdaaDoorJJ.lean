/- LinkSorted: the law walked. -/
import Derived.Test.YtledkljffjomdaaDoorJC
import Derived.Test.YtledkljffjomdaaDoorJJA
import Derived.Test.YtledkljffjomdaaDoorKLD
namespace Go.Proofs.YtledkljffjomdaaDoor
open Go.RowKit Go.Maps

theorem ck_zero (r n : Int) (h : ckE r n = 0) (w : World) : Calls Tryd.prog 13 #[.agg #[.int .i64 r, .int .u64 n]] w fun e w' => e = .returned (.int .i64 0) ∧ Gr w w' := by
  have := rCheck_any r n w
  rw [h] at this
  exact this
theorem le_true (r n s m : Int) (h : klt (r, n) (s, m) = true) (w : World) : Calls Tryd.prog 14 #[.agg #[.int .i64 r, .int .u64 n], .agg #[.int .i64 s, .int .u64 m]] w fun e w' => e = .returned (.bool true) ∧ Gr w w' := by
  have := rLess_any r n s m w
  rw [h] at this
  exact this
set_option maxHeartbeats 8000000 in
set_option maxRecDepth 100000 in
theorem linkSorted_bad (i0 i1 i2 i3 i4 : Int) (v : Value) (os : List Opv) (w : World) (hR : Ranks w) (hO : OpsAt w v os) (hb : 0 ≤ i4) (hE : newE (i0, i1, i2, i3, i4) ≠ 0) : Calls Tryd.prog 4 #[.agg #[.int .i64 i0, .int .i64 i1, .int .u64 i2, .int .i64 i3, .int .u64 i4], v] w fun e w' => e = .returned (.bool true) ∧ Below w.heap.size w w' := by
  have mixed : Tryd.prog.follows .mixedOrders = true := by kernel_rfl
  obtain ⟨va, vc, rfl, hmx, -, -⟩ := id hO
  have B0 : Below w.heap.size w (w.alloc (.cells #[.int .i64 i0, .int .i64 i1, .int .u64 i2, .int .i64 i3, .int .u64 i4] 29)) := ((Below.refl w.heap.size w).alloc (Nat.le_refl _) (.cells #[.int .i64 i0, .int .i64 i1, .int .u64 i2, .int .i64 i3, .int .u64 i4] 29))
  have IM0 := (IsB.new w #[.int .i64 i0, .int .i64 i1, .int .u64 i2, .int .i64 i3, .int .u64 i4] 29)
  have IM := hide IM0
  clear IM0
  have B1 := hide B0
  have HR := hide (hR.below B0)
  have HO := hide (hO.below B0)
  clear B0 hR hO
  obtain ⟨n, hn⟩ : ∃ n, os.length = n := ⟨_, rfl⟩
  rw [hn] at HO ⊢
  replace hn := hide hn
  clear hmx
  go_enter Tryd.func4, Tryd.ntmps4
  go_wp2_with fail
  generalize (w.alloc (.cells #[.int .i64 i0, .int .i64 i1, .int .u64 i2, .int .i64 i3, .int .u64 i4] 29)) = W1 at IM B1 HR HO ⊢
  generalize hH : w.heap.size = H at IM ⊢
  replace hH := hide hH
  refine (awake_any _ HR.out).mono ?_; rintro e w2 ⟨rfl, hb2⟩
  have IM := hide (IM.out.below hb2)
  have HR := hide (HR.out.below hb2)
  have HO := hide (HO.out.below hb2)
  have B2 := hide (B1.out.trans (hb2.mono B1.out.size))
  clear hb2 B1
  have m0 : w2.cell? ⟨H, 0, none⟩ = some (.int .i64 i0) := IM.out.cell 0
  have m1 : w2.cell? ⟨H, 1, none⟩ = some (.int .i64 i1) := IM.out.cell 1
  have m2 : w2.cell? ⟨H, 2, none⟩ = some (.int .u64 i2) := IM.out.cell 2
  have m3 : w2.cell? ⟨H, 3, none⟩ = some (.int .i64 i3) := IM.out.cell 3
  have m4 : w2.cell? ⟨H, 4, none⟩ = some (.int .u64 i4) := IM.out.cell 4
  go_wp2_with fail
  clear m0 m1 m2 m3 m4
  refine (play_bad i0 i1 i2 i3 i4 hb hE _ os _ HR.out HO.out).mono ?_; rintro e w3 ⟨rfl, hb3⟩
  have B3 := hide (B2.out.trans (hb3.mono B2.out.size))
  clear hb3
  go_wp2
  go_ret
  exact ⟨rfl, B3.out⟩

set_option maxHeartbeats 16000000 in
set_option maxRecDepth 100000 in
theorem linkSorted_ok (i0 i1 i2 i3 i4 : Int) (v : Value) (os : List Opv) (w : World) (hR : Ranks w) (hO : OpsAt w v os) (hb : 0 ≤ i4) (hE : newE (i0, i1, i2, i3, i4) = 0) : Calls Tryd.prog 4 #[.agg #[.int .i64 i0, .int .i64 i1, .int .u64 i2, .int .i64 i3, .int .u64 i4], v] w fun e w' => e = .returned (.bool true) ∧ Below w.heap.size w w' := by
  have mixed : Tryd.prog.follows .mixedOrders = true := by kernel_rfl
  obtain ⟨va, vc, rfl, hmx, -, -⟩ := id hO
  have B0 : Below w.heap.size w (w.alloc (.cells #[.int .i64 i0, .int .i64 i1, .int .u64 i2, .int .i64 i3, .int .u64 i4] 29)) := ((Below.refl w.heap.size w).alloc (Nat.le_refl _) (.cells #[.int .i64 i0, .int .i64 i1, .int .u64 i2, .int .i64 i3, .int .u64 i4] 29))
  have IM0 := (IsB.new w #[.int .i64 i0, .int .i64 i1, .int .u64 i2, .int .i64 i3, .int .u64 i4] 29)
  have IM := hide IM0
  clear IM0
  have B1 := hide B0
  have HR := hide (hR.below B0)
  have HO := hide (hO.below B0)
  clear B0 hR hO
  obtain ⟨n, hn⟩ : ∃ n, os.length = n := ⟨_, rfl⟩
  rw [hn] at HO ⊢
  replace hn := hide hn
  clear hmx
  go_enter Tryd.func4, Tryd.ntmps4
  go_wp2_with fail
  generalize (w.alloc (.cells #[.int .i64 i0, .int .i64 i1, .int .u64 i2, .int .i64 i3, .int .u64 i4] 29)) = W1 at IM B1 HR HO ⊢
  generalize hH : w.heap.size = H at IM ⊢
  replace hH := hide hH
  refine (awake_any _ HR.out).mono ?_; rintro e w2 ⟨rfl, hb2⟩
  have IM := hide (IM.out.below hb2)
  have HR := hide (HR.out.below hb2)
  have HO := hide (HO.out.below hb2)
  have B2 := hide (B1.out.trans (hb2.mono B1.out.size))
  clear hb2 B1
  have m0 : w2.cell? ⟨H, 0, none⟩ = some (.int .i64 i0) := IM.out.cell 0
  have m1 : w2.cell? ⟨H, 1, none⟩ = some (.int .i64 i1) := IM.out.cell 1
  have m2 : w2.cell? ⟨H, 2, none⟩ = some (.int .u64 i2) := IM.out.cell 2
  have m3 : w2.cell? ⟨H, 3, none⟩ = some (.int .i64 i3) := IM.out.cell 3
  have m4 : w2.cell? ⟨H, 4, none⟩ = some (.int .u64 i4) := IM.out.cell 4
  go_wp2_with fail
  clear m0 m1 m2 m3 m4
  refine (play_oks i0 i1 i2 i3 i4 hb hE _ os _ HR.out HO.out).mono ?_; rintro e w3 ⟨p, m, base, rfl, L, hL, hok, hLl, hs1, hs2, hb3⟩
  have IM := hide (IM.out.below hb3)
  have B3 := hide (B2.out.trans (hb3.mono B2.out.size))
  have LK3 := hide hL
  clear hb3 hL HO HR B2 hs1 hs2
  go_wp2_with fail
  refine (all_any base p m (i0, i1, i2, i3, i4) L _ LK3.out (by omega) (fun e he => ⟨may_rt (hok e he).2.1, (LK3.out.pos e he)⟩) sortsAll).mono ?_; rintro e w4 ⟨v4, As, rfl, hrow, hperm, -, hb4⟩
  have IM := hide (IM.out.below hb4)
  have B4 := hide (B3.out.trans (hb4.mono B3.out.size))
  have LB := hide (LK3.out.below hb4).blk
  have FX := hide (fx_all hok hperm hrow)
  have AP : Hid (∀ (i k : Nat) (hi : i < As.length) (hk : k < i), (As[k]'(by omega)).1.1.1 ≠ As[i].1.1.1) := keys_apart (by have := (LK3.out.map).nodup; rw [List.map_map] at this; exact this) hperm
  have hAl : As.length ≤ 60 := by have := hperm.length_eq; simp at this; omega
  have ROW := hide hrow
  have NN : Hid (∀ x ∈ As, 0 ≤ x.1.1.1.2) := fun x hx => x.2.2
  obtain ⟨ga, gc, rfl, -, -⟩ := hrow.row.shape
  clear hb4 hrow hperm B3 LK3 hok hLl
  obtain ⟨an, han⟩ : ∃ z, As.length = z := ⟨_, rfl⟩
  rw [han] at ROW hAl ⊢
  replace han := hide han
  go_wp2
  go_loopw [7] (fun i wr => ∃ j : Nat, j ≤ an ∧ i = .int .i64 (j : Int) ∧ Hid (Below w4.heap.size w4 wr)) (fun i _ => an - (intOf i).toNat)
  case atStart => exact ⟨0, by omega, rfl, Below.refl _ _⟩
  case round =>
    obtain ⟨j, hj, rfl, HB⟩ := hrel
    by_cases hlt : j < an
    · have hjl : j < As.length := by rw [han.out]; exact hlt
      have RWr := ROW.out.below HB.out
      obtain ⟨g, cp, hg, -, -, hgl⟩ := RWr.row.form (by omega)
      rw [han.out] at hg
      injection hg with hg1 _ hg2
      subst hg1 hg2
      have hcell : Hid (∀ c, c < 16 → wr.cell? ⟨g, j * 16 + c, none⟩ = (encS As[j])[c]?) := fun c hc => RWr.cellS han.out hjl hc
      have hfx := FX.out _ (List.getElem_mem hjl)
      have hnn := NN.out _ (List.getElem_mem hjl)
      have hap : Hid (∀ k (hk : k < j), (As[k]'(by omega)).1.1.1 ≠ As[j].1.1.1) := fun k hk => AP.out j k hjl hk
      obtain ⟨X, hX⟩ : ∃ X, As[j] = X := ⟨_, rfl⟩
      rw [hX] at hcell hfx hap hnn
      clear hX
      obtain ⟨⟨⟨⟨x, y⟩, ⟨l0, l1, l2, l3, l4⟩, ⟨r0, r1, r2, r3, r4⟩, hB, ⟨h1, h2⟩, ql⟩, qa, qn, qc⟩, hxx⟩ := X
      have hap2 : Hid (∀ k (hk : k < j), (As[k]'(by omega)).1.1.1 ≠ (x, y)) := hap.out
      have q0 : wr.cell? ⟨g, j * 16, none⟩ = some (.int .i64 x) := hcell.out 0 (by decide)
      have q1 : wr.cell? ⟨g, j * 16 + 1, none⟩ = some (.int .u64 y) := hcell.out 1 (by decide)
      have q2 : wr.cell? ⟨g, j * 16 + 2, none⟩ = some (.int .i64 l0) := hcell.out 2 (by decide)
      have q3 : wr.cell? ⟨g, j * 16 + 3, none⟩ = some (.int .i64 l1) := hcell.out 3 (by decide)
      have q4 : wr.cell? ⟨g, j * 16 + 4, none⟩ = some (.int .u64 l2) := hcell.out 4 (by decide)
      have q5 : wr.cell? ⟨g, j * 16 + 5, none⟩ = some (.int .i64 l3) := hcell.out 5 (by decide)
      have q6 : wr.cell? ⟨g, j * 16 + 6, none⟩ = some (.int .u64 l4) := hcell.out 6 (by decide)
      have q7 : wr.cell? ⟨g, j * 16 + 7, none⟩ = some (.int .i64 r0) := hcell.out 7 (by decide)
      have q8 : wr.cell? ⟨g, j * 16 + 8, none⟩ = some (.int .i64 r1) := hcell.out 8 (by decide)
      have q9 : wr.cell? ⟨g, j * 16 + 9, none⟩ = some (.int .u64 r2) := hcell.out 9 (by decide)
      have q10 : wr.cell? ⟨g, j * 16 + 10, none⟩ = some (.int .i64 r3) := hcell.out 10 (by decide)
      have q11 : wr.cell? ⟨g, j * 16 + 11, none⟩ = some (.int .u64 r4) := hcell.out 11 (by decide)
      have q12 : wr.cell? ⟨g, j * 16 + 12, none⟩ = some (.bool hB) := hcell.out 12 (by decide)
      have q13 : wr.cell? ⟨g, j * 16 + 13, none⟩ = some (.int .i64 h1) := hcell.out 13 (by decide)
      have q14 : wr.cell? ⟨g, j * 16 + 14, none⟩ = some (.int .i64 h2) := hcell.out 14 (by decide)
      have q15 : wr.cell? ⟨g, j * 16 + 15, none⟩ = some (.slice qa qn qc) := hcell.out 15 (by decide)
      have f1 : Hid (may (i0, i1, i2, i3, i4) (x, y) = true) := hfx.may
      have f2 : Hid (sideL (i0, i1, i2, i3, i4) (l0, l1, l2, l3, l4)) := hfx.l
      have f3 : Hid (sideR (i0, i1, i2, i3, i4) (r0, r1, r2, r3, r4)) := hfx.r
      have f4 : Hid (hB = false → qn = 0) := hfx.held
      have hy0 : 0 ≤ y := hnn
      clear hfx hap hnn hcell
      have IMr := IM.out.below HB.out
      have mlt := IMr.lt
      have m0 : wr.cell? ⟨H, 0, none⟩ = some (.int .i64 i0) := IMr.cell 0
      have m1 : wr.cell? ⟨H, 1, none⟩ = some (.int .i64 i1) := IMr.cell 1
      have m2 : wr.cell? ⟨H, 2, none⟩ = some (.int .u64 i2) := IMr.cell 2
      have m3 : wr.cell? ⟨H, 3, none⟩ = some (.int .i64 i3) := IMr.cell 3
      have m4 : wr.cell? ⟨H, 4, none⟩ = some (.int .u64 i4) := IMr.cell 4
      have bX := (Below.refl wr.heap.size wr).alloc (Nat.le_refl _) (.cells #[.int .i64 x, .int .u64 y, .int .i64 l0, .int .i64 l1, .int .u64 l2, .int .i64 l3, .int .u64 l4, .int .i64 r0, .int .i64 r1, .int .u64 r2, .int .i64 r3, .int .u64 r4, .bool hB, .int .i64 h1, .int .i64 h2, .slice qa qn qc] 34)
      have IX := hide (IsB.new wr #[.int .i64 x, .int .u64 y, .int .i64 l0, .int .i64 l1, .int .u64 l2, .int .i64 l3, .int .u64 l4, .int .i64 r0, .int .i64 r1, .int .u64 r2, .int .i64 r3, .int .u64 r4, .bool hB, .int .i64 h1, .int .i64 h2, .slice qa qn qc] 34)
      have IM5 := hide (IMr.below bX)
      have B5 := hide (HB.out.trans (bX.mono HB.out.size))
      have LB5 := hide ((LB.out.below HB.out).below bX)
      have ROW5 := hide (RWr.below bX)
      clear bX IMr RWr
      by_cases hcL : (l0, l1, l2, l3, l4) = ((0, 0, 0, 0, 0) : Rf) ∧ i1 = 1
      · obtain ⟨hz, hi1⟩ := hcL
        simp only [Prod.mk.injEq] at hz
        obtain ⟨rfl, rfl, rfl, rfl, rfl⟩ := hz
        have hcR : ¬ ((r0, r1, r2, r3, r4) = ((0, 0, 0, 0, 0) : Rf) ∧ i1 = 3) := fun h => by omega
        obtain ⟨e4, e5, e6⟩ := sideR_far f3.out hcR
        simp only [] at e4 e5 e6
        have hvR : ∀ w, (binOp .eql 29 (.agg #[.int .i64 r0, .int .i64 r1, .int .u64 r2, .int .i64 r3, .int .u64 r4]) (.agg #[.int .i64 0, .int .i64 0, .int .u64 0, .int .i64 0, .int .u64 0])).run Tryd.prog w = .ok (.bool false) w := fun w => (eqr _ _ _ _ _ _ _ _ _ _ w).trans (by rw [e4])
        clear e4
        replace e5 := hide e5
        replace e6 := hide e6
        have m1b := m1
        rw [hi1] at m1
        replace hi1 := hide hi1
        clear m1b
        go_wp2_with fail
        clear mlt m0 m1 m2 m3 m4 q0 q1 q2 q3 q4 q5 q6 q7 q8 q9 q10 q11 q12 q13 q14 q15
        generalize wr.heap.size = NB at IX ⊢
        refine (ck_zero r1 r2 e5.out _).mono ?_; rintro e w6 ⟨rfl, hg6⟩
        replace IX := hide (IX.out.below hg6.below)
        replace IM5 := hide (IM5.out.below hg6.below)
        replace LB5 := hide (LB5.out.below hg6.below)
        replace ROW5 := hide (ROW5.out.below hg6.below)
        replace B5 := hide (B5.out.trans (hg6.below.mono B5.out.size))
        clear hg6
        have x0 : w6.cell? ⟨NB, 0, none⟩ = some (.int .i64 x) := IX.out.cell 0
        have x1 : w6.cell? ⟨NB, 1, none⟩ = some (.int .u64 y) := IX.out.cell 1
        have x2 : w6.cell? ⟨NB, 2, none⟩ = some (.int .i64 0) := IX.out.cell 2
        have x3 : w6.cell? ⟨NB, 3, none⟩ = some (.int .i64 0) := IX.out.cell 3
        have x4 : w6.cell? ⟨NB, 4, none⟩ = some (.int .u64 0) := IX.out.cell 4
        have x5 : w6.cell? ⟨NB, 5, none⟩ = some (.int .i64 0) := IX.out.cell 5
        have x6 : w6.cell? ⟨NB, 6, none⟩ = some (.int .u64 0) := IX.out.cell 6
        have x7 : w6.cell? ⟨NB, 7, none⟩ = some (.int .i64 r0) := IX.out.cell 7
        have x8 : w6.cell? ⟨NB, 8, none⟩ = some (.int .i64 r1) := IX.out.cell 8
        have x9 : w6.cell? ⟨NB, 9, none⟩ = some (.int .u64 r2) := IX.out.cell 9
        have x10 : w6.cell? ⟨NB, 10, none⟩ = some (.int .i64 r3) := IX.out.cell 10
        have x11 : w6.cell? ⟨NB, 11, none⟩ = some (.int .u64 r4) := IX.out.cell 11
        have x12 : w6.cell? ⟨NB, 12, none⟩ = some (.bool hB) := IX.out.cell 12
        have x13 : w6.cell? ⟨NB, 13, none⟩ = some (.int .i64 h1) := IX.out.cell 13
        have x14 : w6.cell? ⟨NB, 14, none⟩ = some (.int .i64 h2) := IX.out.cell 14
        have x15 : w6.cell? ⟨NB, 15, none⟩ = some (.slice qa qn qc) := IX.out.cell 15
        have m0 : w6.cell? ⟨H, 0, none⟩ = some (.int .i64 i0) := IM5.out.cell 0
        have m1 : w6.cell? ⟨H, 1, none⟩ = some (.int .i64 i1) := IM5.out.cell 1
        have m2 : w6.cell? ⟨H, 2, none⟩ = some (.int .u64 i2) := IM5.out.cell 2
        have m3 : w6.cell? ⟨H, 3, none⟩ = some (.int .i64 i3) := IM5.out.cell 3
        have m4 : w6.cell? ⟨H, 4, none⟩ = some (.int .u64 i4) := IM5.out.cell 4
        go_wp2_with fail
        clear x0 x1 x2 x3 x4 x5 x6 x7 x8 x9 x10 x11 x12 x13 x14 x15
        clear m0 m1 m2 m3 m4
        refine (le_true i1 i2 r1 r2 e6.out _).mono ?_; rintro e w7 ⟨rfl, hg7⟩
        replace IX := hide (IX.out.below hg7.below)
        replace IM5 := hide (IM5.out.below hg7.below)
        replace LB5 := hide (LB5.out.below hg7.below)
        replace ROW5 := hide (ROW5.out.below hg7.below)
        replace B5 := hide (B5.out.trans (hg7.below.mono B5.out.size))
        clear hg7
        have x0 : w7.cell? ⟨NB, 0, none⟩ = some (.int .i64 x) := IX.out.cell 0
        have x1 : w7.cell? ⟨NB, 1, none⟩ = some (.int .u64 y) := IX.out.cell 1
        have x2 : w7.cell? ⟨NB, 2, none⟩ = some (.int .i64 0) := IX.out.cell 2
        have x3 : w7.cell? ⟨NB, 3, none⟩ = some (.int .i64 0) := IX.out.cell 3
        have x4 : w7.cell? ⟨NB, 4, none⟩ = some (.int .u64 0) := IX.out.cell 4
        have x5 : w7.cell? ⟨NB, 5, none⟩ = some (.int .i64 0) := IX.out.cell 5
        have x6 : w7.cell? ⟨NB, 6, none⟩ = some (.int .u64 0) := IX.out.cell 6
        have x7 : w7.cell? ⟨NB, 7, none⟩ = some (.int .i64 r0) := IX.out.cell 7
        have x8 : w7.cell? ⟨NB, 8, none⟩ = some (.int .i64 r1) := IX.out.cell 8
        have x9 : w7.cell? ⟨NB, 9, none⟩ = some (.int .u64 r2) := IX.out.cell 9
        have x10 : w7.cell? ⟨NB, 10, none⟩ = some (.int .i64 r3) := IX.out.cell 10
        have x11 : w7.cell? ⟨NB, 11, none⟩ = some (.int .u64 r4) := IX.out.cell 11
        have x12 : w7.cell? ⟨NB, 12, none⟩ = some (.bool hB) := IX.out.cell 12
        have x13 : w7.cell? ⟨NB, 13, none⟩ = some (.int .i64 h1) := IX.out.cell 13
        have x14 : w7.cell? ⟨NB, 14, none⟩ = some (.int .i64 h2) := IX.out.cell 14
        have x15 : w7.cell? ⟨NB, 15, none⟩ = some (.slice qa qn qc) := IX.out.cell 15
        have m0 : w7.cell? ⟨H, 0, none⟩ = some (.int .i64 i0) := IM5.out.cell 0
        have m1 : w7.cell? ⟨H, 1, none⟩ = some (.int .i64 i1) := IM5.out.cell 1
        have m2 : w7.cell? ⟨H, 2, none⟩ = some (.int .u64 i2) := IM5.out.cell 2
        have m3 : w7.cell? ⟨H, 3, none⟩ = some (.int .i64 i3) := IM5.out.cell 3
        have m4 : w7.cell? ⟨H, 4, none⟩ = some (.int .u64 i4) := IM5.out.cell 4
        go_wp2_with fail
        clear x0 x1 x2 x3 x4 x5 x6 x7 x8 x9 x10 x11 x12 x13 x14 x15
        clear m0 m1 m2 m3 m4
        refine (may_any p m i0 i1 i2 i3 i4 _ LB5.out x y hb hy0).mono ?_; rintro e w10 ⟨rfl, hg⟩
        rw [show mayA i1 i3 i4 x y = true from f1.out]
        replace IX := hide (IX.out.below hg)
        replace IM5 := hide (IM5.out.below hg)
        replace LB5 := hide (LB5.out.below hg)
        replace ROW5 := hide (ROW5.out.below hg)
        replace B5 := hide (B5.out.trans (hg.mono B5.out.size))
        clear hg
        have x0 : w10.cell? ⟨NB, 0, none⟩ = some (.int .i64 x) := IX.out.cell 0
        have x1 : w10.cell? ⟨NB, 1, none⟩ = some (.int .u64 y) := IX.out.cell 1
        have x2 : w10.cell? ⟨NB, 2, none⟩ = some (.int .i64 0) := IX.out.cell 2
        have x3 : w10.cell? ⟨NB, 3, none⟩ = some (.int .i64 0) := IX.out.cell 3
        have x4 : w10.cell? ⟨NB, 4, none⟩ = some (.int .u64 0) := IX.out.cell 4
        have x5 : w10.cell? ⟨NB, 5, none⟩ = some (.int .i64 0) := IX.out.cell 5
        have x6 : w10.cell? ⟨NB, 6, none⟩ = some (.int .u64 0) := IX.out.cell 6
        have x7 : w10.cell? ⟨NB, 7, none⟩ = some (.int .i64 r0) := IX.out.cell 7
        have x8 : w10.cell? ⟨NB, 8, none⟩ = some (.int .i64 r1) := IX.out.cell 8
        have x9 : w10.cell? ⟨NB, 9, none⟩ = some (.int .u64 r2) := IX.out.cell 9
        have x10 : w10.cell? ⟨NB, 10, none⟩ = some (.int .i64 r3) := IX.out.cell 10
        have x11 : w10.cell? ⟨NB, 11, none⟩ = some (.int .u64 r4) := IX.out.cell 11
        have x12 : w10.cell? ⟨NB, 12, none⟩ = some (.bool hB) := IX.out.cell 12
        have x13 : w10.cell? ⟨NB, 13, none⟩ = some (.int .i64 h1) := IX.out.cell 13
        have x14 : w10.cell? ⟨NB, 14, none⟩ = some (.int .i64 h2) := IX.out.cell 14
        have x15 : w10.cell? ⟨NB, 15, none⟩ = some (.slice qa qn qc) := IX.out.cell 15
        rcases Nat.eq_zero_or_pos qn with hq | hq
        · subst hq
          go_wp2
          clear x0 x1 x2 x3 x4 x5 x6 x7 x8 x9 x10 x11 x12 x13 x14 x15
          go_loopw [11] (fun i wz => ∃ k : Nat, k ≤ j ∧ i = .int .i64 (k : Int) ∧ Hid (Below w10.heap.size w10 wz)) (fun i _ => j - (intOf i).toNat)
          case atStart => exact ⟨0, by omega, rfl, Below.refl _ _⟩
          case round =>
            obtain ⟨k, hk, rfl, HK⟩ := hrel
            by_cases hlt2 : k < j
            · have hka : k < an := by omega
              have hkl : k < As.length := by rw [han.out]; omega
              have RWk := ROW5.out.below HK.out
              have IXk := IX.out.below HK.out
              have hpp := hap2.out k hlt2
              have c0 : wr.cell? ⟨g, k * 16, none⟩ = some (.int .i64 As[k].1.1.1.1) := RWk.cellS han.out hkl (c := 0) (by decide)
              have c1 : wr.cell? ⟨g, k * 16 + 1, none⟩ = some (.int .u64 As[k].1.1.1.2) := RWk.cellS han.out hkl (c := 1) (by decide)
              have d0 : wr.cell? ⟨NB, 0, none⟩ = some (.int .i64 x) := IXk.cell 0
              have d1 : wr.cell? ⟨NB, 1, none⟩ = some (.int .u64 y) := IXk.cell 1
              obtain ⟨⟨kx, ky⟩, hkx⟩ : ∃ z, As[k].1.1.1 = z := ⟨_, rfl⟩
              rw [hkx] at c0 c1 hpp
              have hne : Hid (kx = x → ¬ky = y) := by
                intro e1 e2
                exact hpp (by rw [e1, e2])
              clear hkx hpp RWk IXk
              go_wp2
              refine regionL 8 (fun w' => w'.cell? ⟨g, k * 16, none⟩ = some (.int .i64 kx) ∧ w'.cell? ⟨g, k * 16 + 1, none⟩ = some (.int .u64 ky) ∧ w'.cell? ⟨NB, 0, none⟩ = some (.int .i64 x) ∧ w'.cell? ⟨NB, 1, none⟩ = some (.int .u64 y)) mixed ⟨c0, c1, d0, d1⟩ (fun hHeld => ?_)
              refine pickA (v := ?_) 0 (some 110) rfl rfl (by kernel_rfl) (by kernel_rfl) (by kernel_rfl) (by decide) (fun _ _ _ h => h) (by rfl) ?_ (by assumption) ?_
              rotate_left
              · intro w'
                go_simp
                try with_reducible rfl
              try simp only [Act.put, List.setIfInBounds_toArray, List.set_cons_zero, List.set_cons_succ]
              refine pickA (v := ?_) 1 (some 111) rfl rfl (by kernel_rfl) (by kernel_rfl) (by kernel_rfl) (by decide) (fun _ _ _ h => h) (by rfl) ?_ (by assumption) ?_
              rotate_left
              · intro w'
                go_simp
                try with_reducible rfl
              try simp only [Act.put, List.setIfInBounds_toArray, List.set_cons_zero, List.set_cons_succ]
              refine pickA (v := ?_) 2 (some 112) rfl rfl (by kernel_rfl) (by kernel_rfl) (by kernel_rfl) (by decide) (fun _ _ _ h => h) (by rfl) ?_ (by assumption) ?_
              rotate_left
              · intro w'
                go_simp
                try with_reducible rfl
              try simp only [Act.put, List.setIfInBounds_toArray, List.set_cons_zero, List.set_cons_succ]
              refine pickA (v := ?_) 3 (some 113) rfl rfl (by kernel_rfl) (by kernel_rfl) (by kernel_rfl) (by decide) (fun _ _ _ h => h) (by rfl) ?_ (by assumption) ?_
              rotate_left
              · intro w'
                go_simp
                try with_reducible rfl
              try simp only [Act.put, List.setIfInBounds_toArray, List.set_cons_zero, List.set_cons_succ]
              refine pickL (v := ?_) 4 (some 114) rfl rfl (by kernel_rfl) (by kernel_rfl) (by kernel_rfl) (by decide) (by kernel_rfl) (by kernel_rfl) (fun _ _ _ h => h) (by rfl) ?_ (by assumption) ?_
              rotate_left
              · intro w' hSw
                obtain ⟨q0, q1, q2, q3⟩ := hSw
                go_simp
                try with_reducible rfl
              try simp only [Act.put, List.setIfInBounds_toArray, List.set_cons_zero, List.set_cons_succ]
              refine pickA (v := ?_) 5 (some 115) rfl rfl (by kernel_rfl) (by kernel_rfl) (by kernel_rfl) (by decide) (fun _ _ _ h => h) (by rfl) ?_ (by assumption) ?_
              rotate_left
              · intro w'
                go_simp
                try with_reducible rfl
              try simp only [Act.put, List.setIfInBounds_toArray, List.set_cons_zero, List.set_cons_succ]
              refine pickL (v := ?_) 6 (some 116) rfl rfl (by kernel_rfl) (by kernel_rfl) (by kernel_rfl) (by decide) (by kernel_rfl) (by kernel_rfl) (fun _ _ _ h => h) (by rfl) ?_ (by assumption) ?_
              rotate_left
              · intro w' hSw
                obtain ⟨q0, q1, q2, q3⟩ := hSw
                go_simp
                try with_reducible rfl
              try simp only [Act.put, List.setIfInBounds_toArray, List.set_cons_zero, List.set_cons_succ]
              refine pickA (v := .bool false) 7 (some 117) rfl rfl (by kernel_rfl) (by kernel_rfl) (by kernel_rfl) (by decide) (fun _ _ _ h => h) (by rfl) ?_ (by assumption) ?_
              · intro w'
                go_simp
                first | exact hne.out | (intro h1; exact hne.out h1) | simp [hne.out]
              try simp only [Act.put, List.setIfInBounds_toArray, List.set_cons_zero, List.set_cons_succ]
              refine doneL (by kernel_rfl) ?_ _
              clear hHeld
              go_wp2
              exact ⟨⟨k + 1, by omega, by simp, HK.out.trans (((Below.refl _ wr).drew).mono HK.out.size)⟩, by simp [intOf]; omega⟩
            · obtain rfl : k = j := by omega
              go_wp2
              exact ⟨⟨k + 1, by omega, by simp, B5.out.trans (HK.out.mono B5.out.size)⟩, by simp [intOf]; omega⟩
        · have hBt : hB = true := by
            cases hB with
            | true => rfl
            | false => exact absurd (f4.out rfl) (by omega)
          subst hBt
          have hq2 : (0 : Int) < (qn : Int) := by omega
          go_wp2
          clear x0 x1 x2 x3 x4 x5 x6 x7 x8 x9 x10 x11 x12 x13 x14 x15
          go_loopw [11] (fun i wz => ∃ k : Nat, k ≤ j ∧ i = .int .i64 (k : Int) ∧ Hid (Below w10.heap.size w10 wz)) (fun i _ => j - (intOf i).toNat)
          case atStart => exact ⟨0, by omega, rfl, Below.refl _ _⟩
          case round =>
            obtain ⟨k, hk, rfl, HK⟩ := hrel
            by_cases hlt2 : k < j
            · have hka : k < an := by omega
              have hkl : k < As.length := by rw [han.out]; omega
              have RWk := ROW5.out.below HK.out
              have IXk := IX.out.below HK.out
              have hpp := hap2.out k hlt2
              have c0 : wr.cell? ⟨g, k * 16, none⟩ = some (.int .i64 As[k].1.1.1.1) := RWk.cellS han.out hkl (c := 0) (by decide)
              have c1 : wr.cell? ⟨g, k * 16 + 1, none⟩ = some (.int .u64 As[k].1.1.1.2) := RWk.cellS han.out hkl (c := 1) (by decide)
              have d0 : wr.cell? ⟨NB, 0, none⟩ = some (.int .i64 x) := IXk.cell 0
              have d1 : wr.cell? ⟨NB, 1, none⟩ = some (.int .u64 y) := IXk.cell 1
              obtain ⟨⟨kx, ky⟩, hkx⟩ : ∃ z, As[k].1.1.1 = z := ⟨_, rfl⟩
              rw [hkx] at c0 c1 hpp
              have hne : Hid (kx = x → ¬ky = y) := by
                intro e1 e2
                exact hpp (by rw [e1, e2])
              clear hkx hpp RWk IXk
              go_wp2
              refine regionL 8 (fun w' => w'.cell? ⟨g, k * 16, none⟩ = some (.int .i64 kx) ∧ w'.cell? ⟨g, k * 16 + 1, none⟩ = some (.int .u64 ky) ∧ w'.cell? ⟨NB, 0, none⟩ = some (.int .i64 x) ∧ w'.cell? ⟨NB, 1, none⟩ = some (.int .u64 y)) mixed ⟨c0, c1, d0, d1⟩ (fun hHeld => ?_)
              refine pickA (v := ?_) 0 (some 110) rfl rfl (by kernel_rfl) (by kernel_rfl) (by kernel_rfl) (by decide) (fun _ _ _ h => h) (by rfl) ?_ (by assumption) ?_
              rotate_left
              · intro w'
                go_simp
                try with_reducible rfl
              try simp only [Act.put, List.setIfInBounds_toArray, List.set_cons_zero, List.set_cons_succ]
              refine pickA (v := ?_) 1 (some 111) rfl rfl (by kernel_rfl) (by kernel_rfl) (by kernel_rfl) (by decide) (fun _ _ _ h => h) (by rfl) ?_ (by assumption) ?_
              rotate_left
              · intro w'
                go_simp
                try with_reducible rfl
              try simp only [Act.put, List.setIfInBounds_toArray, List.set_cons_zero, List.set_cons_succ]
              refine pickA (v := ?_) 2 (some 112) rfl rfl (by kernel_rfl) (by kernel_rfl) (by kernel_rfl) (by decide) (fun _ _ _ h => h) (by rfl) ?_ (by assumption) ?_
              rotate_left
              · intro w'
                go_simp
                try with_reducible rfl
              try simp only [Act.put, List.setIfInBounds_toArray, List.set_cons_zero, List.set_cons_succ]
              refine pickA (v := ?_) 3 (some 113) rfl rfl (by kernel_rfl) (by kernel_rfl) (by kernel_rfl) (by decide) (fun _ _ _ h => h) (by rfl) ?_ (by assumption) ?_
              rotate_left
              · intro w'
                go_simp
                try with_reducible rfl
              try simp only [Act.put, List.setIfInBounds_toArray, List.set_cons_zero, List.set_cons_succ]
              refine pickL (v := ?_) 4 (some 114) rfl rfl (by kernel_rfl) (by kernel_rfl) (by kernel_rfl) (by decide) (by kernel_rfl) (by kernel_rfl) (fun _ _ _ h => h) (by rfl) ?_ (by assumption) ?_
              rotate_left
              · intro w' hSw
                obtain ⟨q0, q1, q2, q3⟩ := hSw
                go_simp
                try with_reducible rfl
              try simp only [Act.put, List.setIfInBounds_toArray, List.set_cons_zero, List.set_cons_succ]
              refine pickA (v := ?_) 5 (some 115) rfl rfl (by kernel_rfl) (by kernel_rfl) (by kernel_rfl) (by decide) (fun _ _ _ h => h) (by rfl) ?_ (by assumption) ?_
              rotate_left
              · intro w'
                go_simp
                try with_reducible rfl
              try simp only [Act.put, List.setIfInBounds_toArray, List.set_cons_zero, List.set_cons_succ]
              refine pickL (v := ?_) 6 (some 116) rfl rfl (by kernel_rfl) (by kernel_rfl) (by kernel_rfl) (by decide) (by kernel_rfl) (by kernel_rfl) (fun _ _ _ h => h) (by rfl) ?_ (by assumption) ?_
              rotate_left
              · intro w' hSw
                obtain ⟨q0, q1, q2, q3⟩ := hSw
                go_simp
                try with_reducible rfl
              try simp only [Act.put, List.setIfInBounds_toArray, List.set_cons_zero, List.set_cons_succ]
              refine pickA (v := .bool false) 7 (some 117) rfl rfl (by kernel_rfl) (by kernel_rfl) (by kernel_rfl) (by decide) (fun _ _ _ h => h) (by rfl) ?_ (by assumption) ?_
              · intro w'
                go_simp
                first | exact hne.out | (intro h1; exact hne.out h1) | simp [hne.out]
              try simp only [Act.put, List.setIfInBounds_toArray, List.set_cons_zero, List.set_cons_succ]
              refine doneL (by kernel_rfl) ?_ _
              clear hHeld
              go_wp2
              exact ⟨⟨k + 1, by omega, by simp, HK.out.trans (((Below.refl _ wr).drew).mono HK.out.size)⟩, by simp [intOf]; omega⟩
            · obtain rfl : k = j := by omega
              go_wp2
              exact ⟨⟨k + 1, by omega, by simp, B5.out.trans (HK.out.mono B5.out.size)⟩, by simp [intOf]; omega⟩
      · by_cases hcR : (r0, r1, r2, r3, r4) = ((0, 0, 0, 0, 0) : Rf) ∧ i1 = 3
        · obtain ⟨hz, hi1⟩ := hcR
          replace hi1 := hide hi1
          simp only [Prod.mk.injEq] at hz
          obtain ⟨rfl, rfl, rfl, rfl, rfl⟩ := hz
          obtain ⟨e1, e2, e3⟩ := sideL_far f2.out hcL
          simp only [] at e1 e2 e3
          have hvL : ∀ w, (binOp .eql 29 (.agg #[.int .i64 l0, .int .i64 l1, .int .u64 l2, .int .i64 l3, .int .u64 l4]) (.agg #[.int .i64 0, .int .i64 0, .int .u64 0, .int .i64 0, .int .u64 0])).run Tryd.prog w = .ok (.bool false) w := fun w => (eqr _ _ _ _ _ _ _ _ _ _ w).trans (by rw [e1])
          clear e1
          replace e2 := hide e2
          replace e3 := hide e3
          go_wp2_with fail
          clear mlt m0 m1 m2 m3 m4 q0 q1 q2 q3 q4 q5 q6 q7 q8 q9 q10 q11 q12 q13 q14 q15
          generalize wr.heap.size = NB at IX ⊢
          refine (ck_zero l1 l2 e2.out _).mono ?_; rintro e w6 ⟨rfl, hg6⟩
          replace IX := hide (IX.out.below hg6.below)
          replace IM5 := hide (IM5.out.below hg6.below)
          replace LB5 := hide (LB5.out.below hg6.below)
          replace ROW5 := hide (ROW5.out.below hg6.below)
          replace B5 := hide (B5.out.trans (hg6.below.mono B5.out.size))
          clear hg6
          have x0 : w6.cell? ⟨NB, 0, none⟩ = some (.int .i64 x) := IX.out.cell 0
          have x1 : w6.cell? ⟨NB, 1, none⟩ = some (.int .u64 y) := IX.out.cell 1
          have x2 : w6.cell? ⟨NB, 2, none⟩ = some (.int .i64 l0) := IX.out.cell 2
          have x3 : w6.cell? ⟨NB, 3, none⟩ = some (.int .i64 l1) := IX.out.cell 3
          have x4 : w6.cell? ⟨NB, 4, none⟩ = some (.int .u64 l2) := IX.out.cell 4
          have x5 : w6.cell? ⟨NB, 5, none⟩ = some (.int .i64 l3) := IX.out.cell 5
          have x6 : w6.cell? ⟨NB, 6, none⟩ = some (.int .u64 l4) := IX.out.cell 6
          have x7 : w6.cell? ⟨NB, 7, none⟩ = some (.int .i64 0) := IX.out.cell 7
          have x8 : w6.cell? ⟨NB, 8, none⟩ = some (.int .i64 0) := IX.out.cell 8
          have x9 : w6.cell? ⟨NB, 9, none⟩ = some (.int .u64 0) := IX.out.cell 9
          have x10 : w6.cell? ⟨NB, 10, none⟩ = some (.int .i64 0) := IX.out.cell 10
          have x11 : w6.cell? ⟨NB, 11, none⟩ = some (.int .u64 0) := IX.out.cell 11
          have x12 : w6.cell? ⟨NB, 12, none⟩ = some (.bool hB) := IX.out.cell 12
          have x13 : w6.cell? ⟨NB, 13, none⟩ = some (.int .i64 h1) := IX.out.cell 13
          have x14 : w6.cell? ⟨NB, 14, none⟩ = some (.int .i64 h2) := IX.out.cell 14
          have x15 : w6.cell? ⟨NB, 15, none⟩ = some (.slice qa qn qc) := IX.out.cell 15
          have m0 : w6.cell? ⟨H, 0, none⟩ = some (.int .i64 i0) := IM5.out.cell 0
          have m1 : w6.cell? ⟨H, 1, none⟩ = some (.int .i64 i1) := IM5.out.cell 1
          have m2 : w6.cell? ⟨H, 2, none⟩ = some (.int .u64 i2) := IM5.out.cell 2
          have m3 : w6.cell? ⟨H, 3, none⟩ = some (.int .i64 i3) := IM5.out.cell 3
          have m4 : w6.cell? ⟨H, 4, none⟩ = some (.int .u64 i4) := IM5.out.cell 4
          go_wp2_with fail
          clear x0 x1 x2 x3 x4 x5 x6 x7 x8 x9 x10 x11 x12 x13 x14 x15
          clear m0 m1 m2 m3 m4
          refine (le_true l1 l2 i1 i2 e3.out _).mono ?_; rintro e w7 ⟨rfl, hg7⟩
          replace IX := hide (IX.out.below hg7.below)
          replace IM5 := hide (IM5.out.below hg7.below)
          replace LB5 := hide (LB5.out.below hg7.below)
          replace ROW5 := hide (ROW5.out.below hg7.below)
          replace B5 := hide (B5.out.trans (hg7.below.mono B5.out.size))
          clear hg7
          have x0 : w7.cell? ⟨NB, 0, none⟩ = some (.int .i64 x) := IX.out.cell 0
          have x1 : w7.cell? ⟨NB, 1, none⟩ = some (.int .u64 y) := IX.out.cell 1
          have x2 : w7.cell? ⟨NB, 2, none⟩ = some (.int .i64 l0) := IX.out.cell 2
          have x3 : w7.cell? ⟨NB, 3, none⟩ = some (.int .i64 l1) := IX.out.cell 3
          have x4 : w7.cell? ⟨NB, 4, none⟩ = some (.int .u64 l2) := IX.out.cell 4
          have x5 : w7.cell? ⟨NB, 5, none⟩ = some (.int .i64 l3) := IX.out.cell 5
          have x6 : w7.cell? ⟨NB, 6, none⟩ = some (.int .u64 l4) := IX.out.cell 6
          have x7 : w7.cell? ⟨NB, 7, none⟩ = some (.int .i64 0) := IX.out.cell 7
          have x8 : w7.cell? ⟨NB, 8, none⟩ = some (.int .i64 0) := IX.out.cell 8
          have x9 : w7.cell? ⟨NB, 9, none⟩ = some (.int .u64 0) := IX.out.cell 9
          have x10 : w7.cell? ⟨NB, 10, none⟩ = some (.int .i64 0) := IX.out.cell 10
          have x11 : w7.cell? ⟨NB, 11, none⟩ = some (.int .u64 0) := IX.out.cell 11
          have x12 : w7.cell? ⟨NB, 12, none⟩ = some (.bool hB) := IX.out.cell 12
          have x13 : w7.cell? ⟨NB, 13, none⟩ = some (.int .i64 h1) := IX.out.cell 13
          have x14 : w7.cell? ⟨NB, 14, none⟩ = some (.int .i64 h2) := IX.out.cell 14
          have x15 : w7.cell? ⟨NB, 15, none⟩ = some (.slice qa qn qc) := IX.out.cell 15
          have m0 : w7.cell? ⟨H, 0, none⟩ = some (.int .i64 i0) := IM5.out.cell 0
          have m1 : w7.cell? ⟨H, 1, none⟩ = some (.int .i64 i1) := IM5.out.cell 1
          have m2 : w7.cell? ⟨H, 2, none⟩ = some (.int .u64 i2) := IM5.out.cell 2
          have m3 : w7.cell? ⟨H, 3, none⟩ = some (.int .i64 i3) := IM5.out.cell 3
          have m4 : w7.cell? ⟨H, 4, none⟩ = some (.int .u64 i4) := IM5.out.cell 4
          rw [hi1.out] at m1
          go_wp2_with fail
          clear x0 x1 x2 x3 x4 x5 x6 x7 x8 x9 x10 x11 x12 x13 x14 x15
          clear m0 m1 m2 m3 m4
          refine (may_any p m i0 i1 i2 i3 i4 _ LB5.out x y hb hy0).mono ?_; rintro e w10 ⟨rfl, hg⟩
          rw [show mayA i1 i3 i4 x y = true from f1.out]
          replace IX := hide (IX.out.below hg)
          replace IM5 := hide (IM5.out.below hg)
          replace LB5 := hide (LB5.out.below hg)
          replace ROW5 := hide (ROW5.out.below hg)
          replace B5 := hide (B5.out.trans (hg.mono B5.out.size))
          clear hg
          have x0 : w10.cell? ⟨NB, 0, none⟩ = some (.int .i64 x) := IX.out.cell 0
          have x1 : w10.cell? ⟨NB, 1, none⟩ = some (.int .u64 y) := IX.out.cell 1
          have x2 : w10.cell? ⟨NB, 2, none⟩ = some (.int .i64 l0) := IX.out.cell 2
          have x3 : w10.cell? ⟨NB, 3, none⟩ = some (.int .i64 l1) := IX.out.cell 3
          have x4 : w10.cell? ⟨NB, 4, none⟩ = some (.int .u64 l2) := IX.out.cell 4
          have x5 : w10.cell? ⟨NB, 5, none⟩ = some (.int .i64 l3) := IX.out.cell 5
          have x6 : w10.cell? ⟨NB, 6, none⟩ = some (.int .u64 l4) := IX.out.cell 6
          have x7 : w10.cell? ⟨NB, 7, none⟩ = some (.int .i64 0) := IX.out.cell 7
          have x8 : w10.cell? ⟨NB, 8, none⟩ = some (.int .i64 0) := IX.out.cell 8
          have x9 : w10.cell? ⟨NB, 9, none⟩ = some (.int .u64 0) := IX.out.cell 9
          have x10 : w10.cell? ⟨NB, 10, none⟩ = some (.int .i64 0) := IX.out.cell 10
          have x11 : w10.cell? ⟨NB, 11, none⟩ = some (.int .u64 0) := IX.out.cell 11
          have x12 : w10.cell? ⟨NB, 12, none⟩ = some (.bool hB) := IX.out.cell 12
          have x13 : w10.cell? ⟨NB, 13, none⟩ = some (.int .i64 h1) := IX.out.cell 13
          have x14 : w10.cell? ⟨NB, 14, none⟩ = some (.int .i64 h2) := IX.out.cell 14
          have x15 : w10.cell? ⟨NB, 15, none⟩ = some (.slice qa qn qc) := IX.out.cell 15
          rcases Nat.eq_zero_or_pos qn with hq | hq
          · subst hq
            go_wp2
            clear x0 x1 x2 x3 x4 x5 x6 x7 x8 x9 x10 x11 x12 x13 x14 x15
            go_loopw [11] (fun i wz => ∃ k : Nat, k ≤ j ∧ i = .int .i64 (k : Int) ∧ Hid (Below w10.heap.size w10 wz)) (fun i _ => j - (intOf i).toNat)
            case atStart => exact ⟨0, by omega, rfl, Below.refl _ _⟩
            case round =>
              obtain ⟨k, hk, rfl, HK⟩ := hrel
              by_cases hlt2 : k < j
              · have hka : k < an := by omega
                have hkl : k < As.length := by rw [han.out]; omega
                have RWk := ROW5.out.below HK.out
                have IXk := IX.out.below HK.out
                have hpp := hap2.out k hlt2
                have c0 : wr.cell? ⟨g, k * 16, none⟩ = some (.int .i64 As[k].1.1.1.1) := RWk.cellS han.out hkl (c := 0) (by decide)
                have c1 : wr.cell? ⟨g, k * 16 + 1, none⟩ = some (.int .u64 As[k].1.1.1.2) := RWk.cellS han.out hkl (c := 1) (by decide)
                have d0 : wr.cell? ⟨NB, 0, none⟩ = some (.int .i64 x) := IXk.cell 0
                have d1 : wr.cell? ⟨NB, 1, none⟩ = some (.int .u64 y) := IXk.cell 1
                obtain ⟨⟨kx, ky⟩, hkx⟩ : ∃ z, As[k].1.1.1 = z := ⟨_, rfl⟩
                rw [hkx] at c0 c1 hpp
                have hne : Hid (kx = x → ¬ky = y) := by
                  intro e1 e2
                  exact hpp (by rw [e1, e2])
                clear hkx hpp RWk IXk
                go_wp2
                refine regionL 8 (fun w' => w'.cell? ⟨g, k * 16, none⟩ = some (.int .i64 kx) ∧ w'.cell? ⟨g, k * 16 + 1, none⟩ = some (.int .u64 ky) ∧ w'.cell? ⟨NB, 0, none⟩ = some (.int .i64 x) ∧ w'.cell? ⟨NB, 1, none⟩ = some (.int .u64 y)) mixed ⟨c0, c1, d0, d1⟩ (fun hHeld => ?_)
                refine pickA (v := ?_) 0 (some 110) rfl rfl (by kernel_rfl) (by kernel_rfl) (by kernel_rfl) (by decide) (fun _ _ _ h => h) (by rfl) ?_ (by assumption) ?_
                rotate_left
                · intro w'
                  go_simp
                  try with_reducible rfl
                try simp only [Act.put, List.setIfInBounds_toArray, List.set_cons_zero, List.set_cons_succ]
                refine pickA (v := ?_) 1 (some 111) rfl rfl (by kernel_rfl) (by kernel_rfl) (by kernel_rfl) (by decide) (fun _ _ _ h => h) (by rfl) ?_ (by assumption) ?_
                rotate_left
                · intro w'
                  go_simp
                  try with_reducible rfl
                try simp only [Act.put, List.setIfInBounds_toArray, List.set_cons_zero, List.set_cons_succ]
                refine pickA (v := ?_) 2 (some 112) rfl rfl (by kernel_rfl) (by kernel_rfl) (by kernel_rfl) (by decide) (fun _ _ _ h => h) (by rfl) ?_ (by assumption) ?_
                rotate_left
                · intro w'
                  go_simp
                  try with_reducible rfl
                try simp only [Act.put, List.setIfInBounds_toArray, List.set_cons_zero, List.set_cons_succ]
                refine pickA (v := ?_) 3 (some 113) rfl rfl (by kernel_rfl) (by kernel_rfl) (by kernel_rfl) (by decide) (fun _ _ _ h => h) (by rfl) ?_ (by assumption) ?_
                rotate_left
                · intro w'
                  go_simp
                  try with_reducible rfl
                try simp only [Act.put, List.setIfInBounds_toArray, List.set_cons_zero, List.set_cons_succ]
                refine pickL (v := ?_) 4 (some 114) rfl rfl (by kernel_rfl) (by kernel_rfl) (by kernel_rfl) (by decide) (by kernel_rfl) (by kernel_rfl) (fun _ _ _ h => h) (by rfl) ?_ (by assumption) ?_
                rotate_left
                · intro w' hSw
                  obtain ⟨q0, q1, q2, q3⟩ := hSw
                  go_simp
                  try with_reducible rfl
                try simp only [Act.put, List.setIfInBounds_toArray, List.set_cons_zero, List.set_cons_succ]
                refine pickA (v := ?_) 5 (some 115) rfl rfl (by kernel_rfl) (by kernel_rfl) (by kernel_rfl) (by decide) (fun _ _ _ h => h) (by rfl) ?_ (by assumption) ?_
                rotate_left
                · intro w'
                  go_simp
                  try with_reducible rfl
                try simp only [Act.put, List.setIfInBounds_toArray, List.set_cons_zero, List.set_cons_succ]
                refine pickL (v := ?_) 6 (some 116) rfl rfl (by kernel_rfl) (by kernel_rfl) (by kernel_rfl) (by decide) (by kernel_rfl) (by kernel_rfl) (fun _ _ _ h => h) (by rfl) ?_ (by assumption) ?_
                rotate_left
                · intro w' hSw
                  obtain ⟨q0, q1, q2, q3⟩ := hSw
                  go_simp
                  try with_reducible rfl
                try simp only [Act.put, List.setIfInBounds_toArray, List.set_cons_zero, List.set_cons_succ]
                refine pickA (v := .bool false) 7 (some 117) rfl rfl (by kernel_rfl) (by kernel_rfl) (by kernel_rfl) (by decide) (fun _ _ _ h => h) (by rfl) ?_ (by assumption) ?_
                · intro w'
                  go_simp
                  first | exact hne.out | (intro h1; exact hne.out h1) | simp [hne.out]
                try simp only [Act.put, List.setIfInBounds_toArray, List.set_cons_zero, List.set_cons_succ]
                refine doneL (by kernel_rfl) ?_ _
                clear hHeld
                go_wp2
                exact ⟨⟨k + 1, by omega, by simp, HK.out.trans (((Below.refl _ wr).drew).mono HK.out.size)⟩, by simp [intOf]; omega⟩
              · obtain rfl : k = j := by omega
                go_wp2
                exact ⟨⟨k + 1, by omega, by simp, B5.out.trans (HK.out.mono B5.out.size)⟩, by simp [intOf]; omega⟩
          · have hBt : hB = true := by
              cases hB with
              | true => rfl
              | false => exact absurd (f4.out rfl) (by omega)
            subst hBt
            have hq2 : (0 : Int) < (qn : Int) := by omega
            go_wp2
            clear x0 x1 x2 x3 x4 x5 x6 x7 x8 x9 x10 x11 x12 x13 x14 x15
            go_loopw [11] (fun i wz => ∃ k : Nat, k ≤ j ∧ i = .int .i64 (k : Int) ∧ Hid (Below w10.heap.size w10 wz)) (fun i _ => j - (intOf i).toNat)
            case atStart => exact ⟨0, by omega, rfl, Below.refl _ _⟩
            case round =>
              obtain ⟨k, hk, rfl, HK⟩ := hrel
              by_cases hlt2 : k < j
              · have hka : k < an := by omega
                have hkl : k < As.length := by rw [han.out]; omega
                have RWk := ROW5.out.below HK.out
                have IXk := IX.out.below HK.out
                have hpp := hap2.out k hlt2
                have c0 : wr.cell? ⟨g, k * 16, none⟩ = some (.int .i64 As[k].1.1.1.1) := RWk.cellS han.out hkl (c := 0) (by decide)
                have c1 : wr.cell? ⟨g, k * 16 + 1, none⟩ = some (.int .u64 As[k].1.1.1.2) := RWk.cellS han.out hkl (c := 1) (by decide)
                have d0 : wr.cell? ⟨NB, 0, none⟩ = some (.int .i64 x) := IXk.cell 0
                have d1 : wr.cell? ⟨NB, 1, none⟩ = some (.int .u64 y) := IXk.cell 1
                obtain ⟨⟨kx, ky⟩, hkx⟩ : ∃ z, As[k].1.1.1 = z := ⟨_, rfl⟩
                rw [hkx] at c0 c1 hpp
                have hne : Hid (kx = x → ¬ky = y) := by
                  intro e1 e2
                  exact hpp (by rw [e1, e2])
                clear hkx hpp RWk IXk
                go_wp2
                refine regionL 8 (fun w' => w'.cell? ⟨g, k * 16, none⟩ = some (.int .i64 kx) ∧ w'.cell? ⟨g, k * 16 + 1, none⟩ = some (.int .u64 ky) ∧ w'.cell? ⟨NB, 0, none⟩ = some (.int .i64 x) ∧ w'.cell? ⟨NB, 1, none⟩ = some (.int .u64 y)) mixed ⟨c0, c1, d0, d1⟩ (fun hHeld => ?_)
                refine pickA (v := ?_) 0 (some 110) rfl rfl (by kernel_rfl) (by kernel_rfl) (by kernel_rfl) (by decide) (fun _ _ _ h => h) (by rfl) ?_ (by assumption) ?_
                rotate_left
                · intro w'
                  go_simp
                  try with_reducible rfl
                try simp only [Act.put, List.setIfInBounds_toArray, List.set_cons_zero, List.set_cons_succ]
                refine pickA (v := ?_) 1 (some 111) rfl rfl (by kernel_rfl) (by kernel_rfl) (by kernel_rfl) (by decide) (fun _ _ _ h => h) (by rfl) ?_ (by assumption) ?_
                rotate_left
                · intro w'
                  go_simp
                  try with_reducible rfl
                try simp only [Act.put, List.setIfInBounds_toArray, List.set_cons_zero, List.set_cons_succ]
                refine pickA (v := ?_) 2 (some 112) rfl rfl (by kernel_rfl) (by kernel_rfl) (by kernel_rfl) (by decide) (fun _ _ _ h => h) (by rfl) ?_ (by assumption) ?_
                rotate_left
                · intro w'
                  go_simp
                  try with_reducible rfl
                try simp only [Act.put, List.setIfInBounds_toArray, List.set_cons_zero, List.set_cons_succ]
                refine pickA (v := ?_) 3 (some 113) rfl rfl (by kernel_rfl) (by kernel_rfl) (by kernel_rfl) (by decide) (fun _ _ _ h => h) (by rfl) ?_ (by assumption) ?_
                rotate_left
                · intro w'
                  go_simp
                  try with_reducible rfl
                try simp only [Act.put, List.setIfInBounds_toArray, List.set_cons_zero, List.set_cons_succ]
                refine pickL (v := ?_) 4 (some 114) rfl rfl (by kernel_rfl) (by kernel_rfl) (by kernel_rfl) (by decide) (by kernel_rfl) (by kernel_rfl) (fun _ _ _ h => h) (by rfl) ?_ (by assumption) ?_
                rotate_left
                · intro w' hSw
                  obtain ⟨q0, q1, q2, q3⟩ := hSw
                  go_simp
                  try with_reducible rfl
                try simp only [Act.put, List.setIfInBounds_toArray, List.set_cons_zero, List.set_cons_succ]
                refine pickA (v := ?_) 5 (some 115) rfl rfl (by kernel_rfl) (by kernel_rfl) (by kernel_rfl) (by decide) (fun _ _ _ h => h) (by rfl) ?_ (by assumption) ?_
                rotate_left
                · intro w'
                  go_simp
                  try with_reducible rfl
                try simp only [Act.put, List.setIfInBounds_toArray, List.set_cons_zero, List.set_cons_succ]
                refine pickL (v := ?_) 6 (some 116) rfl rfl (by kernel_rfl) (by kernel_rfl) (by kernel_rfl) (by decide) (by kernel_rfl) (by kernel_rfl) (fun _ _ _ h => h) (by rfl) ?_ (by assumption) ?_
                rotate_left
                · intro w' hSw
                  obtain ⟨q0, q1, q2, q3⟩ := hSw
                  go_simp
                  try with_reducible rfl
                try simp only [Act.put, List.setIfInBounds_toArray, List.set_cons_zero, List.set_cons_succ]
                refine pickA (v := .bool false) 7 (some 117) rfl rfl (by kernel_rfl) (by kernel_rfl) (by kernel_rfl) (by decide) (fun _ _ _ h => h) (by rfl) ?_ (by assumption) ?_
                · intro w'
                  go_simp
                  first | exact hne.out | (intro h1; exact hne.out h1) | simp [hne.out]
                try simp only [Act.put, List.setIfInBounds_toArray, List.set_cons_zero, List.set_cons_succ]
                refine doneL (by kernel_rfl) ?_ _
                clear hHeld
                go_wp2
                exact ⟨⟨k + 1, by omega, by simp, HK.out.trans (((Below.refl _ wr).drew).mono HK.out.size)⟩, by simp [intOf]; omega⟩
              · obtain rfl : k = j := by omega
                go_wp2
                exact ⟨⟨k + 1, by omega, by simp, B5.out.trans (HK.out.mono B5.out.size)⟩, by simp [intOf]; omega⟩
        · obtain ⟨e4, e5, e6⟩ := sideR_far f3.out hcR
          simp only [] at e4 e5 e6
          have hvR : ∀ w, (binOp .eql 29 (.agg #[.int .i64 r0, .int .i64 r1, .int .u64 r2, .int .i64 r3, .int .u64 r4]) (.agg #[.int .i64 0, .int .i64 0, .int .u64 0, .int .i64 0, .int .u64 0])).run Tryd.prog w = .ok (.bool false) w := fun w => (eqr _ _ _ _ _ _ _ _ _ _ w).trans (by rw [e4])
          clear e4
          replace e5 := hide e5
          replace e6 := hide e6
          obtain ⟨e1, e2, e3⟩ := sideL_far f2.out hcL
          simp only [] at e1 e2 e3
          have hvL : ∀ w, (binOp .eql 29 (.agg #[.int .i64 l0, .int .i64 l1, .int .u64 l2, .int .i64 l3, .int .u64 l4]) (.agg #[.int .i64 0, .int .i64 0, .int .u64 0, .int .i64 0, .int .u64 0])).run Tryd.prog w = .ok (.bool false) w := fun w => (eqr _ _ _ _ _ _ _ _ _ _ w).trans (by rw [e1])
          clear e1
          replace e2 := hide e2
          replace e3 := hide e3
          go_wp2_with fail
          clear mlt m0 m1 m2 m3 m4 q0 q1 q2 q3 q4 q5 q6 q7 q8 q9 q10 q11 q12 q13 q14 q15
          generalize wr.heap.size = NB at IX ⊢
          refine (ck_zero l1 l2 e2.out _).mono ?_; rintro e w6 ⟨rfl, hg6⟩
          replace IX := hide (IX.out.below hg6.below)
          replace IM5 := hide (IM5.out.below hg6.below)
          replace LB5 := hide (LB5.out.below hg6.below)
          replace ROW5 := hide (ROW5.out.below hg6.below)
          replace B5 := hide (B5.out.trans (hg6.below.mono B5.out.size))
          clear hg6
          have x0 : w6.cell? ⟨NB, 0, none⟩ = some (.int .i64 x) := IX.out.cell 0
          have x1 : w6.cell? ⟨NB, 1, none⟩ = some (.int .u64 y) := IX.out.cell 1
          have x2 : w6.cell? ⟨NB, 2, none⟩ = some (.int .i64 l0) := IX.out.cell 2
          have x3 : w6.cell? ⟨NB, 3, none⟩ = some (.int .i64 l1) := IX.out.cell 3
          have x4 : w6.cell? ⟨NB, 4, none⟩ = some (.int .u64 l2) := IX.out.cell 4
          have x5 : w6.cell? ⟨NB, 5, none⟩ = some (.int .i64 l3) := IX.out.cell 5
          have x6 : w6.cell? ⟨NB, 6, none⟩ = some (.int .u64 l4) := IX.out.cell 6
          have x7 : w6.cell? ⟨NB, 7, none⟩ = some (.int .i64 r0) := IX.out.cell 7
          have x8 : w6.cell? ⟨NB, 8, none⟩ = some (.int .i64 r1) := IX.out.cell 8
          have x9 : w6.cell? ⟨NB, 9, none⟩ = some (.int .u64 r2) := IX.out.cell 9
          have x10 : w6.cell? ⟨NB, 10, none⟩ = some (.int .i64 r3) := IX.out.cell 10
          have x11 : w6.cell? ⟨NB, 11, none⟩ = some (.int .u64 r4) := IX.out.cell 11
          have x12 : w6.cell? ⟨NB, 12, none⟩ = some (.bool hB) := IX.out.cell 12
          have x13 : w6.cell? ⟨NB, 13, none⟩ = some (.int .i64 h1) := IX.out.cell 13
          have x14 : w6.cell? ⟨NB, 14, none⟩ = some (.int .i64 h2) := IX.out.cell 14
          have x15 : w6.cell? ⟨NB, 15, none⟩ = some (.slice qa qn qc) := IX.out.cell 15
          have m0 : w6.cell? ⟨H, 0, none⟩ = some (.int .i64 i0) := IM5.out.cell 0
          have m1 : w6.cell? ⟨H, 1, none⟩ = some (.int .i64 i1) := IM5.out.cell 1
          have m2 : w6.cell? ⟨H, 2, none⟩ = some (.int .u64 i2) := IM5.out.cell 2
          have m3 : w6.cell? ⟨H, 3, none⟩ = some (.int .i64 i3) := IM5.out.cell 3
          have m4 : w6.cell? ⟨H, 4, none⟩ = some (.int .u64 i4) := IM5.out.cell 4
          go_wp2_with fail
          clear x0 x1 x2 x3 x4 x5 x6 x7 x8 x9 x10 x11 x12 x13 x14 x15
          clear m0 m1 m2 m3 m4
          refine (le_true l1 l2 i1 i2 e3.out _).mono ?_; rintro e w7 ⟨rfl, hg7⟩
          replace IX := hide (IX.out.below hg7.below)
          replace IM5 := hide (IM5.out.below hg7.below)
          replace LB5 := hide (LB5.out.below hg7.below)
          replace ROW5 := hide (ROW5.out.below hg7.below)
          replace B5 := hide (B5.out.trans (hg7.below.mono B5.out.size))
          clear hg7
          have x0 : w7.cell? ⟨NB, 0, none⟩ = some (.int .i64 x) := IX.out.cell 0
          have x1 : w7.cell? ⟨NB, 1, none⟩ = some (.int .u64 y) := IX.out.cell 1
          have x2 : w7.cell? ⟨NB, 2, none⟩ = some (.int .i64 l0) := IX.out.cell 2
          have x3 : w7.cell? ⟨NB, 3, none⟩ = some (.int .i64 l1) := IX.out.cell 3
          have x4 : w7.cell? ⟨NB, 4, none⟩ = some (.int .u64 l2) := IX.out.cell 4
          have x5 : w7.cell? ⟨NB, 5, none⟩ = some (.int .i64 l3) := IX.out.cell 5
          have x6 : w7.cell? ⟨NB, 6, none⟩ = some (.int .u64 l4) := IX.out.cell 6
          have x7 : w7.cell? ⟨NB, 7, none⟩ = some (.int .i64 r0) := IX.out.cell 7
          have x8 : w7.cell? ⟨NB, 8, none⟩ = some (.int .i64 r1) := IX.out.cell 8
          have x9 : w7.cell? ⟨NB, 9, none⟩ = some (.int .u64 r2) := IX.out.cell 9
          have x10 : w7.cell? ⟨NB, 10, none⟩ = some (.int .i64 r3) := IX.out.cell 10
          have x11 : w7.cell? ⟨NB, 11, none⟩ = some (.int .u64 r4) := IX.out.cell 11
          have x12 : w7.cell? ⟨NB, 12, none⟩ = some (.bool hB) := IX.out.cell 12
          have x13 : w7.cell? ⟨NB, 13, none⟩ = some (.int .i64 h1) := IX.out.cell 13
          have x14 : w7.cell? ⟨NB, 14, none⟩ = some (.int .i64 h2) := IX.out.cell 14
          have x15 : w7.cell? ⟨NB, 15, none⟩ = some (.slice qa qn qc) := IX.out.cell 15
          have m0 : w7.cell? ⟨H, 0, none⟩ = some (.int .i64 i0) := IM5.out.cell 0
          have m1 : w7.cell? ⟨H, 1, none⟩ = some (.int .i64 i1) := IM5.out.cell 1
          have m2 : w7.cell? ⟨H, 2, none⟩ = some (.int .u64 i2) := IM5.out.cell 2
          have m3 : w7.cell? ⟨H, 3, none⟩ = some (.int .i64 i3) := IM5.out.cell 3
          have m4 : w7.cell? ⟨H, 4, none⟩ = some (.int .u64 i4) := IM5.out.cell 4
          go_wp2_with fail
          clear x0 x1 x2 x3 x4 x5 x6 x7 x8 x9 x10 x11 x12 x13 x14 x15
          clear m0 m1 m2 m3 m4
          refine (ck_zero r1 r2 e5.out _).mono ?_; rintro e w8 ⟨rfl, hg8⟩
          replace IX := hide (IX.out.below hg8.below)
          replace IM5 := hide (IM5.out.below hg8.below)
          replace LB5 := hide (LB5.out.below hg8.below)
          replace ROW5 := hide (ROW5.out.below hg8.below)
          replace B5 := hide (B5.out.trans (hg8.below.mono B5.out.size))
          clear hg8
          have x0 : w8.cell? ⟨NB, 0, none⟩ = some (.int .i64 x) := IX.out.cell 0
          have x1 : w8.cell? ⟨NB, 1, none⟩ = some (.int .u64 y) := IX.out.cell 1
          have x2 : w8.cell? ⟨NB, 2, none⟩ = some (.int .i64 l0) := IX.out.cell 2
          have x3 : w8.cell? ⟨NB, 3, none⟩ = some (.int .i64 l1) := IX.out.cell 3
          have x4 : w8.cell? ⟨NB, 4, none⟩ = some (.int .u64 l2) := IX.out.cell 4
          have x5 : w8.cell? ⟨NB, 5, none⟩ = some (.int .i64 l3) := IX.out.cell 5
          have x6 : w8.cell? ⟨NB, 6, none⟩ = some (.int .u64 l4) := IX.out.cell 6
          have x7 : w8.cell? ⟨NB, 7, none⟩ = some (.int .i64 r0) := IX.out.cell 7
          have x8 : w8.cell? ⟨NB, 8, none⟩ = some (.int .i64 r1) := IX.out.cell 8
          have x9 : w8.cell? ⟨NB, 9, none⟩ = some (.int .u64 r2) := IX.out.cell 9
          have x10 : w8.cell? ⟨NB, 10, none⟩ = some (.int .i64 r3) := IX.out.cell 10
          have x11 : w8.cell? ⟨NB, 11, none⟩ = some (.int .u64 r4) := IX.out.cell 11
          have x12 : w8.cell? ⟨NB, 12, none⟩ = some (.bool hB) := IX.out.cell 12
          have x13 : w8.cell? ⟨NB, 13, none⟩ = some (.int .i64 h1) := IX.out.cell 13
          have x14 : w8.cell? ⟨NB, 14, none⟩ = some (.int .i64 h2) := IX.out.cell 14
          have x15 : w8.cell? ⟨NB, 15, none⟩ = some (.slice qa qn qc) := IX.out.cell 15
          have m0 : w8.cell? ⟨H, 0, none⟩ = some (.int .i64 i0) := IM5.out.cell 0
          have m1 : w8.cell? ⟨H, 1, none⟩ = some (.int .i64 i1) := IM5.out.cell 1
          have m2 : w8.cell? ⟨H, 2, none⟩ = some (.int .u64 i2) := IM5.out.cell 2
          have m3 : w8.cell? ⟨H, 3, none⟩ = some (.int .i64 i3) := IM5.out.cell 3
          have m4 : w8.cell? ⟨H, 4, none⟩ = some (.int .u64 i4) := IM5.out.cell 4
          go_wp2_with fail
          clear x0 x1 x2 x3 x4 x5 x6 x7 x8 x9 x10 x11 x12 x13 x14 x15
          clear m0 m1 m2 m3 m4
          refine (le_true i1 i2 r1 r2 e6.out _).mono ?_; rintro e w9 ⟨rfl, hg9⟩
          replace IX := hide (IX.out.below hg9.below)
          replace IM5 := hide (IM5.out.below hg9.below)
          replace LB5 := hide (LB5.out.below hg9.below)
          replace ROW5 := hide (ROW5.out.below hg9.below)
          replace B5 := hide (B5.out.trans (hg9.below.mono B5.out.size))
          clear hg9
          have x0 : w9.cell? ⟨NB, 0, none⟩ = some (.int .i64 x) := IX.out.cell 0
          have x1 : w9.cell? ⟨NB, 1, none⟩ = some (.int .u64 y) := IX.out.cell 1
          have x2 : w9.cell? ⟨NB, 2, none⟩ = some (.int .i64 l0) := IX.out.cell 2
          have x3 : w9.cell? ⟨NB, 3, none⟩ = some (.int .i64 l1) := IX.out.cell 3
          have x4 : w9.cell? ⟨NB, 4, none⟩ = some (.int .u64 l2) := IX.out.cell 4
          have x5 : w9.cell? ⟨NB, 5, none⟩ = some (.int .i64 l3) := IX.out.cell 5
          have x6 : w9.cell? ⟨NB, 6, none⟩ = some (.int .u64 l4) := IX.out.cell 6
          have x7 : w9.cell? ⟨NB, 7, none⟩ = some (.int .i64 r0) := IX.out.cell 7
          have x8 : w9.cell? ⟨NB, 8, none⟩ = some (.int .i64 r1) := IX.out.cell 8
          have x9 : w9.cell? ⟨NB, 9, none⟩ = some (.int .u64 r2) := IX.out.cell 9
          have x10 : w9.cell? ⟨NB, 10, none⟩ = some (.int .i64 r3) := IX.out.cell 10
          have x11 : w9.cell? ⟨NB, 11, none⟩ = some (.int .u64 r4) := IX.out.cell 11
          have x12 : w9.cell? ⟨NB, 12, none⟩ = some (.bool hB) := IX.out.cell 12
          have x13 : w9.cell? ⟨NB, 13, none⟩ = some (.int .i64 h1) := IX.out.cell 13
          have x14 : w9.cell? ⟨NB, 14, none⟩ = some (.int .i64 h2) := IX.out.cell 14
          have x15 : w9.cell? ⟨NB, 15, none⟩ = some (.slice qa qn qc) := IX.out.cell 15
          have m0 : w9.cell? ⟨H, 0, none⟩ = some (.int .i64 i0) := IM5.out.cell 0
          have m1 : w9.cell? ⟨H, 1, none⟩ = some (.int .i64 i1) := IM5.out.cell 1
          have m2 : w9.cell? ⟨H, 2, none⟩ = some (.int .u64 i2) := IM5.out.cell 2
          have m3 : w9.cell? ⟨H, 3, none⟩ = some (.int .i64 i3) := IM5.out.cell 3
          have m4 : w9.cell? ⟨H, 4, none⟩ = some (.int .u64 i4) := IM5.out.cell 4
          go_wp2_with fail
          clear x0 x1 x2 x3 x4 x5 x6 x7 x8 x9 x10 x11 x12 x13 x14 x15
          clear m0 m1 m2 m3 m4
          refine (may_any p m i0 i1 i2 i3 i4 _ LB5.out x y hb hy0).mono ?_; rintro e w10 ⟨rfl, hg⟩
          rw [show mayA i1 i3 i4 x y = true from f1.out]
          replace IX := hide (IX.out.below hg)
          replace IM5 := hide (IM5.out.below hg)
          replace LB5 := hide (LB5.out.below hg)
          replace ROW5 := hide (ROW5.out.below hg)
          replace B5 := hide (B5.out.trans (hg.mono B5.out.size))
          clear hg
          have x0 : w10.cell? ⟨NB, 0, none⟩ = some (.int .i64 x) := IX.out.cell 0
          have x1 : w10.cell? ⟨NB, 1, none⟩ = some (.int .u64 y) := IX.out.cell 1
          have x2 : w10.cell? ⟨NB, 2, none⟩ = some (.int .i64 l0) := IX.out.cell 2
          have x3 : w10.cell? ⟨NB, 3, none⟩ = some (.int .i64 l1) := IX.out.cell 3
          have x4 : w10.cell? ⟨NB, 4, none⟩ = some (.int .u64 l2) := IX.out.cell 4
          have x5 : w10.cell? ⟨NB, 5, none⟩ = some (.int .i64 l3) := IX.out.cell 5
          have x6 : w10.cell? ⟨NB, 6, none⟩ = some (.int .u64 l4) := IX.out.cell 6
          have x7 : w10.cell? ⟨NB, 7, none⟩ = some (.int .i64 r0) := IX.out.cell 7
          have x8 : w10.cell? ⟨NB, 8, none⟩ = some (.int .i64 r1) := IX.out.cell 8
          have x9 : w10.cell? ⟨NB, 9, none⟩ = some (.int .u64 r2) := IX.out.cell 9
          have x10 : w10.cell? ⟨NB, 10, none⟩ = some (.int .i64 r3) := IX.out.cell 10
          have x11 : w10.cell? ⟨NB, 11, none⟩ = some (.int .u64 r4) := IX.out.cell 11
          have x12 : w10.cell? ⟨NB, 12, none⟩ = some (.bool hB) := IX.out.cell 12
          have x13 : w10.cell? ⟨NB, 13, none⟩ = some (.int .i64 h1) := IX.out.cell 13
          have x14 : w10.cell? ⟨NB, 14, none⟩ = some (.int .i64 h2) := IX.out.cell 14
          have x15 : w10.cell? ⟨NB, 15, none⟩ = some (.slice qa qn qc) := IX.out.cell 15
          rcases Nat.eq_zero_or_pos qn with hq | hq
          · subst hq
            go_wp2
            clear x0 x1 x2 x3 x4 x5 x6 x7 x8 x9 x10 x11 x12 x13 x14 x15
            go_loopw [11] (fun i wz => ∃ k : Nat, k ≤ j ∧ i = .int .i64 (k : Int) ∧ Hid (Below w10.heap.size w10 wz)) (fun i _ => j - (intOf i).toNat)
            case atStart => exact ⟨0, by omega, rfl, Below.refl _ _⟩
            case round =>
              obtain ⟨k, hk, rfl, HK⟩ := hrel
              by_cases hlt2 : k < j
              · have hka : k < an := by omega
                have hkl : k < As.length := by rw [han.out]; omega
                have RWk := ROW5.out.below HK.out
                have IXk := IX.out.below HK.out
                have hpp := hap2.out k hlt2
                have c0 : wr.cell? ⟨g, k * 16, none⟩ = some (.int .i64 As[k].1.1.1.1) := RWk.cellS han.out hkl (c := 0) (by decide)
                have c1 : wr.cell? ⟨g, k * 16 + 1, none⟩ = some (.int .u64 As[k].1.1.1.2) := RWk.cellS han.out hkl (c := 1) (by decide)
                have d0 : wr.cell? ⟨NB, 0, none⟩ = some (.int .i64 x) := IXk.cell 0
                have d1 : wr.cell? ⟨NB, 1, none⟩ = some (.int .u64 y) := IXk.cell 1
                obtain ⟨⟨kx, ky⟩, hkx⟩ : ∃ z, As[k].1.1.1 = z := ⟨_, rfl⟩
                rw [hkx] at c0 c1 hpp
                have hne : Hid (kx = x → ¬ky = y) := by
                  intro e1 e2
                  exact hpp (by rw [e1, e2])
                clear hkx hpp RWk IXk
                go_wp2
                refine regionL 8 (fun w' => w'.cell? ⟨g, k * 16, none⟩ = some (.int .i64 kx) ∧ w'.cell? ⟨g, k * 16 + 1, none⟩ = some (.int .u64 ky) ∧ w'.cell? ⟨NB, 0, none⟩ = some (.int .i64 x) ∧ w'.cell? ⟨NB, 1, none⟩ = some (.int .u64 y)) mixed ⟨c0, c1, d0, d1⟩ (fun hHeld => ?_)
                refine pickA (v := ?_) 0 (some 110) rfl rfl (by kernel_rfl) (by kernel_rfl) (by kernel_rfl) (by decide) (fun _ _ _ h => h) (by rfl) ?_ (by assumption) ?_
                rotate_left
                · intro w'
                  go_simp
                  try with_reducible rfl
                try simp only [Act.put, List.setIfInBounds_toArray, List.set_cons_zero, List.set_cons_succ]
                refine pickA (v := ?_) 1 (some 111) rfl rfl (by kernel_rfl) (by kernel_rfl) (by kernel_rfl) (by decide) (fun _ _ _ h => h) (by rfl) ?_ (by assumption) ?_
                rotate_left
                · intro w'
                  go_simp
                  try with_reducible rfl
                try simp only [Act.put, List.setIfInBounds_toArray, List.set_cons_zero, List.set_cons_succ]
                refine pickA (v := ?_) 2 (some 112) rfl rfl (by kernel_rfl) (by kernel_rfl) (by kernel_rfl) (by decide) (fun _ _ _ h => h) (by rfl) ?_ (by assumption) ?_
                rotate_left
                · intro w'
                  go_simp
                  try with_reducible rfl
                try simp only [Act.put, List.setIfInBounds_toArray, List.set_cons_zero, List.set_cons_succ]
                refine pickA (v := ?_) 3 (some 113) rfl rfl (by kernel_rfl) (by kernel_rfl) (by kernel_rfl) (by decide) (fun _ _ _ h => h) (by rfl) ?_ (by assumption) ?_
                rotate_left
                · intro w'
                  go_simp
                  try with_reducible rfl
                try simp only [Act.put, List.setIfInBounds_toArray, List.set_cons_zero, List.set_cons_succ]
                refine pickL (v := ?_) 4 (some 114) rfl rfl (by kernel_rfl) (by kernel_rfl) (by kernel_rfl) (by decide) (by kernel_rfl) (by kernel_rfl) (fun _ _ _ h => h) (by rfl) ?_ (by assumption) ?_
                rotate_left
                · intro w' hSw
                  obtain ⟨q0, q1, q2, q3⟩ := hSw
                  go_simp
                  try with_reducible rfl
                try simp only [Act.put, List.setIfInBounds_toArray, List.set_cons_zero, List.set_cons_succ]
                refine pickA (v := ?_) 5 (some 115) rfl rfl (by kernel_rfl) (by kernel_rfl) (by kernel_rfl) (by decide) (fun _ _ _ h => h) (by rfl) ?_ (by assumption) ?_
                rotate_left
                · intro w'
                  go_simp
                  try with_reducible rfl
                try simp only [Act.put, List.setIfInBounds_toArray, List.set_cons_zero, List.set_cons_succ]
                refine pickL (v := ?_) 6 (some 116) rfl rfl (by kernel_rfl) (by kernel_rfl) (by kernel_rfl) (by decide) (by kernel_rfl) (by kernel_rfl) (fun _ _ _ h => h) (by rfl) ?_ (by assumption) ?_
                rotate_left
                · intro w' hSw
                  obtain ⟨q0, q1, q2, q3⟩ := hSw
                  go_simp
                  try with_reducible rfl
                try simp only [Act.put, List.setIfInBounds_toArray, List.set_cons_zero, List.set_cons_succ]
                refine pickA (v := .bool false) 7 (some 117) rfl rfl (by kernel_rfl) (by kernel_rfl) (by kernel_rfl) (by decide) (fun _ _ _ h => h) (by rfl) ?_ (by assumption) ?_
                · intro w'
                  go_simp
                  first | exact hne.out | (intro h1; exact hne.out h1) | simp [hne.out]
                try simp only [Act.put, List.setIfInBounds_toArray, List.set_cons_zero, List.set_cons_succ]
                refine doneL (by kernel_rfl) ?_ _
                clear hHeld
                go_wp2
                exact ⟨⟨k + 1, by omega, by simp, HK.out.trans (((Below.refl _ wr).drew).mono HK.out.size)⟩, by simp [intOf]; omega⟩
              · obtain rfl : k = j := by omega
                go_wp2
                exact ⟨⟨k + 1, by omega, by simp, B5.out.trans (HK.out.mono B5.out.size)⟩, by simp [intOf]; omega⟩
          · have hBt : hB = true := by
              cases hB with
              | true => rfl
              | false => exact absurd (f4.out rfl) (by omega)
            subst hBt
            have hq2 : (0 : Int) < (qn : Int) := by omega
            go_wp2
            clear x0 x1 x2 x3 x4 x5 x6 x7 x8 x9 x10 x11 x12 x13 x14 x15
            go_loopw [11] (fun i wz => ∃ k : Nat, k ≤ j ∧ i = .int .i64 (k : Int) ∧ Hid (Below w10.heap.size w10 wz)) (fun i _ => j - (intOf i).toNat)
            case atStart => exact ⟨0, by omega, rfl, Below.refl _ _⟩
            case round =>
              obtain ⟨k, hk, rfl, HK⟩ := hrel
              by_cases hlt2 : k < j
              · have hka : k < an := by omega
                have hkl : k < As.length := by rw [han.out]; omega
                have RWk := ROW5.out.below HK.out
                have IXk := IX.out.below HK.out
                have hpp := hap2.out k hlt2
                have c0 : wr.cell? ⟨g, k * 16, none⟩ = some (.int .i64 As[k].1.1.1.1) := RWk.cellS han.out hkl (c := 0) (by decide)
                have c1 : wr.cell? ⟨g, k * 16 + 1, none⟩ = some (.int .u64 As[k].1.1.1.2) := RWk.cellS han.out hkl (c := 1) (by decide)
                have d0 : wr.cell? ⟨NB, 0, none⟩ = some (.int .i64 x) := IXk.cell 0
                have d1 : wr.cell? ⟨NB, 1, none⟩ = some (.int .u64 y) := IXk.cell 1
                obtain ⟨⟨kx, ky⟩, hkx⟩ : ∃ z, As[k].1.1.1 = z := ⟨_, rfl⟩
                rw [hkx] at c0 c1 hpp
                have hne : Hid (kx = x → ¬ky = y) := by
                  intro e1 e2
                  exact hpp (by rw [e1, e2])
                clear hkx hpp RWk IXk
                go_wp2
                refine regionL 8 (fun w' => w'.cell? ⟨g, k * 16, none⟩ = some (.int .i64 kx) ∧ w'.cell? ⟨g, k * 16 + 1, none⟩ = some (.int .u64 ky) ∧ w'.cell? ⟨NB, 0, none⟩ = some (.int .i64 x) ∧ w'.cell? ⟨NB, 1, none⟩ = some (.int .u64 y)) mixed ⟨c0, c1, d0, d1⟩ (fun hHeld => ?_)
                refine pickA (v := ?_) 0 (some 110) rfl rfl (by kernel_rfl) (by kernel_rfl) (by kernel_rfl) (by decide) (fun _ _ _ h => h) (by rfl) ?_ (by assumption) ?_
                rotate_left
                · intro w'
                  go_simp
                  try with_reducible rfl
                try simp only [Act.put, List.setIfInBounds_toArray, List.set_cons_zero, List.set_cons_succ]
                refine pickA (v := ?_) 1 (some 111) rfl rfl (by kernel_rfl) (by kernel_rfl) (by kernel_rfl) (by decide) (fun _ _ _ h => h) (by rfl) ?_ (by assumption) ?_
                rotate_left
                · intro w'
                  go_simp
                  try with_reducible rfl
                try simp only [Act.put, List.setIfInBounds_toArray, List.set_cons_zero, List.set_cons_succ]
                refine pickA (v := ?_) 2 (some 112) rfl rfl (by kernel_rfl) (by kernel_rfl) (by kernel_rfl) (by decide) (fun _ _ _ h => h) (by rfl) ?_ (by assumption) ?_
                rotate_left
                · intro w'
                  go_simp
                  try with_reducible rfl
                try simp only [Act.put, List.setIfInBounds_toArray, List.set_cons_zero, List.set_cons_succ]
                refine pickA (v := ?_) 3 (some 113) rfl rfl (by kernel_rfl) (by kernel_rfl) (by kernel_rfl) (by decide) (fun _ _ _ h => h) (by rfl) ?_ (by assumption) ?_
                rotate_left
                · intro w'
                  go_simp
                  try with_reducible rfl
                try simp only [Act.put, List.setIfInBounds_toArray, List.set_cons_zero, List.set_cons_succ]
                refine pickL (v := ?_) 4 (some 114) rfl rfl (by kernel_rfl) (by kernel_rfl) (by kernel_rfl) (by decide) (by kernel_rfl) (by kernel_rfl) (fun _ _ _ h => h) (by rfl) ?_ (by assumption) ?_
                rotate_left
                · intro w' hSw
                  obtain ⟨q0, q1, q2, q3⟩ := hSw
                  go_simp
                  try with_reducible rfl
                try simp only [Act.put, List.setIfInBounds_toArray, List.set_cons_zero, List.set_cons_succ]
                refine pickA (v := ?_) 5 (some 115) rfl rfl (by kernel_rfl) (by kernel_rfl) (by kernel_rfl) (by decide) (fun _ _ _ h => h) (by rfl) ?_ (by assumption) ?_
                rotate_left
                · intro w'
                  go_simp
                  try with_reducible rfl
                try simp only [Act.put, List.setIfInBounds_toArray, List.set_cons_zero, List.set_cons_succ]
                refine pickL (v := ?_) 6 (some 116) rfl rfl (by kernel_rfl) (by kernel_rfl) (by kernel_rfl) (by decide) (by kernel_rfl) (by kernel_rfl) (fun _ _ _ h => h) (by rfl) ?_ (by assumption) ?_
                rotate_left
                · intro w' hSw
                  obtain ⟨q0, q1, q2, q3⟩ := hSw
                  go_simp
                  try with_reducible rfl
                try simp only [Act.put, List.setIfInBounds_toArray, List.set_cons_zero, List.set_cons_succ]
                refine pickA (v := .bool false) 7 (some 117) rfl rfl (by kernel_rfl) (by kernel_rfl) (by kernel_rfl) (by decide) (fun _ _ _ h => h) (by rfl) ?_ (by assumption) ?_
                · intro w'
                  go_simp
                  first | exact hne.out | (intro h1; exact hne.out h1) | simp [hne.out]
                try simp only [Act.put, List.setIfInBounds_toArray, List.set_cons_zero, List.set_cons_succ]
                refine doneL (by kernel_rfl) ?_ _
                clear hHeld
                go_wp2
                exact ⟨⟨k + 1, by omega, by simp, HK.out.trans (((Below.refl _ wr).drew).mono HK.out.size)⟩, by simp [intOf]; omega⟩
              · obtain rfl : k = j := by omega
                go_wp2
                exact ⟨⟨k + 1, by omega, by simp, B5.out.trans (HK.out.mono B5.out.size)⟩, by simp [intOf]; omega⟩
    · obtain rfl : j = an := by omega
      go_wp2
      go_ret
      exact ⟨rfl, B4.out.trans (HB.out.mono B4.out.size)⟩

theorem linkSorted_walk (i0 i1 i2 i3 i4 : Int) (v : Value) (os : List Opv) (w : World) (hR : Ranks w) (hO : OpsAt w v os) (hb : 0 ≤ i4) : Calls Tryd.prog 4 #[.agg #[.int .i64 i0, .int .i64 i1, .int .u64 i2, .int .i64 i3, .int .u64 i4], v] w fun e w' => e = .returned (.bool true) ∧ Below w.heap.size w w' := by
  by_cases hE : newE (i0, i1, i2, i3, i4) = 0
  · exact linkSorted_ok i0 i1 i2 i3 i4 v os w hR hO hb hE
  · exact linkSorted_bad i0 i1 i2 i3 i4 v os w hR hO hb hE

end Go.Proofs.YtledkljffjomdaaDoor
