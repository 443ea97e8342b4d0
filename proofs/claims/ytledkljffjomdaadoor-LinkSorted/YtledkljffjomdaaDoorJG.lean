/- The law's calls, and a row of them. -/
import Derived.Test.YtledkljffjomdaaDoorJF
import Derived.Test.YtledkljffjomdaaDoorPO
namespace Go.Proofs.YtledkljffjomdaaDoor
open Go.RowKit Go.Maps

set_option maxHeartbeats 8000000 in
set_option maxRecDepth 100000 in
theorem do_any (base p m : Nat) (me : Rf) (L : Tb) (w : World) (h : LK w base p m me L) (hB : base ≤ w.heap.size) (k x y a0 a1 a2 a3 a4 b0 b1 b2 b3 b4 oa oo : Int) (hv : okV (x, y)) (hm : okMe me) (hy : 0 ≤ y) (hR : Ranks w) (hok : OkT L) : Calls Tryd.prog 17 #[.pointer (some ⟨p, 0, none⟩), .agg #[.int .i64 k, .int .i64 x, .int .u64 y, .int .i64 a0, .int .i64 a1, .int .u64 a2, .int .i64 a3, .int .u64 a4, .int .i64 b0, .int .i64 b1, .int .u64 b2, .int .i64 b3, .int .u64 b4, .int .i64 oa, .int .i64 oo]] w fun e w' => ∃ E L', e = .returned (.int .i64 E) ∧ Eff me (x, y) E L L' ∧ KX w w' base p m me L L' := by
  by_cases hk : k = 1
  · subst hk
    have B0 : Below w.heap.size w (w.alloc (.cells #[.int .i64 1, .int .i64 x, .int .u64 y, .int .i64 a0, .int .i64 a1, .int .u64 a2, .int .i64 a3, .int .u64 a4, .int .i64 b0, .int .i64 b1, .int .u64 b2, .int .i64 b3, .int .u64 b4, .int .i64 oa, .int .i64 oo] 48)) := (Below.refl w.heap.size w).alloc (Nat.le_refl _) _
    have L1 := hide (h.below B0)
    have HR := hide (hR.below B0)
    have X1 := hide (h.kx B0)
    have hB1 : base ≤ (w.alloc (.cells #[.int .i64 1, .int .i64 x, .int .u64 y, .int .i64 a0, .int .i64 a1, .int .u64 a2, .int .i64 a3, .int .u64 a4, .int .i64 b0, .int .i64 b1, .int .u64 b2, .int .i64 b3, .int .u64 b4, .int .i64 oa, .int .i64 oo] 48)).heap.size := by simp; omega
    clear B0 hR h
    go_enter Tryd.func17, Tryd.ntmps17
    go_wp2_with fail
    generalize w.alloc (.cells #[.int .i64 1, .int .i64 x, .int .u64 y, .int .i64 a0, .int .i64 a1, .int .u64 a2, .int .i64 a3, .int .u64 a4, .int .i64 b0, .int .i64 b1, .int .u64 b2, .int .i64 b3, .int .u64 b4, .int .i64 oa, .int .i64 oo] 48) = W1 at L1 HR X1 hB1 ⊢
    refine (put_all base p m me L _ L1.out hB1 x y hv hm hy HR.out hok a0 a1 a2 a3 a4 b0 b1 b2 b3 b4 oa oo).mono ?_; rintro e w2 ⟨L', rfl, hE, -, hx⟩
    have X2 := hide (X1.out.trans hx)
    replace hE := hide hE
    clear hx X1 L1 HR
    go_wp2
    go_ret
    exact ⟨_, L', rfl, hE.out, X2.out⟩
  have e1 : (k == 1) = false := by simpa using hk
  clear hk
  by_cases hk : k = 2
  · subst hk
    have B0 : Below w.heap.size w (w.alloc (.cells #[.int .i64 2, .int .i64 x, .int .u64 y, .int .i64 a0, .int .i64 a1, .int .u64 a2, .int .i64 a3, .int .u64 a4, .int .i64 b0, .int .i64 b1, .int .u64 b2, .int .i64 b3, .int .u64 b4, .int .i64 oa, .int .i64 oo] 48)) := (Below.refl w.heap.size w).alloc (Nat.le_refl _) _
    have L1 := hide (h.below B0)
    have HR := hide (hR.below B0)
    have X1 := hide (h.kx B0)
    have hB1 : base ≤ (w.alloc (.cells #[.int .i64 2, .int .i64 x, .int .u64 y, .int .i64 a0, .int .i64 a1, .int .u64 a2, .int .i64 a3, .int .u64 a4, .int .i64 b0, .int .i64 b1, .int .u64 b2, .int .i64 b3, .int .u64 b4, .int .i64 oa, .int .i64 oo] 48)).heap.size := by simp; omega
    clear B0 hR h
    go_enter Tryd.func17, Tryd.ntmps17
    go_wp2_with fail
    generalize w.alloc (.cells #[.int .i64 2, .int .i64 x, .int .u64 y, .int .i64 a0, .int .i64 a1, .int .u64 a2, .int .i64 a3, .int .u64 a4, .int .i64 b0, .int .i64 b1, .int .u64 b2, .int .i64 b3, .int .u64 b4, .int .i64 oa, .int .i64 oo] 48) = W1 at L1 HR X1 hB1 ⊢
    refine (out_all base p m me L _ L1.out hB1 x y hv hm hy hok oa oo).mono ?_; rintro e w2 ⟨qa, qn, qc, L', rfl, hE, -, hx⟩
    have X2 := hide (X1.out.trans hx)
    replace hE := hide hE
    clear hx X1 L1 HR
    go_wp2
    go_ret
    exact ⟨_, L', rfl, hE.out, X2.out⟩
  have e2 : (k == 2) = false := by simpa using hk
  clear hk
  by_cases hk : k = 3
  · subst hk
    have B0 : Below w.heap.size w (w.alloc (.cells #[.int .i64 3, .int .i64 x, .int .u64 y, .int .i64 a0, .int .i64 a1, .int .u64 a2, .int .i64 a3, .int .u64 a4, .int .i64 b0, .int .i64 b1, .int .u64 b2, .int .i64 b3, .int .u64 b4, .int .i64 oa, .int .i64 oo] 48)) := (Below.refl w.heap.size w).alloc (Nat.le_refl _) _
    have L1 := hide (h.below B0)
    have HR := hide (hR.below B0)
    have X1 := hide (h.kx B0)
    have hB1 : base ≤ (w.alloc (.cells #[.int .i64 3, .int .i64 x, .int .u64 y, .int .i64 a0, .int .i64 a1, .int .u64 a2, .int .i64 a3, .int .u64 a4, .int .i64 b0, .int .i64 b1, .int .u64 b2, .int .i64 b3, .int .u64 b4, .int .i64 oa, .int .i64 oo] 48)).heap.size := by simp; omega
    clear B0 hR h
    go_enter Tryd.func17, Tryd.ntmps17
    go_wp2_with fail
    generalize w.alloc (.cells #[.int .i64 3, .int .i64 x, .int .u64 y, .int .i64 a0, .int .i64 a1, .int .u64 a2, .int .i64 a3, .int .u64 a4, .int .i64 b0, .int .i64 b1, .int .u64 b2, .int .i64 b3, .int .u64 b4, .int .i64 oa, .int .i64 oo] 48) = W1 at L1 HR X1 hB1 ⊢
    refine (left_all base p m me L _ L1.out hB1 x y hv hm hy HR.out hok a0 a1 a2 a3 a4).mono ?_; rintro e w2 ⟨E, L', rfl, hE, hx⟩
    have X2 := hide (X1.out.trans hx)
    replace hE := hide hE
    clear hx X1 L1 HR
    go_wp2
    go_ret
    exact ⟨E, L', rfl, hE.out, X2.out⟩
  have e3 : (k == 3) = false := by simpa using hk
  clear hk
  by_cases hk : k = 4
  · subst hk
    have B0 : Below w.heap.size w (w.alloc (.cells #[.int .i64 4, .int .i64 x, .int .u64 y, .int .i64 a0, .int .i64 a1, .int .u64 a2, .int .i64 a3, .int .u64 a4, .int .i64 b0, .int .i64 b1, .int .u64 b2, .int .i64 b3, .int .u64 b4, .int .i64 oa, .int .i64 oo] 48)) := (Below.refl w.heap.size w).alloc (Nat.le_refl _) _
    have L1 := hide (h.below B0)
    have HR := hide (hR.below B0)
    have X1 := hide (h.kx B0)
    have hB1 : base ≤ (w.alloc (.cells #[.int .i64 4, .int .i64 x, .int .u64 y, .int .i64 a0, .int .i64 a1, .int .u64 a2, .int .i64 a3, .int .u64 a4, .int .i64 b0, .int .i64 b1, .int .u64 b2, .int .i64 b3, .int .u64 b4, .int .i64 oa, .int .i64 oo] 48)).heap.size := by simp; omega
    clear B0 hR h
    go_enter Tryd.func17, Tryd.ntmps17
    go_wp2_with fail
    generalize w.alloc (.cells #[.int .i64 4, .int .i64 x, .int .u64 y, .int .i64 a0, .int .i64 a1, .int .u64 a2, .int .i64 a3, .int .u64 a4, .int .i64 b0, .int .i64 b1, .int .u64 b2, .int .i64 b3, .int .u64 b4, .int .i64 oa, .int .i64 oo] 48) = W1 at L1 HR X1 hB1 ⊢
    refine (right_all base p m me L _ L1.out hB1 x y hv hm hy HR.out hok a0 a1 a2 a3 a4 oa oo).mono ?_; rintro e w2 ⟨E, L', rfl, hE, hx⟩
    have X2 := hide (X1.out.trans hx)
    replace hE := hide hE
    clear hx X1 L1 HR
    go_wp2
    go_ret
    exact ⟨E, L', rfl, hE.out, X2.out⟩
  have e4 : (k == 4) = false := by simpa using hk
  clear hk
  by_cases hk : k = 5
  · subst hk
    have B0 : Below w.heap.size w (w.alloc (.cells #[.int .i64 5, .int .i64 x, .int .u64 y, .int .i64 a0, .int .i64 a1, .int .u64 a2, .int .i64 a3, .int .u64 a4, .int .i64 b0, .int .i64 b1, .int .u64 b2, .int .i64 b3, .int .u64 b4, .int .i64 oa, .int .i64 oo] 48)) := (Below.refl w.heap.size w).alloc (Nat.le_refl _) _
    have L1 := hide (h.below B0)
    have HR := hide (hR.below B0)
    have X1 := hide (h.kx B0)
    have hB1 : base ≤ (w.alloc (.cells #[.int .i64 5, .int .i64 x, .int .u64 y, .int .i64 a0, .int .i64 a1, .int .u64 a2, .int .i64 a3, .int .u64 a4, .int .i64 b0, .int .i64 b1, .int .u64 b2, .int .i64 b3, .int .u64 b4, .int .i64 oa, .int .i64 oo] 48)).heap.size := by simp; omega
    clear B0 hR h
    go_enter Tryd.func17, Tryd.ntmps17
    go_wp2_with fail
    generalize w.alloc (.cells #[.int .i64 5, .int .i64 x, .int .u64 y, .int .i64 a0, .int .i64 a1, .int .u64 a2, .int .i64 a3, .int .u64 a4, .int .i64 b0, .int .i64 b1, .int .u64 b2, .int .i64 b3, .int .u64 b4, .int .i64 oa, .int .i64 oo] 48) = W1 at L1 HR X1 hB1 ⊢
    refine (lock_all base p m me L _ L1.out hB1 x y hv hm hy hok oa oo).mono ?_; rintro e w2 ⟨B, E, L', rfl, hE, hx⟩
    have X2 := hide (X1.out.trans hx)
    replace hE := hide hE
    clear hx X1 L1 HR
    go_wp2
    go_ret
    exact ⟨E, L', rfl, hE.out, X2.out⟩
  have e5 : (k == 5) = false := by simpa using hk
  clear hk
  by_cases hk : k = 6
  · subst hk
    have B0 : Below w.heap.size w (w.alloc (.cells #[.int .i64 6, .int .i64 x, .int .u64 y, .int .i64 a0, .int .i64 a1, .int .u64 a2, .int .i64 a3, .int .u64 a4, .int .i64 b0, .int .i64 b1, .int .u64 b2, .int .i64 b3, .int .u64 b4, .int .i64 oa, .int .i64 oo] 48)) := (Below.refl w.heap.size w).alloc (Nat.le_refl _) _
    have L1 := hide (h.below B0)
    have HR := hide (hR.below B0)
    have X1 := hide (h.kx B0)
    have hB1 : base ≤ (w.alloc (.cells #[.int .i64 6, .int .i64 x, .int .u64 y, .int .i64 a0, .int .i64 a1, .int .u64 a2, .int .i64 a3, .int .u64 a4, .int .i64 b0, .int .i64 b1, .int .u64 b2, .int .i64 b3, .int .u64 b4, .int .i64 oa, .int .i64 oo] 48)).heap.size := by simp; omega
    clear B0 hR h
    go_enter Tryd.func17, Tryd.ntmps17
    go_wp2_with fail
    generalize w.alloc (.cells #[.int .i64 6, .int .i64 x, .int .u64 y, .int .i64 a0, .int .i64 a1, .int .u64 a2, .int .i64 a3, .int .u64 a4, .int .i64 b0, .int .i64 b1, .int .u64 b2, .int .i64 b3, .int .u64 b4, .int .i64 oa, .int .i64 oo] 48) = W1 at L1 HR X1 hB1 ⊢
    refine (free_all base p m me L _ L1.out hB1 x y hv hm hy hok oa oo).mono ?_; rintro e w2 ⟨n1, n2, B, E, L', rfl, hE, hx⟩
    have X2 := hide (X1.out.trans hx)
    replace hE := hide hE
    clear hx X1 L1 HR
    go_wp2
    go_ret
    exact ⟨E, L', rfl, hE.out, X2.out⟩
  have e6 : (k == 6) = false := by simpa using hk
  clear hk
  have B0 : Below w.heap.size w (w.alloc (.cells #[.int .i64 k, .int .i64 x, .int .u64 y, .int .i64 a0, .int .i64 a1, .int .u64 a2, .int .i64 a3, .int .u64 a4, .int .i64 b0, .int .i64 b1, .int .u64 b2, .int .i64 b3, .int .u64 b4, .int .i64 oa, .int .i64 oo] 48)) := (Below.refl w.heap.size w).alloc (Nat.le_refl _) _
  have L1 := hide (h.below B0)
  have HR := hide (hR.below B0)
  have X1 := hide (h.kx B0)
  have hB1 : base ≤ (w.alloc (.cells #[.int .i64 k, .int .i64 x, .int .u64 y, .int .i64 a0, .int .i64 a1, .int .u64 a2, .int .i64 a3, .int .u64 a4, .int .i64 b0, .int .i64 b1, .int .u64 b2, .int .i64 b3, .int .u64 b4, .int .i64 oa, .int .i64 oo] 48)).heap.size := by simp; omega
  clear B0 hR h
  go_enter Tryd.func17, Tryd.ntmps17
  go_wp2
  go_ret
  exact ⟨0, L, rfl, Eff.refl _ _ _ hok, X1.out⟩

/-- A row of calls that came in. -/
def OpsAt (w : World) (v : Value) (os : List Opv) : Prop := ∃ a c, v = .slice a os.length c ∧ os.length ≤ maxLen ∧ (∀ o ∈ os, okOp o) ∧ (0 < os.length → ∃ g b, a = some ⟨g, b, none⟩ ∧ g < w.heap.size ∧ ∀ j o, os[j]? = some o → ∀ k, k < 15 → w.cell? ⟨g, b + j * 15 + k, none⟩ = (opc o)[k]?)
theorem OpsAt.below {w w' : World} {v : Value} {os : List Opv} (h : OpsAt w v os) (hb : Below w.heap.size w w') : OpsAt w' v os := by
  obtain ⟨a, c, rfl, hl, h1, h2⟩ := h
  refine ⟨a, c, rfl, hl, h1, fun q => ?_⟩
  obtain ⟨g, b, rfl, hg, h3⟩ := h2 q
  exact ⟨g, b, rfl, Nat.lt_of_lt_of_le hg hb.size, fun j o hj k hk => by rw [hb.cell (p := ⟨g, b + j * 15 + k, none⟩) hg]; exact h3 j o hj k hk⟩
theorem OpsAt.low {w w' : World} {B : Nat} {v : Value} {os : List Opv} (h : OpsAt w v os) (hB : w.heap.size ≤ B) (hb : Below B w w') : OpsAt w' v os := h.below (hb.mono hB)

set_option maxHeartbeats 8000000 in
set_option maxRecDepth 100000 in
theorem play_bad (i0 i1 i2 i3 i4 : Int) (hb : 0 ≤ i4) (hE : newE (i0, i1, i2, i3, i4) ≠ 0) (v : Value) (os : List Opv) (w : World) (hR : Ranks w) (hO : OpsAt w v os) : Calls Tryd.prog 11 #[.agg #[.int .i64 i0, .int .i64 i1, .int .u64 i2, .int .i64 i3, .int .u64 i4], v] w fun e w' => e = .returned (.pointer none) ∧ Below w.heap.size w w' := by
  obtain ⟨va, vc, rfl, -, -, -⟩ := id hO
  have B0 : Below w.heap.size w (w.alloc (.cells #[.int .i64 i0, .int .i64 i1, .int .u64 i2, .int .i64 i3, .int .u64 i4] 29)) := (Below.refl w.heap.size w).alloc (Nat.le_refl _) _
  have HR := hide (hR.below B0)
  have HO := hide (hO.below B0)
  have B1 := hide B0
  clear B0 hR hO
  go_enter Tryd.func11, Tryd.ntmps11
  go_wp2_with fail
  generalize w.alloc (.cells #[.int .i64 i0, .int .i64 i1, .int .u64 i2, .int .i64 i3, .int .u64 i4] 29) = W1 at HR HO B1 ⊢
  refine (lnew_bad i0 i1 i2 i3 i4 _ HR.out hb hE).mono ?_; rintro e w2 ⟨rfl, hb2⟩
  have B2 := hide (B1.out.trans (hb2.mono B1.out.size))
  clear hb2
  go_wp2
  go_ret
  exact ⟨rfl, B2.out⟩

set_option maxHeartbeats 8000000 in
set_option maxRecDepth 100000 in
theorem play_ok (i0 i1 i2 i3 i4 : Int) (hb : 0 ≤ i4) (hE : newE (i0, i1, i2, i3, i4) = 0) (v : Value) (os : List Opv) (w : World) (hR : Ranks w) (hO : OpsAt w v os) : Calls Tryd.prog 11 #[.agg #[.int .i64 i0, .int .i64 i1, .int .u64 i2, .int .i64 i3, .int .u64 i4], v] w fun e w' => ∃ p m base, e = .returned (.pointer (some ⟨p, 0, none⟩)) ∧ ∃ L, LK w' base p m (i0, i1, i2, i3, i4) L ∧ OkT L ∧ w.heap.size ≤ base ∧ base ≤ w'.heap.size ∧ Below w.heap.size w w' := by
  have hme : okMe (i0, i1, i2, i3, i4) := hb
  obtain ⟨va, vc, rfl, hmx, -, -⟩ := id hO
  have B0 : Below w.heap.size w (w.alloc (.cells #[.int .i64 i0, .int .i64 i1, .int .u64 i2, .int .i64 i3, .int .u64 i4] 29)) := (Below.refl w.heap.size w).alloc (Nat.le_refl _) _
  have HR := hide (hR.below B0)
  have HO := hide (hO.below B0)
  have B1 := hide B0
  clear B0 hR hO
  obtain ⟨n, hn⟩ : ∃ n, os.length = n := ⟨_, rfl⟩
  rw [hn] at HO hmx ⊢
  replace hn := hide hn
  go_enter Tryd.func11, Tryd.ntmps11
  go_wp2_with fail
  generalize w.alloc (.cells #[.int .i64 i0, .int .i64 i1, .int .u64 i2, .int .i64 i3, .int .u64 i4] 29) = W1 at HR HO B1 ⊢
  refine (lnew_ok i0 i1 i2 i3 i4 _ HR.out hb hE).mono ?_; rintro e w2 ⟨p, m, rfl, hL, hb2⟩
  have hGr : 0 < W1.heap.size := lt_of_cell (a := ⟨0, 0, none⟩) HR.out.1
  have HR2 := hide (HR.out.below hb2)
  have HO2 := hide (HO.out.below hb2)
  have B2 := hide (B1.out.trans (hb2.mono B1.out.size))
  have LK2 := hide hL
  have hs2 : W1.heap.size ≤ w2.heap.size := hb2.size
  have hs1 : w.heap.size ≤ W1.heap.size := B1.out.size
  have HO1 := HO
  have B12 := hide hb2
  have hGr2 := hGr
  clear hb2 hL HR HO
  generalize hbase : W1.heap.size = base at LK2 hs2 hs1 hGr2 ⊢
  have hmx2 : (n : Int) ≤ 9223372036854775807 := by unfold maxLen at hmx; omega
  go_wp2
  go_loopw [7] (fun i wr => ∃ j : Nat, j ≤ 60 ∧ j ≤ n ∧ i = .int .i64 (j : Int) ∧ Hid (∃ L, LK wr base p m (i0, i1, i2, i3, i4) L ∧ OkT L) ∧ Hid (Below base w2 wr)) (fun i _ => 60 - (intOf i).toNat)
  case atStart => exact ⟨0, by omega, by omega, rfl, ⟨[], LK2.out, fun e he => by cases he⟩, Below.refl _ _⟩
  case round =>
    obtain ⟨j, hj, hjn, rfl, HL, HB⟩ := hrel
    obtain ⟨L, hL, hok⟩ := HL.out
    have hsr : base ≤ wr.heap.size := Nat.le_trans hs2 HB.out.size
    by_cases hlt : j < n
    · by_cases hl6 : j < 60
      · have hjl : j < os.length := by rw [hn.out]; exact hlt
        obtain ⟨ga, gc, ev, -, hall, hpos⟩ := HO1.out
        injection ev with ev en ec
        clear en
        subst ev ec
        obtain ⟨g, b, rfl, hg, hcs⟩ := hpos (by omega)
        have hg2 : g < base := by rw [← hbase]; exact hg
        have hcell : Hid (∀ c, c < 15 → wr.cell? ⟨g, b + j * 15 + c, none⟩ = (opc os[j])[c]?) := fun c hc => by
          rw [HB.out.cell (p := ⟨g, b + j * 15 + c, none⟩) hg2]
          have hl2 := B12.out.cell (p := ⟨g, b + j * 15 + c, none⟩) hg
          rw [hl2]
          exact hcs j _ (List.getElem?_eq_getElem hjl) c hc
        have hop := hall _ (List.getElem_mem hjl)
        obtain ⟨⟨k, ⟨x, y⟩, ⟨a0, a1, a2, a3, a4⟩, ⟨b0, b1, b2, b3, b4⟩, ⟨oa, oo⟩⟩, hoj⟩ : ∃ o, os[j] = o := ⟨_, rfl⟩
        rw [hoj] at hcell hop
        clear hoj
        have q0 : wr.cell? ⟨g, b + j * 15, none⟩ = some (.int .i64 k) := hcell.out 0 (by decide)
        have q1 : wr.cell? ⟨g, b + j * 15 + 1, none⟩ = some (.int .i64 x) := hcell.out 1 (by decide)
        have q2 : wr.cell? ⟨g, b + j * 15 + 2, none⟩ = some (.int .u64 y) := hcell.out 2 (by decide)
        have q3 : wr.cell? ⟨g, b + j * 15 + 3, none⟩ = some (.int .i64 a0) := hcell.out 3 (by decide)
        have q4 : wr.cell? ⟨g, b + j * 15 + 4, none⟩ = some (.int .i64 a1) := hcell.out 4 (by decide)
        have q5 : wr.cell? ⟨g, b + j * 15 + 5, none⟩ = some (.int .u64 a2) := hcell.out 5 (by decide)
        have q6 : wr.cell? ⟨g, b + j * 15 + 6, none⟩ = some (.int .i64 a3) := hcell.out 6 (by decide)
        have q7 : wr.cell? ⟨g, b + j * 15 + 7, none⟩ = some (.int .u64 a4) := hcell.out 7 (by decide)
        have q8 : wr.cell? ⟨g, b + j * 15 + 8, none⟩ = some (.int .i64 b0) := hcell.out 8 (by decide)
        have q9 : wr.cell? ⟨g, b + j * 15 + 9, none⟩ = some (.int .i64 b1) := hcell.out 9 (by decide)
        have q10 : wr.cell? ⟨g, b + j * 15 + 10, none⟩ = some (.int .u64 b2) := hcell.out 10 (by decide)
        have q11 : wr.cell? ⟨g, b + j * 15 + 11, none⟩ = some (.int .i64 b3) := hcell.out 11 (by decide)
        have q12 : wr.cell? ⟨g, b + j * 15 + 12, none⟩ = some (.int .u64 b4) := hcell.out 12 (by decide)
        have q13 : wr.cell? ⟨g, b + j * 15 + 13, none⟩ = some (.int .i64 oa) := hcell.out 13 (by decide)
        have q14 : wr.cell? ⟨g, b + j * 15 + 14, none⟩ = some (.int .i64 oo) := hcell.out 14 (by decide)
        have HRr := hide (HR2.out.low hGr2 HB.out)
        go_wp2_with fail
        clear q0 q1 q2 q3 q4 q5 q6 q7 q8 q9 q10 q11 q12 q13 q14
        refine (do_any base p m (i0, i1, i2, i3, i4) L wr hL hsr k x y a0 a1 a2 a3 a4 b0 b1 b2 b3 b4 oa oo hop.1 hme (okV.pos hop.1) HRr.out hok).mono ?_; rintro e w3 ⟨E, L3, rfl, hE3, hx3⟩
        have HL3 : Hid (∃ L, LK w3 base p m (i0, i1, i2, i3, i4) L ∧ OkT L) := ⟨L3, hx3.lk, hE3.2.2⟩
        have HB3 : Hid (Below base w2 w3) := HB.out.trans (hx3.low hL hsr)
        clear hx3 hE3 hL hok HL
        go_wp2
        exact ⟨⟨j + 1, by omega, by omega, by simp, HL3, HB3⟩, by simp [intOf]; omega⟩
      · obtain rfl : j = 60 := by omega
        go_wp2
        go_ret
        exact ⟨p, m, base, rfl, L, hL, hok, by omega, by omega, B2.out.trans (HB.out.mono hs1)⟩
    · obtain rfl : j = n := by omega
      go_wp2
      go_ret
      exact ⟨p, m, base, rfl, L, hL, hok, by omega, by omega, B2.out.trans (HB.out.mono hs1)⟩

end Go.Proofs.YtledkljffjomdaaDoor
