/- LinkAgain: the law walked. -/
import Derived.Test.YtledkljffjomdaaDoorJH
namespace Go.Proofs.YtledkljffjomdaaDoor
open Go.RowKit Go.Maps

theorem LK.beside {w w' : World} {base p m m2 : Nat} {me : Rf} {L : Tb} {X : List (Vc × Nat)} (h : LK w base p m me L) (h2 : VMp w m2 X) (hne : m ≠ m2) (hk : Kp [m2] w w') : LK w' base p m me L := by
  refine ⟨h.blk.kp hk ?_, h.map.kp hk ?_, fun e he => RecAt.kp (h.recs e he) hk ?_ ?_ (fun k hv => ?_), h.ap, h.al, h.lo⟩
  · simp only [List.mem_cons, List.not_mem_nil, or_false]
    exact h2.off h.blk
  · simpa using hne
  · simp only [List.mem_cons, List.not_mem_nil, or_false]
    exact h2.off (h.recs e he).blk
  · simp only [List.mem_cons, List.not_mem_nil, or_false]
    exact h2.off (h.recs e he).ls.blk
  · simp only [List.mem_cons, List.not_mem_nil, or_false]
    exact h2.row_off (h.recs e he).ls.row hv
theorem LK.empty_kp {S : List Nat} {w w' : World} {base p m : Nat} {me : Rf} (h : LK w base p m me []) (hk : Kp S w w') (h1 : p ∉ S) (h2 : m ∉ S) : LK w' base p m me [] :=
  ⟨h.blk.kp hk h1, h.map.kp hk h2, by simp, h.ap, h.al, h.lo⟩
theorem findC_nil {me : Rf} {L : Tb} {v : Vc} (h : findC me L v = none) : findC me [] v = none := by
  unfold findC at h ⊢
  cases hl : lookL L v with
  | some c => rw [hl] at h; cases h
  | none => rw [hl] at h; exact h
/-- When Out by the holder takes a record out. -/
theorem outE_hd {me : Rf} {L : Tb} {v : Vc} {oc : Cn} (hok : OkT L) (ho : findC me L v = some oc) : outE me L v (hd oc.1).1 (hd oc.1).2 = 0 ↔ (0 < oc.1.length ∧ me.2.1 = 2) := by
  have hf := hok.find ho
  unfold outE
  rw [ho]
  simp only []
  by_cases hr : me.2.1 = 2
  · rw [if_neg (fun q => q hr)]
    unfold heE
    cases hl : oc.1 with
    | nil => simp [hd, okO]
    | cons q t =>
      have : okO q.1 q.2 = true := hf q (by rw [hl]; simp)
      simp [hd, this, hr]
  · rw [if_pos hr]
    simp [hr]

set_option maxHeartbeats 8000000 in
set_option maxRecDepth 100000 in
theorem linkAgain_bad (i0 i1 i2 i3 i4 : Int) (v : Value) (os : List Opv) (u t : Int) (a0 a1 a2 a3 a4 b0 b1 b2 b3 b4 oa oo : Int) (w : World) (hR : Ranks w) (hO : OpsAt w v os) (hb : 0 ≤ i4) (hE : newE (i0, i1, i2, i3, i4) ≠ 0) : Calls Tryd.prog 6 #[.agg #[.int .i64 i0, .int .i64 i1, .int .u64 i2, .int .i64 i3, .int .u64 i4], v, .agg #[.int .i64 u, .int .u64 t], .agg #[.int .i64 a0, .int .i64 a1, .int .u64 a2, .int .i64 a3, .int .u64 a4], .agg #[.int .i64 b0, .int .i64 b1, .int .u64 b2, .int .i64 b3, .int .u64 b4], .agg #[.int .i64 oa, .int .i64 oo]] w fun e w' => e = .returned (.bool true) ∧ Below w.heap.size w w' := by
  obtain ⟨va, vc, rfl, hmx, -, -⟩ := id hO
  have B0 : Below w.heap.size w (((((w.alloc (.cells #[.int .i64 i0, .int .i64 i1, .int .u64 i2, .int .i64 i3, .int .u64 i4] 29)).alloc (.cells #[.int .i64 u, .int .u64 t] 24)).alloc (.cells #[.int .i64 a0, .int .i64 a1, .int .u64 a2, .int .i64 a3, .int .u64 a4] 29)).alloc (.cells #[.int .i64 b0, .int .i64 b1, .int .u64 b2, .int .i64 b3, .int .u64 b4] 29)).alloc (.cells #[.int .i64 oa, .int .i64 oo] 31)) := ((((((Below.refl w.heap.size w).alloc (Nat.le_refl _) (.cells #[.int .i64 i0, .int .i64 i1, .int .u64 i2, .int .i64 i3, .int .u64 i4] 29)).alloc (by simp) (.cells #[.int .i64 u, .int .u64 t] 24)).alloc (by simp; omega) (.cells #[.int .i64 a0, .int .i64 a1, .int .u64 a2, .int .i64 a3, .int .u64 a4] 29)).alloc (by simp; omega) (.cells #[.int .i64 b0, .int .i64 b1, .int .u64 b2, .int .i64 b3, .int .u64 b4] 29)).alloc (by simp; omega) (.cells #[.int .i64 oa, .int .i64 oo] 31))
  have IM0 := (((((IsB.new w #[.int .i64 i0, .int .i64 i1, .int .u64 i2, .int .i64 i3, .int .u64 i4] 29).below ((Below.refl _ _).alloc (Nat.le_refl _) (.cells #[.int .i64 u, .int .u64 t] 24))).below ((Below.refl _ _).alloc (Nat.le_refl _) (.cells #[.int .i64 a0, .int .i64 a1, .int .u64 a2, .int .i64 a3, .int .u64 a4] 29))).below ((Below.refl _ _).alloc (Nat.le_refl _) (.cells #[.int .i64 b0, .int .i64 b1, .int .u64 b2, .int .i64 b3, .int .u64 b4] 29))).below ((Below.refl _ _).alloc (Nat.le_refl _) (.cells #[.int .i64 oa, .int .i64 oo] 31)))
  have IM := hide IM0
  clear IM0
  have IU0 := ((((IsB.new (w.alloc (.cells #[.int .i64 i0, .int .i64 i1, .int .u64 i2, .int .i64 i3, .int .u64 i4] 29)) #[.int .i64 u, .int .u64 t] 24).below ((Below.refl _ _).alloc (Nat.le_refl _) (.cells #[.int .i64 a0, .int .i64 a1, .int .u64 a2, .int .i64 a3, .int .u64 a4] 29))).below ((Below.refl _ _).alloc (Nat.le_refl _) (.cells #[.int .i64 b0, .int .i64 b1, .int .u64 b2, .int .i64 b3, .int .u64 b4] 29))).below ((Below.refl _ _).alloc (Nat.le_refl _) (.cells #[.int .i64 oa, .int .i64 oo] 31)))
  simp only [World.size_alloc] at IU0
  have IU := hide IU0
  clear IU0
  have IA0 := (((IsB.new ((w.alloc (.cells #[.int .i64 i0, .int .i64 i1, .int .u64 i2, .int .i64 i3, .int .u64 i4] 29)).alloc (.cells #[.int .i64 u, .int .u64 t] 24)) #[.int .i64 a0, .int .i64 a1, .int .u64 a2, .int .i64 a3, .int .u64 a4] 29).below ((Below.refl _ _).alloc (Nat.le_refl _) (.cells #[.int .i64 b0, .int .i64 b1, .int .u64 b2, .int .i64 b3, .int .u64 b4] 29))).below ((Below.refl _ _).alloc (Nat.le_refl _) (.cells #[.int .i64 oa, .int .i64 oo] 31)))
  simp only [World.size_alloc] at IA0
  have IA := hide IA0
  clear IA0
  have IB0 := ((IsB.new (((w.alloc (.cells #[.int .i64 i0, .int .i64 i1, .int .u64 i2, .int .i64 i3, .int .u64 i4] 29)).alloc (.cells #[.int .i64 u, .int .u64 t] 24)).alloc (.cells #[.int .i64 a0, .int .i64 a1, .int .u64 a2, .int .i64 a3, .int .u64 a4] 29)) #[.int .i64 b0, .int .i64 b1, .int .u64 b2, .int .i64 b3, .int .u64 b4] 29).below ((Below.refl _ _).alloc (Nat.le_refl _) (.cells #[.int .i64 oa, .int .i64 oo] 31)))
  simp only [World.size_alloc] at IB0
  have IB := hide IB0
  clear IB0
  have ID0 := (IsB.new ((((w.alloc (.cells #[.int .i64 i0, .int .i64 i1, .int .u64 i2, .int .i64 i3, .int .u64 i4] 29)).alloc (.cells #[.int .i64 u, .int .u64 t] 24)).alloc (.cells #[.int .i64 a0, .int .i64 a1, .int .u64 a2, .int .i64 a3, .int .u64 a4] 29)).alloc (.cells #[.int .i64 b0, .int .i64 b1, .int .u64 b2, .int .i64 b3, .int .u64 b4] 29)) #[.int .i64 oa, .int .i64 oo] 31)
  simp only [World.size_alloc] at ID0
  have ID := hide ID0
  clear ID0
  have B1 := hide B0
  have HR := hide (hR.below B0)
  have HO := hide (hO.below B0)
  clear B0 hR hO
  obtain ⟨n, hn⟩ : ∃ n, os.length = n := ⟨_, rfl⟩
  rw [hn] at HO ⊢
  replace hn := hide hn
  clear hmx
  go_enter Tryd.func6, Tryd.ntmps6
  go_wp2_with fail
  generalize (((((w.alloc (.cells #[.int .i64 i0, .int .i64 i1, .int .u64 i2, .int .i64 i3, .int .u64 i4] 29)).alloc (.cells #[.int .i64 u, .int .u64 t] 24)).alloc (.cells #[.int .i64 a0, .int .i64 a1, .int .u64 a2, .int .i64 a3, .int .u64 a4] 29)).alloc (.cells #[.int .i64 b0, .int .i64 b1, .int .u64 b2, .int .i64 b3, .int .u64 b4] 29)).alloc (.cells #[.int .i64 oa, .int .i64 oo] 31)) = W1 at IM IU IA IB ID B1 HR HO ⊢
  generalize hH : w.heap.size = H at IM IU IA IB ID ⊢
  replace hH := hide hH
  refine (awake_any _ HR.out).mono ?_; rintro e w2 ⟨rfl, hb2⟩
  have IM := hide (IM.out.below hb2)
  have IU := hide (IU.out.below hb2)
  have IA := hide (IA.out.below hb2)
  have IB := hide (IB.out.below hb2)
  have ID := hide (ID.out.below hb2)
  have HR := hide (HR.out.below hb2)
  have HO := hide (HO.out.below hb2)
  have B2 := hide (B1.out.trans (hb2.mono B1.out.size))
  clear hb2 B1
  have m0 : w2.cell? ⟨H, 0, none⟩ = some (.int .i64 i0) := IM.out.cell 0
  have m1 : w2.cell? ⟨H, 1, none⟩ = some (.int .i64 i1) := IM.out.cell 1
  have m2 : w2.cell? ⟨H, 2, none⟩ = some (.int .u64 i2) := IM.out.cell 2
  have m3 : w2.cell? ⟨H, 3, none⟩ = some (.int .i64 i3) := IM.out.cell 3
  have m4 : w2.cell? ⟨H, 4, none⟩ = some (.int .u64 i4) := IM.out.cell 4
  go_wp2_with fail
  clear m0 m1 m2 m3 m4
  refine (play_bad i0 i1 i2 i3 i4 hb hE _ os _ HR.out HO.out).mono ?_; rintro e w3 ⟨rfl, hb3⟩
  have B3 := hide (B2.out.trans (hb3.mono B2.out.size))
  clear hb3
  go_wp2
  go_ret
  exact ⟨rfl, B3.out⟩

set_option maxHeartbeats 32000000 in
set_option maxRecDepth 100000 in
theorem linkAgain_ok (i0 i1 i2 i3 i4 : Int) (v : Value) (os : List Opv) (u t : Int) (a0 a1 a2 a3 a4 b0 b1 b2 b3 b4 oa oo : Int) (w : World) (hR : Ranks w) (hO : OpsAt w v os) (hb : 0 ≤ i4) (hut : okV (u, t)) (hE : newE (i0, i1, i2, i3, i4) = 0) : Calls Tryd.prog 6 #[.agg #[.int .i64 i0, .int .i64 i1, .int .u64 i2, .int .i64 i3, .int .u64 i4], v, .agg #[.int .i64 u, .int .u64 t], .agg #[.int .i64 a0, .int .i64 a1, .int .u64 a2, .int .i64 a3, .int .u64 a4], .agg #[.int .i64 b0, .int .i64 b1, .int .u64 b2, .int .i64 b3, .int .u64 b4], .agg #[.int .i64 oa, .int .i64 oo]] w fun e w' => e = .returned (.bool true) ∧ Below w.heap.size w w' := by
  have mixed : Tryd.prog.follows .mixedOrders = true := by kernel_rfl
  obtain ⟨va, vc, rfl, hmx, -, -⟩ := id hO
  have B0 : Below w.heap.size w (((((w.alloc (.cells #[.int .i64 i0, .int .i64 i1, .int .u64 i2, .int .i64 i3, .int .u64 i4] 29)).alloc (.cells #[.int .i64 u, .int .u64 t] 24)).alloc (.cells #[.int .i64 a0, .int .i64 a1, .int .u64 a2, .int .i64 a3, .int .u64 a4] 29)).alloc (.cells #[.int .i64 b0, .int .i64 b1, .int .u64 b2, .int .i64 b3, .int .u64 b4] 29)).alloc (.cells #[.int .i64 oa, .int .i64 oo] 31)) := ((((((Below.refl w.heap.size w).alloc (Nat.le_refl _) (.cells #[.int .i64 i0, .int .i64 i1, .int .u64 i2, .int .i64 i3, .int .u64 i4] 29)).alloc (by simp) (.cells #[.int .i64 u, .int .u64 t] 24)).alloc (by simp; omega) (.cells #[.int .i64 a0, .int .i64 a1, .int .u64 a2, .int .i64 a3, .int .u64 a4] 29)).alloc (by simp; omega) (.cells #[.int .i64 b0, .int .i64 b1, .int .u64 b2, .int .i64 b3, .int .u64 b4] 29)).alloc (by simp; omega) (.cells #[.int .i64 oa, .int .i64 oo] 31))
  have IM0 := (((((IsB.new w #[.int .i64 i0, .int .i64 i1, .int .u64 i2, .int .i64 i3, .int .u64 i4] 29).below ((Below.refl _ _).alloc (Nat.le_refl _) (.cells #[.int .i64 u, .int .u64 t] 24))).below ((Below.refl _ _).alloc (Nat.le_refl _) (.cells #[.int .i64 a0, .int .i64 a1, .int .u64 a2, .int .i64 a3, .int .u64 a4] 29))).below ((Below.refl _ _).alloc (Nat.le_refl _) (.cells #[.int .i64 b0, .int .i64 b1, .int .u64 b2, .int .i64 b3, .int .u64 b4] 29))).below ((Below.refl _ _).alloc (Nat.le_refl _) (.cells #[.int .i64 oa, .int .i64 oo] 31)))
  have IM := hide IM0
  clear IM0
  have IU0 := ((((IsB.new (w.alloc (.cells #[.int .i64 i0, .int .i64 i1, .int .u64 i2, .int .i64 i3, .int .u64 i4] 29)) #[.int .i64 u, .int .u64 t] 24).below ((Below.refl _ _).alloc (Nat.le_refl _) (.cells #[.int .i64 a0, .int .i64 a1, .int .u64 a2, .int .i64 a3, .int .u64 a4] 29))).below ((Below.refl _ _).alloc (Nat.le_refl _) (.cells #[.int .i64 b0, .int .i64 b1, .int .u64 b2, .int .i64 b3, .int .u64 b4] 29))).below ((Below.refl _ _).alloc (Nat.le_refl _) (.cells #[.int .i64 oa, .int .i64 oo] 31)))
  simp only [World.size_alloc] at IU0
  have IU := hide IU0
  clear IU0
  have IA0 := (((IsB.new ((w.alloc (.cells #[.int .i64 i0, .int .i64 i1, .int .u64 i2, .int .i64 i3, .int .u64 i4] 29)).alloc (.cells #[.int .i64 u, .int .u64 t] 24)) #[.int .i64 a0, .int .i64 a1, .int .u64 a2, .int .i64 a3, .int .u64 a4] 29).below ((Below.refl _ _).alloc (Nat.le_refl _) (.cells #[.int .i64 b0, .int .i64 b1, .int .u64 b2, .int .i64 b3, .int .u64 b4] 29))).below ((Below.refl _ _).alloc (Nat.le_refl _) (.cells #[.int .i64 oa, .int .i64 oo] 31)))
  simp only [World.size_alloc] at IA0
  have IA := hide IA0
  clear IA0
  have IB0 := ((IsB.new (((w.alloc (.cells #[.int .i64 i0, .int .i64 i1, .int .u64 i2, .int .i64 i3, .int .u64 i4] 29)).alloc (.cells #[.int .i64 u, .int .u64 t] 24)).alloc (.cells #[.int .i64 a0, .int .i64 a1, .int .u64 a2, .int .i64 a3, .int .u64 a4] 29)) #[.int .i64 b0, .int .i64 b1, .int .u64 b2, .int .i64 b3, .int .u64 b4] 29).below ((Below.refl _ _).alloc (Nat.le_refl _) (.cells #[.int .i64 oa, .int .i64 oo] 31)))
  simp only [World.size_alloc] at IB0
  have IB := hide IB0
  clear IB0
  have ID0 := (IsB.new ((((w.alloc (.cells #[.int .i64 i0, .int .i64 i1, .int .u64 i2, .int .i64 i3, .int .u64 i4] 29)).alloc (.cells #[.int .i64 u, .int .u64 t] 24)).alloc (.cells #[.int .i64 a0, .int .i64 a1, .int .u64 a2, .int .i64 a3, .int .u64 a4] 29)).alloc (.cells #[.int .i64 b0, .int .i64 b1, .int .u64 b2, .int .i64 b3, .int .u64 b4] 29)) #[.int .i64 oa, .int .i64 oo] 31)
  simp only [World.size_alloc] at ID0
  have ID := hide ID0
  clear ID0
  have B1 := hide B0
  have HR := hide (hR.below B0)
  have HO := hide (hO.below B0)
  clear B0 hR hO
  obtain ⟨n, hn⟩ : ∃ n, os.length = n := ⟨_, rfl⟩
  rw [hn] at HO ⊢
  replace hn := hide hn
  clear hmx
  go_enter Tryd.func6, Tryd.ntmps6
  go_wp2_with fail
  generalize (((((w.alloc (.cells #[.int .i64 i0, .int .i64 i1, .int .u64 i2, .int .i64 i3, .int .u64 i4] 29)).alloc (.cells #[.int .i64 u, .int .u64 t] 24)).alloc (.cells #[.int .i64 a0, .int .i64 a1, .int .u64 a2, .int .i64 a3, .int .u64 a4] 29)).alloc (.cells #[.int .i64 b0, .int .i64 b1, .int .u64 b2, .int .i64 b3, .int .u64 b4] 29)).alloc (.cells #[.int .i64 oa, .int .i64 oo] 31)) = W1 at IM IU IA IB ID B1 HR HO ⊢
  generalize hH : w.heap.size = H at IM IU IA IB ID ⊢
  replace hH := hide hH
  refine (awake_any _ HR.out).mono ?_; rintro e w2 ⟨rfl, hb2⟩
  have IM := hide (IM.out.below hb2)
  have IU := hide (IU.out.below hb2)
  have IA := hide (IA.out.below hb2)
  have IB := hide (IB.out.below hb2)
  have ID := hide (ID.out.below hb2)
  have HR := hide (HR.out.below hb2)
  have HO := hide (HO.out.below hb2)
  have B2 := hide (B1.out.trans (hb2.mono B1.out.size))
  clear hb2 B1
  have m0 : w2.cell? ⟨H, 0, none⟩ = some (.int .i64 i0) := IM.out.cell 0
  have m1 : w2.cell? ⟨H, 1, none⟩ = some (.int .i64 i1) := IM.out.cell 1
  have m2 : w2.cell? ⟨H, 2, none⟩ = some (.int .u64 i2) := IM.out.cell 2
  have m3 : w2.cell? ⟨H, 3, none⟩ = some (.int .i64 i3) := IM.out.cell 3
  have m4 : w2.cell? ⟨H, 4, none⟩ = some (.int .u64 i4) := IM.out.cell 4
  go_wp2_with fail
  clear m0 m1 m2 m3 m4
  refine (play_ok i0 i1 i2 i3 i4 hb hE _ os _ HR.out HO.out).mono ?_; rintro e w3 ⟨p, m, base, rfl, L, hL, hok, hs1, hs2, hb3⟩
  have hme : okMe (i0, i1, i2, i3, i4) := hb
  have hGr : 0 < base := Nat.lt_of_lt_of_le (lt_of_cell (a := ⟨0, 0, none⟩) HR.out.1) hs1
  have hHl : H < base ∧ H + 1 < base ∧ H + 1 + 1 < base ∧ H + 1 + 1 + 1 < base ∧ H + 1 + 1 + 1 + 1 < base := ⟨Nat.lt_of_lt_of_le IM.out.lt hs1, Nat.lt_of_lt_of_le IU.out.lt hs1, Nat.lt_of_lt_of_le IA.out.lt hs1, Nat.lt_of_lt_of_le IB.out.lt hs1, Nat.lt_of_lt_of_le ID.out.lt hs1⟩
  have IM := hide (IM.out.below hb3)
  have IU := hide (IU.out.below hb3)
  have IA := hide (IA.out.below hb3)
  have IB := hide (IB.out.below hb3)
  have ID := hide (ID.out.below hb3)
  have HR := hide (HR.out.below hb3)
  have B3 := hide (B2.out.trans (hb3.mono B2.out.size))
  have LK3 := hide hL
  have HOK := hide hok
  have hBl : w.heap.size ≤ base := Nat.le_trans B2.out.size hs1
  clear hb3 hL hok B2 HO
  have q0 := IU.out.cell 0
  have q1 := IU.out.cell 1
  simp at q0 q1
  go_wp2_with fail
  clear q0 q1
  rcases ho : findC (i0, i1, i2, i3, i4) L (u, t) with _ | oc
  · refine (get_none base p m (i0, i1, i2, i3, i4) L _ LK3.out u t hut hme (okV.pos hut) ho).mono ?_; rintro e w4 ⟨rfl, hb4⟩
    have hF := hide ho
    have bA := (Below.refl w4.heap.size w4).alloc (Nat.le_refl _) (.cells #[.int .i64 0, .int .u64 0, .int .i64 0, .int .i64 0, .int .u64 0, .int .i64 0, .int .u64 0, .int .i64 0, .int .i64 0, .int .u64 0, .int .i64 0, .int .u64 0, .bool false, .int .i64 0, .int .i64 0, .slice none 0 0] 34)
    have hb5 := hb4.trans (bA.mono hb4.size)
    have IM4 := IM.out.below hb4
    have m0 : w4.cell? ⟨H, 0, none⟩ = some (.int .i64 i0) := IM4.cell 0
    have m1 : w4.cell? ⟨H, 1, none⟩ = some (.int .i64 i1) := IM4.cell 1
    have m2 : w4.cell? ⟨H, 2, none⟩ = some (.int .u64 i2) := IM4.cell 2
    have m3 : w4.cell? ⟨H, 3, none⟩ = some (.int .i64 i3) := IM4.cell 3
    have m4 : w4.cell? ⟨H, 4, none⟩ = some (.int .u64 i4) := IM4.cell 4
    have mlt := IM4.lt
    have IM := hide (IM.out.below hb5)
    have IU := hide (IU.out.below hb5)
    have IA := hide (IA.out.below hb5)
    have IB := hide (IB.out.below hb5)
    have ID := hide (ID.out.below hb5)
    have HR := hide (HR.out.below hb5)
    have LK3 := hide (LK3.out.below hb5)
    have B5 := hide (B3.out.trans (hb5.mono B3.out.size))
    have hs5 : base ≤ (w4.alloc (.cells #[.int .i64 0, .int .u64 0, .int .i64 0, .int .i64 0, .int .u64 0, .int .i64 0, .int .u64 0, .int .i64 0, .int .i64 0, .int .u64 0, .int .i64 0, .int .u64 0, .bool false, .int .i64 0, .int .i64 0, .slice none 0 0] 34)).heap.size := Nat.le_trans hs2 hb5.size
    clear hb4 hb5 bA IM4 B3
    go_wp2_with fail
    clear mlt m0 m1 m2 m3 m4
    generalize w4.alloc (.cells #[.int .i64 0, .int .u64 0, .int .i64 0, .int .i64 0, .int .u64 0, .int .i64 0, .int .u64 0, .int .i64 0, .int .i64 0, .int .u64 0, .int .i64 0, .int .u64 0, .bool false, .int .i64 0, .int .i64 0, .slice none 0 0] 34) = W5 at *
    generalize w4.heap.size = R0 at *
    have LKC0 := LK3
    refine (lnew_ok i0 i1 i2 i3 i4 _ HR.out hb hE).mono ?_; rintro e w10 ⟨p2, m2, rfl, hL2, hb10⟩
    have IM := hide (IM.out.below hb10)
    have IU := hide (IU.out.below hb10)
    have IA := hide (IA.out.below hb10)
    have IB := hide (IB.out.below hb10)
    have ID := hide (ID.out.below hb10)
    have HR := hide (HR.out.below hb10)
    have LK3 := hide (LK3.out.below hb10)
    have hm2 : Hid (W5.heap.size ≤ m2 ∧ W5.heap.size ≤ p2) := ⟨hL2.lo.2.1, hL2.lo.1⟩
    have F10 := hide hL2
    have B10 := hide (B5.out.trans (hb10.mono B5.out.size))
    have hs10 : base ≤ w10.heap.size := Nat.le_trans hs5 hb10.size
    have hsF : W5.heap.size ≤ w10.heap.size := hb10.size
    have hflt : Hid (∀ k ∈ foot m L, k < W5.heap.size) := LKC0.out.foot_lt
    clear hb10 hL2
    generalize hb2e : W5.heap.size = base2 at F10 hsF hm2 hflt
    have hbb : base ≤ base2 := by rw [← hb2e]; exact hs5
    replace hb2e := hide hb2e
    go_wp2
    have IM := hide (IM.out.below ((Below.refl _ w10).drew))
    have IU := hide (IU.out.below ((Below.refl _ w10).drew))
    have IA := hide (IA.out.below ((Below.refl _ w10).drew))
    have IB := hide (IB.out.below ((Below.refl _ w10).drew))
    have ID := hide (ID.out.below ((Below.refl _ w10).drew))
    have HR := hide (HR.out.below ((Below.refl _ w10).drew))
    have LK3 := hide (LK3.out.below ((Below.refl _ w10).drew))
    have F10 := hide (F10.out.below ((Below.refl _ w10).drew))
    have B11 := hide B10.out.drew
    have hs11 : base ≤ w10.drew.heap.size := hs10
    have hsF1 : base2 ≤ w10.drew.heap.size := hsF
    clear B10
    obtain ⟨PE0, hPE⟩ : ∃ z, putE (i0, i1, i2, i3, i4) false (u, t) (a0, a1, a2, a3, a4) (b0, b1, b2, b3, b4) (oa, oo) = z := ⟨_, rfl⟩
    replace hPE := hide hPE
    obtain ⟨FV, hFV⟩ : ∃ z, (if PE0 = 0 then some (([(oa, oo)], (a0, a1, a2, a3, a4), (b0, b1, b2, b3, b4)) : Cn) else none) = z := ⟨_, rfl⟩
    replace hFV := hide hFV
    refine regionL 14 (fun w' => w'.cell? ⟨H + 1, 0, none⟩ = some (.int .i64 u) ∧ w'.cell? ⟨H + 1, 1, none⟩ = some (.int .u64 t) ∧ w'.cell? ⟨H + 1 + 1, 0, none⟩ = some (.int .i64 a0) ∧ w'.cell? ⟨H + 1 + 1, 1, none⟩ = some (.int .i64 a1) ∧ w'.cell? ⟨H + 1 + 1, 2, none⟩ = some (.int .u64 a2) ∧ w'.cell? ⟨H + 1 + 1, 3, none⟩ = some (.int .i64 a3) ∧ w'.cell? ⟨H + 1 + 1, 4, none⟩ = some (.int .u64 a4) ∧ w'.cell? ⟨H + 1 + 1 + 1, 0, none⟩ = some (.int .i64 b0) ∧ w'.cell? ⟨H + 1 + 1 + 1, 1, none⟩ = some (.int .i64 b1) ∧ w'.cell? ⟨H + 1 + 1 + 1, 2, none⟩ = some (.int .u64 b2) ∧ w'.cell? ⟨H + 1 + 1 + 1, 3, none⟩ = some (.int .i64 b3) ∧ w'.cell? ⟨H + 1 + 1 + 1, 4, none⟩ = some (.int .u64 b4) ∧ w'.cell? ⟨H + 1 + 1 + 1 + 1, 0, none⟩ = some (.int .i64 oa) ∧ w'.cell? ⟨H + 1 + 1 + 1 + 1, 1, none⟩ = some (.int .i64 oo)) mixed ⟨IU.out.cell 0, IU.out.cell 1, IA.out.cell 0, IA.out.cell 1, IA.out.cell 2, IA.out.cell 3, IA.out.cell 4, IB.out.cell 0, IB.out.cell 1, IB.out.cell 2, IB.out.cell 3, IB.out.cell 4, ID.out.cell 0, ID.out.cell 1⟩ (fun hHeld => ?_)
    refine pickA (v := ?_) 0 (some 66) rfl rfl (by kernel_rfl) (by kernel_rfl) (by kernel_rfl) (by decide) (fun _ _ _ h => h) (by rfl) ?_ (by assumption) ?_
    rotate_left
    · intro w'
      go_simp
      try with_reducible rfl
    try simp only [Act.put, List.setIfInBounds_toArray, List.set_cons_zero, List.set_cons_succ]
    refine pickL (v := ?_) 1 (some 67) rfl rfl (by kernel_rfl) (by kernel_rfl) (by kernel_rfl) (by decide) (by kernel_rfl) (by kernel_rfl) (fun _ _ _ h => h) (by rfl) ?_ (by assumption) ?_
    rotate_left
    · intro w' hSw
      obtain ⟨q0, q1, q2, q3, q4, q5, q6, q7, q8, q9, q10, q11, q12, q13⟩ := hSw
      go_simp
      try with_reducible rfl
    try simp only [Act.put, List.setIfInBounds_toArray, List.set_cons_zero, List.set_cons_succ]
    refine pickL (v := ?_) 2 (some 68) rfl rfl (by kernel_rfl) (by kernel_rfl) (by kernel_rfl) (by decide) (by kernel_rfl) (by kernel_rfl) (fun _ _ _ h => h) (by rfl) ?_ (by assumption) ?_
    rotate_left
    · intro w' hSw
      obtain ⟨q0, q1, q2, q3, q4, q5, q6, q7, q8, q9, q10, q11, q12, q13⟩ := hSw
      go_simp
      try with_reducible rfl
    try simp only [Act.put, List.setIfInBounds_toArray, List.set_cons_zero, List.set_cons_succ]
    refine pickL (v := ?_) 3 (some 69) rfl rfl (by kernel_rfl) (by kernel_rfl) (by kernel_rfl) (by decide) (by kernel_rfl) (by kernel_rfl) (fun _ _ _ h => h) (by rfl) ?_ (by assumption) ?_
    rotate_left
    · intro w' hSw
      obtain ⟨q0, q1, q2, q3, q4, q5, q6, q7, q8, q9, q10, q11, q12, q13⟩ := hSw
      go_simp
      try with_reducible rfl
    try simp only [Act.put, List.setIfInBounds_toArray, List.set_cons_zero, List.set_cons_succ]
    refine pickL (v := ?_) 4 (some 70) rfl rfl (by kernel_rfl) (by kernel_rfl) (by kernel_rfl) (by decide) (by kernel_rfl) (by kernel_rfl) (fun _ _ _ h => h) (by rfl) ?_ (by assumption) ?_
    rotate_left
    · intro w' hSw
      obtain ⟨q0, q1, q2, q3, q4, q5, q6, q7, q8, q9, q10, q11, q12, q13⟩ := hSw
      go_simp
      try with_reducible rfl
    try simp only [Act.put, List.setIfInBounds_toArray, List.set_cons_zero, List.set_cons_succ]
    refine pickA (v := ?_) 6 (some 72) rfl rfl (by kernel_rfl) (by kernel_rfl) (by kernel_rfl) (by decide) (fun _ _ _ h => h) (by rfl) ?_ (by assumption) ?_
    rotate_left
    · intro w'
      go_simp
      try with_reducible rfl
    try simp only [Act.put, List.setIfInBounds_toArray, List.set_cons_zero, List.set_cons_succ]
    refine pickL (v := ?_) 7 (some 73) rfl rfl (by kernel_rfl) (by kernel_rfl) (by kernel_rfl) (by decide) (by kernel_rfl) (by kernel_rfl) (fun _ _ _ h => h) (by rfl) ?_ (by assumption) ?_
    rotate_left
    · intro w' hSw
      obtain ⟨q0, q1, q2, q3, q4, q5, q6, q7, q8, q9, q10, q11, q12, q13⟩ := hSw
      go_simp
      try with_reducible rfl
    try simp only [Act.put, List.setIfInBounds_toArray, List.set_cons_zero, List.set_cons_succ]
    refine pickL (v := ?_) 8 (some 74) rfl rfl (by kernel_rfl) (by kernel_rfl) (by kernel_rfl) (by decide) (by kernel_rfl) (by kernel_rfl) (fun _ _ _ h => h) (by rfl) ?_ (by assumption) ?_
    rotate_left
    · intro w' hSw
      obtain ⟨q0, q1, q2, q3, q4, q5, q6, q7, q8, q9, q10, q11, q12, q13⟩ := hSw
      go_simp
      try with_reducible rfl
    try simp only [Act.put, List.setIfInBounds_toArray, List.set_cons_zero, List.set_cons_succ]
    refine pickL (v := ?_) 9 (some 75) rfl rfl (by kernel_rfl) (by kernel_rfl) (by kernel_rfl) (by decide) (by kernel_rfl) (by kernel_rfl) (fun _ _ _ h => h) (by rfl) ?_ (by assumption) ?_
    rotate_left
    · intro w' hSw
      obtain ⟨q0, q1, q2, q3, q4, q5, q6, q7, q8, q9, q10, q11, q12, q13⟩ := hSw
      go_simp
      try with_reducible rfl
    try simp only [Act.put, List.setIfInBounds_toArray, List.set_cons_zero, List.set_cons_succ]
    refine pickL (v := ?_) 10 (some 76) rfl rfl (by kernel_rfl) (by kernel_rfl) (by kernel_rfl) (by decide) (by kernel_rfl) (by kernel_rfl) (fun _ _ _ h => h) (by rfl) ?_ (by assumption) ?_
    rotate_left
    · intro w' hSw
      obtain ⟨q0, q1, q2, q3, q4, q5, q6, q7, q8, q9, q10, q11, q12, q13⟩ := hSw
      go_simp
      try with_reducible rfl
    try simp only [Act.put, List.setIfInBounds_toArray, List.set_cons_zero, List.set_cons_succ]
    refine oneL (i := 5) (by kernel_rfl) rfl (fun K hK => ?_)
    go_simp
    have CP := put_all base p m (i0, i1, i2, i3, i4) L _ LK3.out hs11 u t hut hme (okV.pos hut) HR.out HOK.out a0 a1 a2 a3 a4 b0 b1 b2 b3 b4 oa oo
    rw [hF.out, Option.isSome_none, hPE.out] at CP
    refine CP.mono ?_; rintro e w12 ⟨L12, rfl, hE12, hZ12, hx⟩
    clear CP
    have hlow := hx.low LK3.out hs11
    have IM := hide (IM.out.low hlow hHl.1)
    have IU := hide (IU.out.low hlow hHl.2.1)
    have IA := hide (IA.out.low hlow hHl.2.2.1)
    have IB := hide (IB.out.low hlow hHl.2.2.2.1)
    have ID := hide (ID.out.low hlow hHl.2.2.2.2)
    have HR := hide (HR.out.low hGr hlow)
    have F12 := hide (F10.out.empty_kp hx.kp (fun hk => by have := hflt.out _ hk; have := hm2.out.2; omega) (fun hk => by have := hflt.out _ hk; have := hm2.out.1; omega))
    have LK12 := hide hx.lk
    have B12 := hide (B11.out.trans (hlow.mono hBl))
    have hs12 : base ≤ w12.heap.size := Nat.le_trans hs11 hlow.size
    have hsF2 : base2 ≤ w12.heap.size := Nat.le_trans hsF1 hx.kp.size
    have hFF : Hid (findC (i0, i1, i2, i3, i4) L12 (u, t) = FV) := by
      show findC (i0, i1, i2, i3, i4) L12 (u, t) = FV
      rw [← hFV.out]
      by_cases hz : PE0 = 0
      · rw [if_pos hz]
        exact hZ12 hz
      · rw [if_neg hz, hE12.1 hz]
        exact hF.out
    have hmm : Hid (m ≠ m2) := by
      have g1 := hflt.out m (mem_foot.2 (Or.inl rfl))
      have g2 := hm2.out.1
      show m ≠ m2
      omega
    clear hx hlow hE12 hZ12 B11 F10 LK3
    have hS12 : (fun w' => w'.cell? ⟨H + 1, 0, none⟩ = some (.int .i64 u) ∧ w'.cell? ⟨H + 1, 1, none⟩ = some (.int .u64 t) ∧ w'.cell? ⟨H + 1 + 1, 0, none⟩ = some (.int .i64 a0) ∧ w'.cell? ⟨H + 1 + 1, 1, none⟩ = some (.int .i64 a1) ∧ w'.cell? ⟨H + 1 + 1, 2, none⟩ = some (.int .u64 a2) ∧ w'.cell? ⟨H + 1 + 1, 3, none⟩ = some (.int .i64 a3) ∧ w'.cell? ⟨H + 1 + 1, 4, none⟩ = some (.int .u64 a4) ∧ w'.cell? ⟨H + 1 + 1 + 1, 0, none⟩ = some (.int .i64 b0) ∧ w'.cell? ⟨H + 1 + 1 + 1, 1, none⟩ = some (.int .i64 b1) ∧ w'.cell? ⟨H + 1 + 1 + 1, 2, none⟩ = some (.int .u64 b2) ∧ w'.cell? ⟨H + 1 + 1 + 1, 3, none⟩ = some (.int .i64 b3) ∧ w'.cell? ⟨H + 1 + 1 + 1, 4, none⟩ = some (.int .u64 b4) ∧ w'.cell? ⟨H + 1 + 1 + 1 + 1, 0, none⟩ = some (.int .i64 oa) ∧ w'.cell? ⟨H + 1 + 1 + 1 + 1, 1, none⟩ = some (.int .i64 oo)) w12 := ⟨IU.out.cell 0, IU.out.cell 1, IA.out.cell 0, IA.out.cell 1, IA.out.cell 2, IA.out.cell 3, IA.out.cell 4, IB.out.cell 0, IB.out.cell 1, IB.out.cell 2, IB.out.cell 3, IB.out.cell 4, ID.out.cell 0, ID.out.cell 1⟩
    refine hK.out _ _ ?_ ?_
    · exact hS12
    clear hK K
    try simp only [Act.put, List.setIfInBounds_toArray, List.set_cons_zero, List.set_cons_succ]
    clear hHeld
    have hHeld := hS12
    clear hS12
    refine oneL (i := 11) (by kernel_rfl) rfl (fun K hK => ?_)
    go_simp
    have CP := put_all base2 p2 m2 (i0, i1, i2, i3, i4) [] _ F12.out hsF2 u t hut hme (okV.pos hut) HR.out (fun e he => by cases he) a0 a1 a2 a3 a4 b0 b1 b2 b3 b4 oa oo
    rw [findC_nil hF.out, Option.isSome_none, hPE.out] at CP
    refine CP.mono ?_; rintro e w13 ⟨L13, rfl, hE13, hZ13, hx⟩
    clear CP
    have hlow := hx.low F12.out hsF2
    have IM := hide (IM.out.low hlow (Nat.lt_of_lt_of_le hHl.1 hbb))
    have IU := hide (IU.out.low hlow (Nat.lt_of_lt_of_le hHl.2.1 hbb))
    have IA := hide (IA.out.low hlow (Nat.lt_of_lt_of_le hHl.2.2.1 hbb))
    have IB := hide (IB.out.low hlow (Nat.lt_of_lt_of_le hHl.2.2.2.1 hbb))
    have ID := hide (ID.out.low hlow (Nat.lt_of_lt_of_le hHl.2.2.2.2 hbb))
    have LK13 := hide (LK12.out.beside F12.out.map hmm.out hx.kp)
    have F13 := hide hx.lk
    have B13 := hide (B12.out.trans (hlow.mono (Nat.le_trans hBl hbb)))
    have hs13 : base ≤ w13.heap.size := Nat.le_trans hs12 hlow.size
    have hsF3 : base2 ≤ w13.heap.size := Nat.le_trans hsF2 hx.kp.size
    have hGG : Hid (findC (i0, i1, i2, i3, i4) L13 (u, t) = FV) := by
      show findC (i0, i1, i2, i3, i4) L13 (u, t) = FV
      rw [← hFV.out]
      by_cases hz : PE0 = 0
      · rw [if_pos hz]
        exact hZ13 hz
      · rw [if_neg hz, hE13.1 hz]
        exact findC_nil hF.out
    clear hx hlow hE13 hZ13 B12 F12 LK12
    have hS13 : (fun w' => w'.cell? ⟨H + 1, 0, none⟩ = some (.int .i64 u) ∧ w'.cell? ⟨H + 1, 1, none⟩ = some (.int .u64 t) ∧ w'.cell? ⟨H + 1 + 1, 0, none⟩ = some (.int .i64 a0) ∧ w'.cell? ⟨H + 1 + 1, 1, none⟩ = some (.int .i64 a1) ∧ w'.cell? ⟨H + 1 + 1, 2, none⟩ = some (.int .u64 a2) ∧ w'.cell? ⟨H + 1 + 1, 3, none⟩ = some (.int .i64 a3) ∧ w'.cell? ⟨H + 1 + 1, 4, none⟩ = some (.int .u64 a4) ∧ w'.cell? ⟨H + 1 + 1 + 1, 0, none⟩ = some (.int .i64 b0) ∧ w'.cell? ⟨H + 1 + 1 + 1, 1, none⟩ = some (.int .i64 b1) ∧ w'.cell? ⟨H + 1 + 1 + 1, 2, none⟩ = some (.int .u64 b2) ∧ w'.cell? ⟨H + 1 + 1 + 1, 3, none⟩ = some (.int .i64 b3) ∧ w'.cell? ⟨H + 1 + 1 + 1, 4, none⟩ = some (.int .u64 b4) ∧ w'.cell? ⟨H + 1 + 1 + 1 + 1, 0, none⟩ = some (.int .i64 oa) ∧ w'.cell? ⟨H + 1 + 1 + 1 + 1, 1, none⟩ = some (.int .i64 oo)) w13 := ⟨IU.out.cell 0, IU.out.cell 1, IA.out.cell 0, IA.out.cell 1, IA.out.cell 2, IA.out.cell 3, IA.out.cell 4, IB.out.cell 0, IB.out.cell 1, IB.out.cell 2, IB.out.cell 3, IB.out.cell 4, ID.out.cell 0, ID.out.cell 1⟩
    refine hK.out _ _ ?_ ?_
    · exact hS13
    clear hK K
    try simp only [Act.put, List.setIfInBounds_toArray, List.set_cons_zero, List.set_cons_succ]
    clear hHeld
    have hHeld := hS13
    clear hS13
    refine pickA (v := ?_) 12 (some 20) rfl rfl (by kernel_rfl) (by kernel_rfl) (by kernel_rfl) (by decide) (fun _ _ _ h => h) (by rfl) ?_ (by assumption) ?_
    rotate_left
    · intro w'
      go_simp
      try with_reducible rfl
    try simp only [Act.put, List.setIfInBounds_toArray, List.set_cons_zero, List.set_cons_succ]
    refine pickA (v := ?_) 13 (some 21) rfl rfl (by kernel_rfl) (by kernel_rfl) (by kernel_rfl) (by decide) (fun _ _ _ h => h) (by rfl) ?_ (by assumption) ?_
    rotate_left
    · intro w'
      go_simp
      try with_reducible rfl
    try simp only [Act.put, List.setIfInBounds_toArray, List.set_cons_zero, List.set_cons_succ]
    refine doneL (by kernel_rfl) ?_ _
    clear hHeld
    obtain ⟨⟨⟨s0, s1⟩, ⟨s2, s3, s4, s5, s6⟩, ⟨s7, s8, s9, sa, sb⟩, sc, ⟨sd, se⟩, sl⟩, hG⟩ : ∃ G, getS (u, t) FV = G := ⟨_, rfl⟩
    obtain ⟨IN, hIN⟩ : ∃ b, FV.isSome = b := ⟨_, rfl⟩
    replace hG := hide hG
    replace hIN := hide hIN
    have q0 := IU.out.cell 0
    have q1 := IU.out.cell 1
    simp at q0 q1
    go_wp2_with fail
    clear q0 q1
    have CG := get_all base p m (i0, i1, i2, i3, i4) L12 _ LK13.out hs13 u t hut hme (okV.pos hut)
    rw [hFF.out, hG.out, hIN.out] at CG
    refine CG.mono ?_; rintro e w14 ⟨qv, rfl, hq, -, hb14⟩
    clear CG
    simp only [] at hq ⊢
    have hlen : Hid (sl.length ≤ 100000) := by
      have := LK13.out.waits_len (u, t)
      rw [hFF.out, hG.out] at this
      show sl.length ≤ 100000
      simp only [] at this
      omega
    obtain ⟨qa, qc, rfl, -, -⟩ := hq.shape
    obtain ⟨sn, hsn⟩ : ∃ z, sl.length = z := ⟨_, rfl⟩
    rw [hsn] at hq ⊢
    replace hsn := hide hsn
    have bA := (Below.refl w14.heap.size w14).alloc (Nat.le_refl _) (.cells #[.int .i64 s0, .int .u64 s1, .int .i64 s2, .int .i64 s3, .int .u64 s4, .int .i64 s5, .int .u64 s6, .int .i64 s7, .int .i64 s8, .int .u64 s9, .int .i64 sa, .int .u64 sb, .bool sc, .int .i64 sd, .int .i64 se, .slice qa sn qc] 34)
    have hb15 := hb14.trans (bA.mono hb14.size)
    have IR := hide (IsB.new w14 #[.int .i64 s0, .int .u64 s1, .int .i64 s2, .int .i64 s3, .int .u64 s4, .int .i64 s5, .int .u64 s6, .int .i64 s7, .int .i64 s8, .int .u64 s9, .int .i64 sa, .int .u64 sb, .bool sc, .int .i64 sd, .int .i64 se, .slice qa sn qc] 34)
    have Q15 := hide (hq.below bA)
    have IU14 := IU.out.below hb14
    have v0 : w14.cell? ⟨H + 1, 0, none⟩ = some (.int .i64 u) := IU14.cell 0
    have v1 : w14.cell? ⟨H + 1, 1, none⟩ = some (.int .u64 t) := IU14.cell 1
    have vlt := IU14.lt
    have F13 := hide (F13.out.below hb15)
    have B15 := hide (B13.out.trans (hb15.mono B13.out.size))
    have hsF4 : base2 ≤ (w14.alloc (.cells #[.int .i64 s0, .int .u64 s1, .int .i64 s2, .int .i64 s3, .int .u64 s4, .int .i64 s5, .int .u64 s6, .int .i64 s7, .int .i64 s8, .int .u64 s9, .int .i64 sa, .int .u64 sb, .bool sc, .int .i64 sd, .int .i64 se, .slice qa sn qc] 34)).heap.size := Nat.le_trans hsF3 hb15.size
    clear hb14 hb15 hq bA IU14 B13 LK13
    go_wp2_with fail
    clear v0 v1 vlt
    generalize w14.alloc (.cells #[.int .i64 s0, .int .u64 s1, .int .i64 s2, .int .i64 s3, .int .u64 s4, .int .i64 s5, .int .u64 s6, .int .i64 s7, .int .i64 s8, .int .u64 s9, .int .i64 sa, .int .u64 sb, .bool sc, .int .i64 sd, .int .i64 se, .slice qa sn qc] 34) = W15 at *
    generalize hR1 : w14.heap.size = R1 at *
    clear hR1
    generalize hSV : Value.agg #[.int .i64 s0, .int .u64 s1, .int .i64 s2, .int .i64 s3, .int .u64 s4, .int .i64 s5, .int .u64 s6, .int .i64 s7, .int .i64 s8, .int .u64 s9, .int .i64 sa, .int .u64 sb, .bool sc, .int .i64 sd, .int .i64 se, .slice qa sn qc] = SV
    replace hSV := hide hSV
    have CG := get_all base2 p2 m2 (i0, i1, i2, i3, i4) L13 _ F13.out hsF4 u t hut hme (okV.pos hut)
    rw [hGG.out, hG.out, hIN.out] at CG
    refine CG.mono ?_; rintro e w16 ⟨qv, rfl, hq, -, hb16⟩
    clear CG
    simp only [] at hq ⊢
    obtain ⟨pa, pc, hqv, -, -⟩ := hq.shape
    rw [hsn.out] at hqv
    subst hqv
    have bA := (Below.refl w16.heap.size w16).alloc (Nat.le_refl _) (.cells #[.int .i64 s0, .int .u64 s1, .int .i64 s2, .int .i64 s3, .int .u64 s4, .int .i64 s5, .int .u64 s6, .int .i64 s7, .int .i64 s8, .int .u64 s9, .int .i64 sa, .int .u64 sb, .bool sc, .int .i64 sd, .int .i64 se, .slice pa sn pc] 34)
    have hb17 := hb16.trans (bA.mono hb16.size)
    have IR2 := hide (IsB.new w16 #[.int .i64 s0, .int .u64 s1, .int .i64 s2, .int .i64 s3, .int .u64 s4, .int .i64 s5, .int .u64 s6, .int .i64 s7, .int .i64 s8, .int .u64 s9, .int .i64 sa, .int .u64 sb, .bool sc, .int .i64 sd, .int .i64 se, .slice pa sn pc] 34)
    have P17 := hide (hq.below bA)
    have Q17 := hide (Q15.out.below hb17)
    have ld1 : Hid ((Instr.loadAt 34 (.pointer (some ⟨R1, 0, none⟩))).run Tryd.prog (w16.alloc (.cells #[.int .i64 s0, .int .u64 s1, .int .i64 s2, .int .i64 s3, .int .u64 s4, .int .i64 s5, .int .u64 s6, .int .i64 s7, .int .i64 s8, .int .u64 s9, .int .i64 sa, .int .u64 sb, .bool sc, .int .i64 sd, .int .i64 se, .slice pa sn pc] 34)) = .ok SV (w16.alloc (.cells #[.int .i64 s0, .int .u64 s1, .int .i64 s2, .int .i64 s3, .int .u64 s4, .int .i64 s5, .int .u64 s6, .int .i64 s7, .int .i64 s8, .int .u64 s9, .int .i64 sa, .int .u64 sb, .bool sc, .int .i64 sd, .int .i64 se, .slice pa sn pc] 34))) := by rw [← hSV.out]; exact load_rs (IR.out.below hb17) rfl
    have ld2 := hide (load_rs IR2.out rfl)
    have B17 := hide (B15.out.trans (hb17.mono B15.out.size))
    have hS : Hid (Calls Tryd.prog 10 #[.agg #[.int .i64 s0, .int .u64 s1, .int .i64 s2, .int .i64 s3, .int .u64 s4, .int .i64 s5, .int .u64 s6, .int .i64 s7, .int .i64 s8, .int .u64 s9, .int .i64 sa, .int .u64 sb, .bool sc, .int .i64 sd, .int .i64 se, .slice qa sn qc], .agg #[.int .i64 s0, .int .u64 s1, .int .i64 s2, .int .i64 s3, .int .u64 s4, .int .i64 s5, .int .u64 s6, .int .i64 s7, .int .i64 s8, .int .u64 s9, .int .i64 sa, .int .u64 sb, .bool sc, .int .i64 sd, .int .i64 se, .slice pa sn pc]] (w16.alloc (.cells #[.int .i64 s0, .int .u64 s1, .int .i64 s2, .int .i64 s3, .int .u64 s4, .int .i64 s5, .int .u64 s6, .int .i64 s7, .int .i64 s8, .int .u64 s9, .int .i64 sa, .int .u64 sb, .bool sc, .int .i64 sd, .int .i64 se, .slice pa sn pc] 34)) fun e w' => e = .returned (.bool true) ∧ Below (w16.alloc (.cells #[.int .i64 s0, .int .u64 s1, .int .i64 s2, .int .i64 s3, .int .u64 s4, .int .i64 s5, .int .u64 s6, .int .i64 s7, .int .i64 s8, .int .u64 s9, .int .i64 sa, .int .u64 sb, .bool sc, .int .i64 sd, .int .i64 se, .slice pa sn pc] 34)).heap.size (w16.alloc (.cells #[.int .i64 s0, .int .u64 s1, .int .i64 s2, .int .i64 s3, .int .u64 s4, .int .i64 s5, .int .u64 s6, .int .i64 s7, .int .i64 s8, .int .u64 s9, .int .i64 sa, .int .u64 sb, .bool sc, .int .i64 sd, .int .i64 se, .slice pa sn pc] 34)) w') := by
      have := rsame_low s0 s1 s2 s3 s4 s5 s6 s7 s8 s9 sa sb sc sd se s0 s1 s2 s3 s4 s5 s6 s7 s8 s9 sa sb sc sd se (.slice qa sn qc) (.slice pa sn pc) sl sl hlen.out _ Q17.out P17.out
      rw [sameS_iff.2 rfl] at this
      exact this
    clear hb16 hb17 hq bA B15 Q15 F13
    go_wp2_with (first | (refine wpList_load_w rfl 34 (.tmp 22) rfl rfl ld1.out ?_) | (refine wpList_load_w rfl 34 (.tmp 24) rfl rfl ld2.out ?_))
    rw [← hSV.out]
    refine hS.out.mono ?_; rintro e w18 ⟨rfl, hb18⟩
    have B18 := hide (B17.out.trans (hb18.mono B17.out.size))
    clear hb18
    go_wp2
    go_ret
    exact ⟨rfl, B18.out⟩
  · obtain ⟨os2, ⟨x0, x1, x2, x3, x4⟩, ⟨y0, y1, y2, y3, y4⟩⟩ := oc
    refine (get_some base p m (i0, i1, i2, i3, i4) L _ LK3.out hs2 u t hut hme (okV.pos hut) _ ho).mono ?_; rintro e w4 ⟨av, rfl, ⟨qv, rfl, hq⟩, -, hb4⟩
    have HI := hide (outE_hd HOK.out ho)
    have ho := hide ho
    simp only [stA] at hq HI ⊢
    obtain ⟨⟨h1, h2⟩, hh⟩ : ∃ z, hd os2 = z := ⟨_, rfl⟩
    obtain ⟨BH, hBH⟩ : ∃ z, decide (0 < os2.length) = z := ⟨_, rfl⟩
    rw [hh] at HI
    rw [hh, hBH]
    simp only [] at HI ⊢
    obtain ⟨qa, qc, rfl, -, -⟩ := hq.shape
    obtain ⟨sn, hsn⟩ : ∃ z, os2.tail.length = z := ⟨_, rfl⟩
    rw [hsn]
    clear hq
    replace hsn := hide hsn
    replace hh := hide hh
    replace hBH := hide hBH
    have bA := (Below.refl w4.heap.size w4).alloc (Nat.le_refl _) (.cells #[.int .i64 u, .int .u64 t, .int .i64 x0, .int .i64 x1, .int .u64 x2, .int .i64 x3, .int .u64 x4, .int .i64 y0, .int .i64 y1, .int .u64 y2, .int .i64 y3, .int .u64 y4, .bool BH, .int .i64 h1, .int .i64 h2, .slice qa sn qc] 34)
    have hb5 := hb4.trans (bA.mono hb4.size)
    have IU4 := IU.out.below hb4
    have v0 : w4.cell? ⟨H + 1, 0, none⟩ = some (.int .i64 u) := IU4.cell 0
    have v1 : w4.cell? ⟨H + 1, 1, none⟩ = some (.int .u64 t) := IU4.cell 1
    have vlt := IU4.lt
    have IR0 := hide (IsB.new w4 #[.int .i64 u, .int .u64 t, .int .i64 x0, .int .i64 x1, .int .u64 x2, .int .i64 x3, .int .u64 x4, .int .i64 y0, .int .i64 y1, .int .u64 y2, .int .i64 y3, .int .u64 y4, .bool BH, .int .i64 h1, .int .i64 h2, .slice qa sn qc] 34)
    have IM := hide (IM.out.below hb5)
    have IU := hide (IU.out.below hb5)
    have IA := hide (IA.out.below hb5)
    have IB := hide (IB.out.below hb5)
    have ID := hide (ID.out.below hb5)
    have HR := hide (HR.out.below hb5)
    have LK3 := hide (LK3.out.below hb5)
    have B5 := hide (B3.out.trans (hb5.mono B3.out.size))
    have hs5 : base ≤ (w4.alloc (.cells #[.int .i64 u, .int .u64 t, .int .i64 x0, .int .i64 x1, .int .u64 x2, .int .i64 x3, .int .u64 x4, .int .i64 y0, .int .i64 y1, .int .u64 y2, .int .i64 y3, .int .u64 y4, .bool BH, .int .i64 h1, .int .i64 h2, .slice qa sn qc] 34)).heap.size := Nat.le_trans hs2 hb5.size
    clear hb4 hb5 bA IU4 B3
    go_wp2_with fail
    clear v0 v1 vlt
    generalize w4.alloc (.cells #[.int .i64 u, .int .u64 t, .int .i64 x0, .int .i64 x1, .int .u64 x2, .int .i64 x3, .int .u64 x4, .int .i64 y0, .int .i64 y1, .int .u64 y2, .int .i64 y3, .int .u64 y4, .bool BH, .int .i64 h1, .int .i64 h2, .slice qa sn qc] 34) = W5 at *
    generalize hR0 : w4.heap.size = R0 at *
    clear hR0
    generalize hSV0 : Value.agg #[.int .i64 u, .int .u64 t, .int .i64 x0, .int .i64 x1, .int .u64 x2, .int .i64 x3, .int .u64 x4, .int .i64 y0, .int .i64 y1, .int .u64 y2, .int .i64 y3, .int .u64 y4, .bool BH, .int .i64 h1, .int .i64 h2, .slice qa sn qc] = SV0
    clear hSV0
    obtain ⟨OE, hOE⟩ : ∃ z, outE (i0, i1, i2, i3, i4) L (u, t) h1 h2 = z := ⟨_, rfl⟩
    have CO := out_all base p m (i0, i1, i2, i3, i4) L _ LK3.out hs5 u t hut hme (okV.pos hut) HOK.out h1 h2
    rw [hOE] at CO HI
    refine CO.mono ?_; rintro e w6 ⟨ra, rn, rc, L6, rfl, hE6, hD6, hx⟩
    clear CO
    replace hOE := hide hOE
    have hlow := hx.low LK3.out hs5
    have IM := hide (IM.out.low hlow hHl.1)
    have IU := hide (IU.out.low hlow hHl.2.1)
    have IA := hide (IA.out.low hlow hHl.2.2.1)
    have IB := hide (IB.out.low hlow hHl.2.2.2.1)
    have ID := hide (ID.out.low hlow hHl.2.2.2.2)
    have HR := hide (HR.out.low hGr hlow)
    have IR0 := hide (hx.keeps LK3.out IR0.out (by decide) (by decide))
    have LK6 := hide hx.lk
    have B6 := hide (B5.out.trans (hlow.mono hBl))
    have hs6 : base ≤ w6.heap.size := Nat.le_trans hs5 hlow.size
    have HOK6 := hide hE6.2.2
    replace hD6 := hide hD6
    clear hx hlow hE6 B5 LK3
    have z12 : w6.cell? ⟨R0, 12, none⟩ = some (.bool BH) := IR0.out.cell 12
    have z1 : w6.cell? ⟨H, 1, none⟩ = some (.int .i64 i1) := IM.out.cell 1
    by_cases hz : OE = 0
    · subst hz
      obtain ⟨hBt, hrt⟩ := HI.out.1 rfl
      have hBH2 : BH = true := by rw [← hBH.out]; simpa using hBt
      subst hBH2
      subst hrt
      obtain ⟨-, rfl⟩ := hD6.out rfl
      have hF : Hid (findC (i0, 2, i2, i3, i4) (dropL (u, t) L) (u, t) = none) := findC_drop_peer rfl
      clear hBt
      have m0 : w6.cell? ⟨H, 0, none⟩ = some (.int .i64 i0) := IM.out.cell 0
      have m1 : w6.cell? ⟨H, 1, none⟩ = some (.int .i64 2) := IM.out.cell 1
      have m2 : w6.cell? ⟨H, 2, none⟩ = some (.int .u64 i2) := IM.out.cell 2
      have m3 : w6.cell? ⟨H, 3, none⟩ = some (.int .i64 i3) := IM.out.cell 3
      have m4 : w6.cell? ⟨H, 4, none⟩ = some (.int .u64 i4) := IM.out.cell 4
      have mlt := IM.out.lt
      go_wp2_with fail
      clear mlt m0 m1 m2 m3 m4 z12 z1
      have LKC0 := LK6
      refine (lnew_ok i0 2 i2 i3 i4 _ HR.out hb hE).mono ?_; rintro e w10 ⟨p2, m2, rfl, hL2, hb10⟩
      have IM := hide (IM.out.below hb10)
      have IU := hide (IU.out.below hb10)
      have IA := hide (IA.out.below hb10)
      have IB := hide (IB.out.below hb10)
      have ID := hide (ID.out.below hb10)
      have HR := hide (HR.out.below hb10)
      have LK6 := hide (LK6.out.below hb10)
      have hm2 : Hid (w6.heap.size ≤ m2 ∧ w6.heap.size ≤ p2) := ⟨hL2.lo.2.1, hL2.lo.1⟩
      have F10 := hide hL2
      have B10 := hide (B6.out.trans (hb10.mono B6.out.size))
      have hs10 : base ≤ w10.heap.size := Nat.le_trans hs6 hb10.size
      have hsF : w6.heap.size ≤ w10.heap.size := hb10.size
      have hflt : Hid (∀ k ∈ foot m (dropL (u, t) L), k < w6.heap.size) := LKC0.out.foot_lt
      clear hb10 hL2
      generalize hb2e : w6.heap.size = base2 at F10 hsF hm2 hflt
      have hbb : base ≤ base2 := by rw [← hb2e]; exact hs6
      replace hb2e := hide hb2e
      go_wp2
      have IM := hide (IM.out.below ((Below.refl _ w10).drew))
      have IU := hide (IU.out.below ((Below.refl _ w10).drew))
      have IA := hide (IA.out.below ((Below.refl _ w10).drew))
      have IB := hide (IB.out.below ((Below.refl _ w10).drew))
      have ID := hide (ID.out.below ((Below.refl _ w10).drew))
      have HR := hide (HR.out.below ((Below.refl _ w10).drew))
      have LK6 := hide (LK6.out.below ((Below.refl _ w10).drew))
      have F10 := hide (F10.out.below ((Below.refl _ w10).drew))
      have B11 := hide B10.out.drew
      have hs11 : base ≤ w10.drew.heap.size := hs10
      have hsF1 : base2 ≤ w10.drew.heap.size := hsF
      clear B10
      obtain ⟨PE0, hPE⟩ : ∃ z, putE (i0, 2, i2, i3, i4) false (u, t) (a0, a1, a2, a3, a4) (b0, b1, b2, b3, b4) (oa, oo) = z := ⟨_, rfl⟩
      replace hPE := hide hPE
      obtain ⟨FV, hFV⟩ : ∃ z, (if PE0 = 0 then some (([(oa, oo)], (a0, a1, a2, a3, a4), (b0, b1, b2, b3, b4)) : Cn) else none) = z := ⟨_, rfl⟩
      replace hFV := hide hFV
      refine regionL 14 (fun w' => w'.cell? ⟨H + 1, 0, none⟩ = some (.int .i64 u) ∧ w'.cell? ⟨H + 1, 1, none⟩ = some (.int .u64 t) ∧ w'.cell? ⟨H + 1 + 1, 0, none⟩ = some (.int .i64 a0) ∧ w'.cell? ⟨H + 1 + 1, 1, none⟩ = some (.int .i64 a1) ∧ w'.cell? ⟨H + 1 + 1, 2, none⟩ = some (.int .u64 a2) ∧ w'.cell? ⟨H + 1 + 1, 3, none⟩ = some (.int .i64 a3) ∧ w'.cell? ⟨H + 1 + 1, 4, none⟩ = some (.int .u64 a4) ∧ w'.cell? ⟨H + 1 + 1 + 1, 0, none⟩ = some (.int .i64 b0) ∧ w'.cell? ⟨H + 1 + 1 + 1, 1, none⟩ = some (.int .i64 b1) ∧ w'.cell? ⟨H + 1 + 1 + 1, 2, none⟩ = some (.int .u64 b2) ∧ w'.cell? ⟨H + 1 + 1 + 1, 3, none⟩ = some (.int .i64 b3) ∧ w'.cell? ⟨H + 1 + 1 + 1, 4, none⟩ = some (.int .u64 b4) ∧ w'.cell? ⟨H + 1 + 1 + 1 + 1, 0, none⟩ = some (.int .i64 oa) ∧ w'.cell? ⟨H + 1 + 1 + 1 + 1, 1, none⟩ = some (.int .i64 oo)) mixed ⟨IU.out.cell 0, IU.out.cell 1, IA.out.cell 0, IA.out.cell 1, IA.out.cell 2, IA.out.cell 3, IA.out.cell 4, IB.out.cell 0, IB.out.cell 1, IB.out.cell 2, IB.out.cell 3, IB.out.cell 4, ID.out.cell 0, ID.out.cell 1⟩ (fun hHeld => ?_)
      refine pickA (v := ?_) 0 (some 66) rfl rfl (by kernel_rfl) (by kernel_rfl) (by kernel_rfl) (by decide) (fun _ _ _ h => h) (by rfl) ?_ (by assumption) ?_
      rotate_left
      · intro w'
        go_simp
        try with_reducible rfl
      try simp only [Act.put, List.setIfInBounds_toArray, List.set_cons_zero, List.set_cons_succ]
      refine pickL (v := ?_) 1 (some 67) rfl rfl (by kernel_rfl) (by kernel_rfl) (by kernel_rfl) (by decide) (by kernel_rfl) (by kernel_rfl) (fun _ _ _ h => h) (by rfl) ?_ (by assumption) ?_
      rotate_left
      · intro w' hSw
        obtain ⟨q0, q1, q2, q3, q4, q5, q6, q7, q8, q9, q10, q11, q12, q13⟩ := hSw
        go_simp
        try with_reducible rfl
      try simp only [Act.put, List.setIfInBounds_toArray, List.set_cons_zero, List.set_cons_succ]
      refine pickL (v := ?_) 2 (some 68) rfl rfl (by kernel_rfl) (by kernel_rfl) (by kernel_rfl) (by decide) (by kernel_rfl) (by kernel_rfl) (fun _ _ _ h => h) (by rfl) ?_ (by assumption) ?_
      rotate_left
      · intro w' hSw
        obtain ⟨q0, q1, q2, q3, q4, q5, q6, q7, q8, q9, q10, q11, q12, q13⟩ := hSw
        go_simp
        try with_reducible rfl
      try simp only [Act.put, List.setIfInBounds_toArray, List.set_cons_zero, List.set_cons_succ]
      refine pickL (v := ?_) 3 (some 69) rfl rfl (by kernel_rfl) (by kernel_rfl) (by kernel_rfl) (by decide) (by kernel_rfl) (by kernel_rfl) (fun _ _ _ h => h) (by rfl) ?_ (by assumption) ?_
      rotate_left
      · intro w' hSw
        obtain ⟨q0, q1, q2, q3, q4, q5, q6, q7, q8, q9, q10, q11, q12, q13⟩ := hSw
        go_simp
        try with_reducible rfl
      try simp only [Act.put, List.setIfInBounds_toArray, List.set_cons_zero, List.set_cons_succ]
      refine pickL (v := ?_) 4 (some 70) rfl rfl (by kernel_rfl) (by kernel_rfl) (by kernel_rfl) (by decide) (by kernel_rfl) (by kernel_rfl) (fun _ _ _ h => h) (by rfl) ?_ (by assumption) ?_
      rotate_left
      · intro w' hSw
        obtain ⟨q0, q1, q2, q3, q4, q5, q6, q7, q8, q9, q10, q11, q12, q13⟩ := hSw
        go_simp
        try with_reducible rfl
      try simp only [Act.put, List.setIfInBounds_toArray, List.set_cons_zero, List.set_cons_succ]
      refine pickA (v := ?_) 6 (some 72) rfl rfl (by kernel_rfl) (by kernel_rfl) (by kernel_rfl) (by decide) (fun _ _ _ h => h) (by rfl) ?_ (by assumption) ?_
      rotate_left
      · intro w'
        go_simp
        try with_reducible rfl
      try simp only [Act.put, List.setIfInBounds_toArray, List.set_cons_zero, List.set_cons_succ]
      refine pickL (v := ?_) 7 (some 73) rfl rfl (by kernel_rfl) (by kernel_rfl) (by kernel_rfl) (by decide) (by kernel_rfl) (by kernel_rfl) (fun _ _ _ h => h) (by rfl) ?_ (by assumption) ?_
      rotate_left
      · intro w' hSw
        obtain ⟨q0, q1, q2, q3, q4, q5, q6, q7, q8, q9, q10, q11, q12, q13⟩ := hSw
        go_simp
        try with_reducible rfl
      try simp only [Act.put, List.setIfInBounds_toArray, List.set_cons_zero, List.set_cons_succ]
      refine pickL (v := ?_) 8 (some 74) rfl rfl (by kernel_rfl) (by kernel_rfl) (by kernel_rfl) (by decide) (by kernel_rfl) (by kernel_rfl) (fun _ _ _ h => h) (by rfl) ?_ (by assumption) ?_
      rotate_left
      · intro w' hSw
        obtain ⟨q0, q1, q2, q3, q4, q5, q6, q7, q8, q9, q10, q11, q12, q13⟩ := hSw
        go_simp
        try with_reducible rfl
      try simp only [Act.put, List.setIfInBounds_toArray, List.set_cons_zero, List.set_cons_succ]
      refine pickL (v := ?_) 9 (some 75) rfl rfl (by kernel_rfl) (by kernel_rfl) (by kernel_rfl) (by decide) (by kernel_rfl) (by kernel_rfl) (fun _ _ _ h => h) (by rfl) ?_ (by assumption) ?_
      rotate_left
      · intro w' hSw
        obtain ⟨q0, q1, q2, q3, q4, q5, q6, q7, q8, q9, q10, q11, q12, q13⟩ := hSw
        go_simp
        try with_reducible rfl
      try simp only [Act.put, List.setIfInBounds_toArray, List.set_cons_zero, List.set_cons_succ]
      refine pickL (v := ?_) 10 (some 76) rfl rfl (by kernel_rfl) (by kernel_rfl) (by kernel_rfl) (by decide) (by kernel_rfl) (by kernel_rfl) (fun _ _ _ h => h) (by rfl) ?_ (by assumption) ?_
      rotate_left
      · intro w' hSw
        obtain ⟨q0, q1, q2, q3, q4, q5, q6, q7, q8, q9, q10, q11, q12, q13⟩ := hSw
        go_simp
        try with_reducible rfl
      try simp only [Act.put, List.setIfInBounds_toArray, List.set_cons_zero, List.set_cons_succ]
      refine oneL (i := 5) (by kernel_rfl) rfl (fun K hK => ?_)
      go_simp
      have CP := put_all base p m (i0, 2, i2, i3, i4) (dropL (u, t) L) _ LK6.out hs11 u t hut hme (okV.pos hut) HR.out HOK6.out a0 a1 a2 a3 a4 b0 b1 b2 b3 b4 oa oo
      rw [hF.out, Option.isSome_none, hPE.out] at CP
      refine CP.mono ?_; rintro e w12 ⟨L12, rfl, hE12, hZ12, hx⟩
      clear CP
      have hlow := hx.low LK6.out hs11
      have IM := hide (IM.out.low hlow hHl.1)
      have IU := hide (IU.out.low hlow hHl.2.1)
      have IA := hide (IA.out.low hlow hHl.2.2.1)
      have IB := hide (IB.out.low hlow hHl.2.2.2.1)
      have ID := hide (ID.out.low hlow hHl.2.2.2.2)
      have HR := hide (HR.out.low hGr hlow)
      have F12 := hide (F10.out.empty_kp hx.kp (fun hk => by have := hflt.out _ hk; have := hm2.out.2; omega) (fun hk => by have := hflt.out _ hk; have := hm2.out.1; omega))
      have LK12 := hide hx.lk
      have B12 := hide (B11.out.trans (hlow.mono hBl))
      have hs12 : base ≤ w12.heap.size := Nat.le_trans hs11 hlow.size
      have hsF2 : base2 ≤ w12.heap.size := Nat.le_trans hsF1 hx.kp.size
      have hFF : Hid (findC (i0, 2, i2, i3, i4) L12 (u, t) = FV) := by
        show findC (i0, 2, i2, i3, i4) L12 (u, t) = FV
        rw [← hFV.out]
        by_cases hz : PE0 = 0
        · rw [if_pos hz]
          exact hZ12 hz
        · rw [if_neg hz, hE12.1 hz]
          exact hF.out
      have hmm : Hid (m ≠ m2) := by
        have g1 := hflt.out m (mem_foot.2 (Or.inl rfl))
        have g2 := hm2.out.1
        show m ≠ m2
        omega
      clear hx hlow hE12 hZ12 B11 F10 LK6
      have hS12 : (fun w' => w'.cell? ⟨H + 1, 0, none⟩ = some (.int .i64 u) ∧ w'.cell? ⟨H + 1, 1, none⟩ = some (.int .u64 t) ∧ w'.cell? ⟨H + 1 + 1, 0, none⟩ = some (.int .i64 a0) ∧ w'.cell? ⟨H + 1 + 1, 1, none⟩ = some (.int .i64 a1) ∧ w'.cell? ⟨H + 1 + 1, 2, none⟩ = some (.int .u64 a2) ∧ w'.cell? ⟨H + 1 + 1, 3, none⟩ = some (.int .i64 a3) ∧ w'.cell? ⟨H + 1 + 1, 4, none⟩ = some (.int .u64 a4) ∧ w'.cell? ⟨H + 1 + 1 + 1, 0, none⟩ = some (.int .i64 b0) ∧ w'.cell? ⟨H + 1 + 1 + 1, 1, none⟩ = some (.int .i64 b1) ∧ w'.cell? ⟨H + 1 + 1 + 1, 2, none⟩ = some (.int .u64 b2) ∧ w'.cell? ⟨H + 1 + 1 + 1, 3, none⟩ = some (.int .i64 b3) ∧ w'.cell? ⟨H + 1 + 1 + 1, 4, none⟩ = some (.int .u64 b4) ∧ w'.cell? ⟨H + 1 + 1 + 1 + 1, 0, none⟩ = some (.int .i64 oa) ∧ w'.cell? ⟨H + 1 + 1 + 1 + 1, 1, none⟩ = some (.int .i64 oo)) w12 := ⟨IU.out.cell 0, IU.out.cell 1, IA.out.cell 0, IA.out.cell 1, IA.out.cell 2, IA.out.cell 3, IA.out.cell 4, IB.out.cell 0, IB.out.cell 1, IB.out.cell 2, IB.out.cell 3, IB.out.cell 4, ID.out.cell 0, ID.out.cell 1⟩
      refine hK.out _ _ ?_ ?_
      · exact hS12
      clear hK K
      try simp only [Act.put, List.setIfInBounds_toArray, List.set_cons_zero, List.set_cons_succ]
      clear hHeld
      have hHeld := hS12
      clear hS12
      refine oneL (i := 11) (by kernel_rfl) rfl (fun K hK => ?_)
      go_simp
      have CP := put_all base2 p2 m2 (i0, 2, i2, i3, i4) [] _ F12.out hsF2 u t hut hme (okV.pos hut) HR.out (fun e he => by cases he) a0 a1 a2 a3 a4 b0 b1 b2 b3 b4 oa oo
      rw [findC_nil hF.out, Option.isSome_none, hPE.out] at CP
      refine CP.mono ?_; rintro e w13 ⟨L13, rfl, hE13, hZ13, hx⟩
      clear CP
      have hlow := hx.low F12.out hsF2
      have IM := hide (IM.out.low hlow (Nat.lt_of_lt_of_le hHl.1 hbb))
      have IU := hide (IU.out.low hlow (Nat.lt_of_lt_of_le hHl.2.1 hbb))
      have IA := hide (IA.out.low hlow (Nat.lt_of_lt_of_le hHl.2.2.1 hbb))
      have IB := hide (IB.out.low hlow (Nat.lt_of_lt_of_le hHl.2.2.2.1 hbb))
      have ID := hide (ID.out.low hlow (Nat.lt_of_lt_of_le hHl.2.2.2.2 hbb))
      have LK13 := hide (LK12.out.beside F12.out.map hmm.out hx.kp)
      have F13 := hide hx.lk
      have B13 := hide (B12.out.trans (hlow.mono (Nat.le_trans hBl hbb)))
      have hs13 : base ≤ w13.heap.size := Nat.le_trans hs12 hlow.size
      have hsF3 : base2 ≤ w13.heap.size := Nat.le_trans hsF2 hx.kp.size
      have hGG : Hid (findC (i0, 2, i2, i3, i4) L13 (u, t) = FV) := by
        show findC (i0, 2, i2, i3, i4) L13 (u, t) = FV
        rw [← hFV.out]
        by_cases hz : PE0 = 0
        · rw [if_pos hz]
          exact hZ13 hz
        · rw [if_neg hz, hE13.1 hz]
          exact findC_nil hF.out
      clear hx hlow hE13 hZ13 B12 F12 LK12
      have hS13 : (fun w' => w'.cell? ⟨H + 1, 0, none⟩ = some (.int .i64 u) ∧ w'.cell? ⟨H + 1, 1, none⟩ = some (.int .u64 t) ∧ w'.cell? ⟨H + 1 + 1, 0, none⟩ = some (.int .i64 a0) ∧ w'.cell? ⟨H + 1 + 1, 1, none⟩ = some (.int .i64 a1) ∧ w'.cell? ⟨H + 1 + 1, 2, none⟩ = some (.int .u64 a2) ∧ w'.cell? ⟨H + 1 + 1, 3, none⟩ = some (.int .i64 a3) ∧ w'.cell? ⟨H + 1 + 1, 4, none⟩ = some (.int .u64 a4) ∧ w'.cell? ⟨H + 1 + 1 + 1, 0, none⟩ = some (.int .i64 b0) ∧ w'.cell? ⟨H + 1 + 1 + 1, 1, none⟩ = some (.int .i64 b1) ∧ w'.cell? ⟨H + 1 + 1 + 1, 2, none⟩ = some (.int .u64 b2) ∧ w'.cell? ⟨H + 1 + 1 + 1, 3, none⟩ = some (.int .i64 b3) ∧ w'.cell? ⟨H + 1 + 1 + 1, 4, none⟩ = some (.int .u64 b4) ∧ w'.cell? ⟨H + 1 + 1 + 1 + 1, 0, none⟩ = some (.int .i64 oa) ∧ w'.cell? ⟨H + 1 + 1 + 1 + 1, 1, none⟩ = some (.int .i64 oo)) w13 := ⟨IU.out.cell 0, IU.out.cell 1, IA.out.cell 0, IA.out.cell 1, IA.out.cell 2, IA.out.cell 3, IA.out.cell 4, IB.out.cell 0, IB.out.cell 1, IB.out.cell 2, IB.out.cell 3, IB.out.cell 4, ID.out.cell 0, ID.out.cell 1⟩
      refine hK.out _ _ ?_ ?_
      · exact hS13
      clear hK K
      try simp only [Act.put, List.setIfInBounds_toArray, List.set_cons_zero, List.set_cons_succ]
      clear hHeld
      have hHeld := hS13
      clear hS13
      refine pickA (v := ?_) 12 (some 20) rfl rfl (by kernel_rfl) (by kernel_rfl) (by kernel_rfl) (by decide) (fun _ _ _ h => h) (by rfl) ?_ (by assumption) ?_
      rotate_left
      · intro w'
        go_simp
        try with_reducible rfl
      try simp only [Act.put, List.setIfInBounds_toArray, List.set_cons_zero, List.set_cons_succ]
      refine pickA (v := ?_) 13 (some 21) rfl rfl (by kernel_rfl) (by kernel_rfl) (by kernel_rfl) (by decide) (fun _ _ _ h => h) (by rfl) ?_ (by assumption) ?_
      rotate_left
      · intro w'
        go_simp
        try with_reducible rfl
      try simp only [Act.put, List.setIfInBounds_toArray, List.set_cons_zero, List.set_cons_succ]
      refine doneL (by kernel_rfl) ?_ _
      clear hHeld
      obtain ⟨⟨⟨s0, s1⟩, ⟨s2, s3, s4, s5, s6⟩, ⟨s7, s8, s9, sa, sb⟩, sc, ⟨sd, se⟩, sl⟩, hG⟩ : ∃ G, getS (u, t) FV = G := ⟨_, rfl⟩
      obtain ⟨IN, hIN⟩ : ∃ b, FV.isSome = b := ⟨_, rfl⟩
      replace hG := hide hG
      replace hIN := hide hIN
      have q0 := IU.out.cell 0
      have q1 := IU.out.cell 1
      simp at q0 q1
      go_wp2_with fail
      clear q0 q1
      have CG := get_all base p m (i0, 2, i2, i3, i4) L12 _ LK13.out hs13 u t hut hme (okV.pos hut)
      rw [hFF.out, hG.out, hIN.out] at CG
      refine CG.mono ?_; rintro e w14 ⟨qv, rfl, hq, -, hb14⟩
      clear CG
      simp only [] at hq ⊢
      have hlen : Hid (sl.length ≤ 100000) := by
        have := LK13.out.waits_len (u, t)
        rw [hFF.out, hG.out] at this
        show sl.length ≤ 100000
        simp only [] at this
        omega
      obtain ⟨qa, qc, rfl, -, -⟩ := hq.shape
      obtain ⟨sn, hsn⟩ : ∃ z, sl.length = z := ⟨_, rfl⟩
      rw [hsn] at hq ⊢
      replace hsn := hide hsn
      have bA := (Below.refl w14.heap.size w14).alloc (Nat.le_refl _) (.cells #[.int .i64 s0, .int .u64 s1, .int .i64 s2, .int .i64 s3, .int .u64 s4, .int .i64 s5, .int .u64 s6, .int .i64 s7, .int .i64 s8, .int .u64 s9, .int .i64 sa, .int .u64 sb, .bool sc, .int .i64 sd, .int .i64 se, .slice qa sn qc] 34)
      have hb15 := hb14.trans (bA.mono hb14.size)
      have IR := hide (IsB.new w14 #[.int .i64 s0, .int .u64 s1, .int .i64 s2, .int .i64 s3, .int .u64 s4, .int .i64 s5, .int .u64 s6, .int .i64 s7, .int .i64 s8, .int .u64 s9, .int .i64 sa, .int .u64 sb, .bool sc, .int .i64 sd, .int .i64 se, .slice qa sn qc] 34)
      have Q15 := hide (hq.below bA)
      have IU14 := IU.out.below hb14
      have v0 : w14.cell? ⟨H + 1, 0, none⟩ = some (.int .i64 u) := IU14.cell 0
      have v1 : w14.cell? ⟨H + 1, 1, none⟩ = some (.int .u64 t) := IU14.cell 1
      have vlt := IU14.lt
      have F13 := hide (F13.out.below hb15)
      have B15 := hide (B13.out.trans (hb15.mono B13.out.size))
      have hsF4 : base2 ≤ (w14.alloc (.cells #[.int .i64 s0, .int .u64 s1, .int .i64 s2, .int .i64 s3, .int .u64 s4, .int .i64 s5, .int .u64 s6, .int .i64 s7, .int .i64 s8, .int .u64 s9, .int .i64 sa, .int .u64 sb, .bool sc, .int .i64 sd, .int .i64 se, .slice qa sn qc] 34)).heap.size := Nat.le_trans hsF3 hb15.size
      clear hb14 hb15 hq bA IU14 B13 LK13
      go_wp2_with fail
      clear v0 v1 vlt
      generalize w14.alloc (.cells #[.int .i64 s0, .int .u64 s1, .int .i64 s2, .int .i64 s3, .int .u64 s4, .int .i64 s5, .int .u64 s6, .int .i64 s7, .int .i64 s8, .int .u64 s9, .int .i64 sa, .int .u64 sb, .bool sc, .int .i64 sd, .int .i64 se, .slice qa sn qc] 34) = W15 at *
      generalize hR1 : w14.heap.size = R1 at *
      clear hR1
      generalize hSV : Value.agg #[.int .i64 s0, .int .u64 s1, .int .i64 s2, .int .i64 s3, .int .u64 s4, .int .i64 s5, .int .u64 s6, .int .i64 s7, .int .i64 s8, .int .u64 s9, .int .i64 sa, .int .u64 sb, .bool sc, .int .i64 sd, .int .i64 se, .slice qa sn qc] = SV
      replace hSV := hide hSV
      have CG := get_all base2 p2 m2 (i0, 2, i2, i3, i4) L13 _ F13.out hsF4 u t hut hme (okV.pos hut)
      rw [hGG.out, hG.out, hIN.out] at CG
      refine CG.mono ?_; rintro e w16 ⟨qv, rfl, hq, -, hb16⟩
      clear CG
      simp only [] at hq ⊢
      obtain ⟨pa, pc, hqv, -, -⟩ := hq.shape
      rw [hsn.out] at hqv
      subst hqv
      have bA := (Below.refl w16.heap.size w16).alloc (Nat.le_refl _) (.cells #[.int .i64 s0, .int .u64 s1, .int .i64 s2, .int .i64 s3, .int .u64 s4, .int .i64 s5, .int .u64 s6, .int .i64 s7, .int .i64 s8, .int .u64 s9, .int .i64 sa, .int .u64 sb, .bool sc, .int .i64 sd, .int .i64 se, .slice pa sn pc] 34)
      have hb17 := hb16.trans (bA.mono hb16.size)
      have IR2 := hide (IsB.new w16 #[.int .i64 s0, .int .u64 s1, .int .i64 s2, .int .i64 s3, .int .u64 s4, .int .i64 s5, .int .u64 s6, .int .i64 s7, .int .i64 s8, .int .u64 s9, .int .i64 sa, .int .u64 sb, .bool sc, .int .i64 sd, .int .i64 se, .slice pa sn pc] 34)
      have P17 := hide (hq.below bA)
      have Q17 := hide (Q15.out.below hb17)
      have ld1 : Hid ((Instr.loadAt 34 (.pointer (some ⟨R1, 0, none⟩))).run Tryd.prog (w16.alloc (.cells #[.int .i64 s0, .int .u64 s1, .int .i64 s2, .int .i64 s3, .int .u64 s4, .int .i64 s5, .int .u64 s6, .int .i64 s7, .int .i64 s8, .int .u64 s9, .int .i64 sa, .int .u64 sb, .bool sc, .int .i64 sd, .int .i64 se, .slice pa sn pc] 34)) = .ok SV (w16.alloc (.cells #[.int .i64 s0, .int .u64 s1, .int .i64 s2, .int .i64 s3, .int .u64 s4, .int .i64 s5, .int .u64 s6, .int .i64 s7, .int .i64 s8, .int .u64 s9, .int .i64 sa, .int .u64 sb, .bool sc, .int .i64 sd, .int .i64 se, .slice pa sn pc] 34))) := by rw [← hSV.out]; exact load_rs (IR.out.below hb17) rfl
      have ld2 := hide (load_rs IR2.out rfl)
      have B17 := hide (B15.out.trans (hb17.mono B15.out.size))
      have hS : Hid (Calls Tryd.prog 10 #[.agg #[.int .i64 s0, .int .u64 s1, .int .i64 s2, .int .i64 s3, .int .u64 s4, .int .i64 s5, .int .u64 s6, .int .i64 s7, .int .i64 s8, .int .u64 s9, .int .i64 sa, .int .u64 sb, .bool sc, .int .i64 sd, .int .i64 se, .slice qa sn qc], .agg #[.int .i64 s0, .int .u64 s1, .int .i64 s2, .int .i64 s3, .int .u64 s4, .int .i64 s5, .int .u64 s6, .int .i64 s7, .int .i64 s8, .int .u64 s9, .int .i64 sa, .int .u64 sb, .bool sc, .int .i64 sd, .int .i64 se, .slice pa sn pc]] (w16.alloc (.cells #[.int .i64 s0, .int .u64 s1, .int .i64 s2, .int .i64 s3, .int .u64 s4, .int .i64 s5, .int .u64 s6, .int .i64 s7, .int .i64 s8, .int .u64 s9, .int .i64 sa, .int .u64 sb, .bool sc, .int .i64 sd, .int .i64 se, .slice pa sn pc] 34)) fun e w' => e = .returned (.bool true) ∧ Below (w16.alloc (.cells #[.int .i64 s0, .int .u64 s1, .int .i64 s2, .int .i64 s3, .int .u64 s4, .int .i64 s5, .int .u64 s6, .int .i64 s7, .int .i64 s8, .int .u64 s9, .int .i64 sa, .int .u64 sb, .bool sc, .int .i64 sd, .int .i64 se, .slice pa sn pc] 34)).heap.size (w16.alloc (.cells #[.int .i64 s0, .int .u64 s1, .int .i64 s2, .int .i64 s3, .int .u64 s4, .int .i64 s5, .int .u64 s6, .int .i64 s7, .int .i64 s8, .int .u64 s9, .int .i64 sa, .int .u64 sb, .bool sc, .int .i64 sd, .int .i64 se, .slice pa sn pc] 34)) w') := by
        have := rsame_low s0 s1 s2 s3 s4 s5 s6 s7 s8 s9 sa sb sc sd se s0 s1 s2 s3 s4 s5 s6 s7 s8 s9 sa sb sc sd se (.slice qa sn qc) (.slice pa sn pc) sl sl hlen.out _ Q17.out P17.out
        rw [sameS_iff.2 rfl] at this
        exact this
      clear hb16 hb17 hq bA B15 Q15 F13
      go_wp2_with (first | (refine wpList_load_w rfl 34 (.tmp 22) rfl rfl ld1.out ?_) | (refine wpList_load_w rfl 34 (.tmp 24) rfl rfl ld2.out ?_))
      rw [← hSV.out]
      refine hS.out.mono ?_; rintro e w18 ⟨rfl, hb18⟩
      have B18 := hide (B17.out.trans (hb18.mono B17.out.size))
      clear hb18
      go_wp2
      go_ret
      exact ⟨rfl, B18.out⟩
    · have hOb : (OE == 0) = false := by simpa using hz
      have hOn : (OE != 0) = true := by simpa using hz
      have hcond : ¬ (BH = true ∧ i1 = 2) := by
        rintro ⟨g1, g2⟩
        refine hz (HI.out.2 ⟨?_, g2⟩)
        rw [← hBH.out] at g1
        simpa using g1
      cases BH
      · go_wp2
        go_ret
        exact ⟨rfl, B6.out⟩
      · have hi1 : (i1 == 2) = false := by
          have : i1 ≠ 2 := fun e => hcond ⟨rfl, e⟩
          simpa using this
        go_wp2
        go_ret
        exact ⟨rfl, B6.out⟩

theorem linkAgain_walk (i0 i1 i2 i3 i4 : Int) (v : Value) (os : List Opv) (u t : Int) (a0 a1 a2 a3 a4 b0 b1 b2 b3 b4 oa oo : Int) (w : World) (hR : Ranks w) (hO : OpsAt w v os) (hb : 0 ≤ i4) (hut : okV (u, t)) : Calls Tryd.prog 6 #[.agg #[.int .i64 i0, .int .i64 i1, .int .u64 i2, .int .i64 i3, .int .u64 i4], v, .agg #[.int .i64 u, .int .u64 t], .agg #[.int .i64 a0, .int .i64 a1, .int .u64 a2, .int .i64 a3, .int .u64 a4], .agg #[.int .i64 b0, .int .i64 b1, .int .u64 b2, .int .i64 b3, .int .u64 b4], .agg #[.int .i64 oa, .int .i64 oo]] w fun e w' => e = .returned (.bool true) ∧ Below w.heap.size w w' := by
  by_cases hE : newE (i0, i1, i2, i3, i4) = 0
  · exact linkAgain_ok i0 i1 i2 i3 i4 v os u t a0 a1 a2 a3 a4 b0 b1 b2 b3 b4 oa oo w hR hO hb hut hE
  · exact linkAgain_bad i0 i1 i2 i3 i4 v os u t a0 a1 a2 a3 a4 b0 b1 b2 b3 b4 oa oo w hR hO hb hE

end Go.Proofs.YtledkljffjomdaaDoor
