/- Package link: Free, and the rows behind it. -/
import Derived.Test.YtdogdinkopocaaaDoorJB
namespace Go.Proofs.YtdogdinkopocaaaDoor
open Go.RowKit Go.Maps

set_option maxHeartbeats 8000000 in
set_option maxRecDepth 100000 in
theorem lfree_okr (base p m : Nat) (me : Rf) (L : Tb) (w : World) (h : LK w base p m me L) (hB : base ≤ w.heap.size) (x y : Int) (hv : okV (x, y)) (hm : okMe me) (hy : 0 ≤ y) (a o : Int) (oc : Cn) (ho : findC me L (x, y) = some oc) (n1 n2 : Int) (B : Bool) (os' : List Ow) (hA0 : freeA oc.1 a o = ((n1, n2), B, 0, os')) : Calls Tryd.prog 49 #[(.pointer (some ⟨p, 0, none⟩)), .agg #[.int .i64 x, .int .u64 y], .agg #[.int .i64 a, .int .i64 o]] w fun e w' => e = .returned (.tuple #[.agg #[.int .i64 n1, .int .i64 n2], .bool B, .int .i64 0]) ∧ ∃ c : Rc, c.cn = (os', oc.2.1, oc.2.2) ∧ (∀ k, c.v.ownBlock = some k → (∃ d ∈ L, d.2.v.ownBlock = some k) ∨ w.heap.size ≤ k) ∧ KX w w' base p m me L (keepT me (x, y) c (updL (x, y) c L)) := by
  have mixed : Tryd.prog.follows .mixedOrders = true := by kernel_rfl
  have hPe : Hid (∃ c, ((x, y), c) ∈ L) := by
    have ho2 := ho
    unfold findC at ho2
    cases hl : lookL L (x, y) with
    | some c => exact ⟨c, lookL_some hl⟩
    | none =>
      rw [hl] at ho2
      simp only [] at ho2
      split at ho2
      · injection ho2 with ho2
        rw [← ho2] at hA0
        unfold freeA at hA0
        split at hA0
        · simp only [Prod.mk.injEq] at hA0
          exact absurd hA0.2.2.1 (by decide)
        · rw [if_neg (by simp [fst, plc])] at hA0
          simp only [Prod.mk.injEq] at hA0
          exact absurd hA0.2.2.1 (by decide)
      · cases ho2
  have B0 : Below w.heap.size w (((w.alloc (.cells #[.int .i64 x, .int .u64 y] 27)).alloc (.cells #[.int .i64 a, .int .i64 o] 52)).alloc (.cells #[.int .i64 0, .int .i64 0] 52)) := ((((Below.refl w.heap.size w).alloc (Nat.le_refl _) (.cells #[.int .i64 x, .int .u64 y] 27)).alloc (by simp) (.cells #[.int .i64 a, .int .i64 o] 52)).alloc (by simp; omega) (.cells #[.int .i64 0, .int .i64 0] 52))
  have IV0 := (((IsB.new w #[.int .i64 x, .int .u64 y] 27).below ((Below.refl _ _).alloc (Nat.le_refl _) (.cells #[.int .i64 a, .int .i64 o] 52))).below ((Below.refl _ _).alloc (Nat.le_refl _) (.cells #[.int .i64 0, .int .i64 0] 52)))
  have IV := hide IV0
  clear IV0
  have IO0 := ((IsB.new (w.alloc (.cells #[.int .i64 x, .int .u64 y] 27)) #[.int .i64 a, .int .i64 o] 52).below ((Below.refl _ _).alloc (Nat.le_refl _) (.cells #[.int .i64 0, .int .i64 0] 52)))
  simp only [World.size_alloc] at IO0
  have IO := hide IO0
  clear IO0
  have IF0 := (IsB.new ((w.alloc (.cells #[.int .i64 x, .int .u64 y] 27)).alloc (.cells #[.int .i64 a, .int .i64 o] 52)) #[.int .i64 0, .int .i64 0] 52)
  simp only [World.size_alloc] at IF0
  have IF := hide IF0
  clear IF0
  have B1 := hide B0
  have L1 := hide (h.below B0)
  have hB1 : base ≤ (((w.alloc (.cells #[.int .i64 x, .int .u64 y] 27)).alloc (.cells #[.int .i64 a, .int .i64 o] 52)).alloc (.cells #[.int .i64 0, .int .i64 0] 52)).heap.size := by simp; omega
  have h0 := hide h
  clear B0 h
  have ho := hide ho
  go_enter Tryd.func49, Tryd.ntmps49
  go_wp2_with fail
  generalize (((w.alloc (.cells #[.int .i64 x, .int .u64 y] 27)).alloc (.cells #[.int .i64 a, .int .i64 o] 52)).alloc (.cells #[.int .i64 0, .int .i64 0] 52)) = W1 at IV IO IF B1 L1 hB1 ⊢
  generalize hH : w.heap.size = H at IV IO IF ⊢
  replace hH := hide hH
  refine (find_some base p m me L _ L1.out hB1 x y hv hm hy oc ho.out).mono ?_; rintro e w2 ⟨c, rfl, hcn, hc, hin, hb2⟩
  obtain ⟨rb, lb, lv, os, ⟨x0, x1, x2, x3, x4⟩, ⟨y0, y1, y2, y3, y4⟩⟩ := c
  have R2 : Hid (RecAt w2 rb lb lv os (x0, x1, x2, x3, x4) (y0, y1, y2, y3, y4)) := hc
  have hcn2 : oc = (os, (x0, x1, x2, x3, x4), (y0, y1, y2, y3, y4)) := hcn.symm
  have HO := hide hcn2
  have HIN : Hid (Here w.heap.size base (x, y) ⟨rb, lb, lv, os, (x0, x1, x2, x3, x4), (y0, y1, y2, y3, y4)⟩ L) := hin.imp id (fun g => ⟨g.1, Nat.le_trans B1.out.size g.2.1, Nat.le_trans B1.out.size g.2.2⟩)
  clear hcn hcn2 hc hin ho hB1
  have hinL : Hid (((x, y), (⟨rb, lb, lv, os, (x0, x1, x2, x3, x4), (y0, y1, y2, y3, y4)⟩ : Rc)) ∈ L) := by
    rcases HIN.out with g | g
    · exact g
    · obtain ⟨c, hc⟩ := hPe.out
      exact absurd rfl (g.1.1 _ hc)
  have hlv : Hid (∀ k, lv.ownBlock = some k → k < w.heap.size) := fun k hk => ((h0.out.recs _ hinL.out).ls.row.lt k hk).1
  have hA : Hid (freeA os a o = ((n1, n2), B, 0, os')) := by have := hA0; rw [HO.out] at this; exact this
  clear hA0
  have IV := hide (IV.out.below hb2)
  have IO := hide (IO.out.below hb2)
  have IF := hide (IF.out.below hb2)
  have B2 := hide (B1.out.trans (hb2.mono B1.out.size))
  have L1 := hide (L1.out.below hb2)
  clear hb2 B1
  go_wp2
  have IV := hide (IV.out.below (Below.refl _ _).drew)
  have IO := hide (IO.out.below (Below.refl _ _).drew)
  have IF := hide (IF.out.below (Below.refl _ _).drew)
  have B3 := hide B2.out.drew
  have L1 := hide (L1.out.below (Below.refl _ _).drew)
  have R2 := hide (R2.out.below (Below.refl _ _).drew)
  clear B2
  refine regionL 14 (fun w' => w'.cell? ⟨rb, 0, none⟩ = some (.pointer (some ⟨lb, 0, none⟩)) ∧ w'.cell? ⟨H + 1, 0, none⟩ = some (.int .i64 a) ∧ w'.cell? ⟨H + 1, 1, none⟩ = some (.int .i64 o)) mixed ⟨R2.out.blk.cell 0, IO.out.cell 0, IO.out.cell 1⟩ (fun hHeld => ?_)
  generalize hW3 : w2.drew = W3 at *
  clear hW3
  have hlts : Hid (rb < W3.heap.size ∧ H < W3.heap.size ∧ H + 1 < W3.heap.size ∧ H + 1 + 1 < W3.heap.size) := ⟨R2.out.blk.lt, IV.out.lt, IO.out.lt, IF.out.lt⟩
  refine pickA (v := ?_) 0 (some 24) rfl rfl (by kernel_rfl) (by kernel_rfl) (by kernel_rfl) (by decide) (fun _ _ _ h => h) (by rfl) ?_ (by assumption) ?_
  rotate_left
  · intro w'
    go_simp
    try with_reducible rfl
  try simp only [Act.put, List.setIfInBounds_toArray, List.set_cons_zero, List.set_cons_succ]
  refine pickA (v := ?_) 1 (some 25) rfl rfl (by kernel_rfl) (by kernel_rfl) (by kernel_rfl) (by decide) (fun _ _ _ h => h) (by rfl) ?_ (by assumption) ?_
  rotate_left
  · intro w'
    go_simp
    try with_reducible rfl
  try simp only [Act.put, List.setIfInBounds_toArray, List.set_cons_zero, List.set_cons_succ]
  refine pickA (v := ?_) 2 (some 26) rfl rfl (by kernel_rfl) (by kernel_rfl) (by kernel_rfl) (by decide) (fun _ _ _ h => h) (by rfl) ?_ (by assumption) ?_
  rotate_left
  · intro w'
    go_simp
    try with_reducible rfl
  try simp only [Act.put, List.setIfInBounds_toArray, List.set_cons_zero, List.set_cons_succ]
  refine pickL (v := ?_) 3 (some 27) rfl rfl (by kernel_rfl) (by kernel_rfl) (by kernel_rfl) (by decide) (by kernel_rfl) (by kernel_rfl) (fun _ _ _ h => h) (by rfl) ?_ (by assumption) ?_
  rotate_left
  · intro w' hSw
    obtain ⟨q0, q1, q2⟩ := hSw
    go_simp
    try with_reducible rfl
  try simp only [Act.put, List.setIfInBounds_toArray, List.set_cons_zero, List.set_cons_succ]
  refine pickL (v := ?_) 4 (some 28) rfl rfl (by kernel_rfl) (by kernel_rfl) (by kernel_rfl) (by decide) (by kernel_rfl) (by kernel_rfl) (fun _ _ _ h => h) (by rfl) ?_ (by assumption) ?_
  rotate_left
  · intro w' hSw
    obtain ⟨q0, q1, q2⟩ := hSw
    go_simp
    try with_reducible rfl
  try simp only [Act.put, List.setIfInBounds_toArray, List.set_cons_zero, List.set_cons_succ]
  refine twoL (i := 5) (j := 10) (by kernel_rfl) rfl rfl (fun K hK => ?_) (fun K hK => ?_)
  · go_simp
    have R4 := R2
    have IO4 := IO
    have IV4 := IV
    have IF4 := IF
    have KA : Hid (Kp [rb, lb] W3 W3) := Kp.refl _ _
    have B4 := B3
    refine (free_ok lb lv os _ R4.out.ls a o n1 n2 B os' hA.out).mono ?_; rintro e w5 ⟨rfl, v', hx⟩
    have R5 := hide (R4.out.locked hx)
    have K5 : Hid (Kp [rb, lb] W3 w5) := KA.out.trans (hx.kp.wide (T := [rb, lb]) (by simp)) (by simp)
    have hlo : ∀ {b : Nat} {cs : Array Value} {t : TypeId}, IsB _ b cs t → t ≠ 154 → IsB w5 b cs t := fun hb ht => hb.kp hx.kp (by simp only [List.mem_cons, List.not_mem_nil, or_false]; exact hb.ne_t R4.out.ls.blk ht)
    have IO5 := hide (hlo IO4.out (by decide))
    have IV5 := hide (hlo IV4.out (by decide))
    have IF5 := hide (hlo IF4.out (by decide))
    have hrowF : Hid (∀ k, v'.ownBlock = some k → k ≠ H + 1 + 1) := fun k hk => by
      rcases hx.at_ k hk with g | g
      · have := hlv.out k g
        have := hH.out
        omega
      · have := hlts.out
        omega
    have hrowN : Hid (∀ k, v'.ownBlock = some k → (∃ d ∈ L, d.2.v.ownBlock = some k) ∨ w.heap.size ≤ k) := fun k hk => by
      rcases hx.at_ k hk with g | g
      · exact Or.inl ⟨_, hinL.out, g⟩
      · exact Or.inr (by have := B3.out.size; omega)
    clear hx hlo
    have hS5 : (fun w' => w'.cell? ⟨rb, 0, none⟩ = some (.pointer (some ⟨lb, 0, none⟩)) ∧ w'.cell? ⟨H + 1, 0, none⟩ = some (.int .i64 a) ∧ w'.cell? ⟨H + 1, 1, none⟩ = some (.int .i64 o)) w5 := ⟨R5.out.blk.cell 0, IO5.out.cell 0, IO5.out.cell 1⟩
    refine hK.out _ _ ?_ ?_
    · exact hS5
    clear hK K
    try simp only [Act.put, List.setIfInBounds_toArray, List.set_cons_zero, List.set_cons_succ]
    clear hHeld
    have hHeld := hS5
    clear hS5
    refine pickA (v := ?_) 6 (some 23) rfl rfl (by kernel_rfl) (by kernel_rfl) (by kernel_rfl) (by decide) (fun _ _ _ h => h) (by rfl) ?_ (by assumption) ?_
    rotate_left
    · intro w'
      go_simp
      try with_reducible rfl
    try simp only [Act.put, List.setIfInBounds_toArray, List.set_cons_zero, List.set_cons_succ]
    refine pickA (v := ?_) 7 (some 30) rfl rfl (by kernel_rfl) (by kernel_rfl) (by kernel_rfl) (by decide) (fun _ _ _ h => h) (by rfl) ?_ (by assumption) ?_
    rotate_left
    · intro w'
      go_simp
      try with_reducible rfl
    try simp only [Act.put, List.setIfInBounds_toArray, List.set_cons_zero, List.set_cons_succ]
    refine pickA (v := ?_) 8 (some 31) rfl rfl (by kernel_rfl) (by kernel_rfl) (by kernel_rfl) (by decide) (fun _ _ _ h => h) (by rfl) ?_ (by assumption) ?_
    rotate_left
    · intro w'
      go_simp
      try with_reducible rfl
    try simp only [Act.put, List.setIfInBounds_toArray, List.set_cons_zero, List.set_cons_succ]
    refine pickA (v := ?_) 9 (some 32) rfl rfl (by kernel_rfl) (by kernel_rfl) (by kernel_rfl) (by decide) (fun _ _ _ h => h) (by rfl) ?_ (by assumption) ?_
    rotate_left
    · intro w'
      go_simp
      try with_reducible rfl
    try simp only [Act.put, List.setIfInBounds_toArray, List.set_cons_zero, List.set_cons_succ]
    refine oneL (i := 10) (by kernel_rfl) rfl (fun K hK => ?_)
    go_simp
    have ba := (Below.refl w5.heap.size w5).alloc (Nat.le_refl _) (.cells #[.int .i64 0, .int .i64 0] 52)
    have IA6 := hide (IsB.new w5 #[.int .i64 0, .int .i64 0] 52)
    have R6 := hide (R5.out.below ba)
    have IO6 := hide (IO5.out.below ba)
    have IV6 := hide (IV5.out.below ba)
    have IF6 := hide (IF5.out.below ba)
    have K6 : Hid (Kp [rb, lb] W3 (w5.alloc (.cells #[.int .i64 0, .int .i64 0] 52))) := K5.out.bel ba
    have hrow : Hid (∀ k, v'.ownBlock = some k → k ≠ w5.heap.size) := fun k hk => by have := (R5.out.ls.row.lt k hk).1; omega
    have hAlo : W3.heap.size ≤ w5.heap.size := K5.out.size
    have hS6 : (fun w' => w'.cell? ⟨rb, 0, none⟩ = some (.pointer (some ⟨lb, 0, none⟩)) ∧ w'.cell? ⟨H + 1, 0, none⟩ = some (.int .i64 a) ∧ w'.cell? ⟨H + 1, 1, none⟩ = some (.int .i64 o)) (w5.alloc (.cells #[.int .i64 0, .int .i64 0] 52)) := ⟨R6.out.blk.cell 0, IO6.out.cell 0, IO6.out.cell 1⟩
    clear ba
    refine hK.out _ _ ?_ ?_
    · exact hS6
    clear hK K
    try simp only [Act.put, List.setIfInBounds_toArray, List.set_cons_zero, List.set_cons_succ]
    clear hHeld
    have hHeld := hS6
    clear hS6
    generalize hA0 : w5.heap.size = A at IA6 hAlo hrow ⊢
    generalize w5.alloc (.cells #[.int .i64 0, .int .i64 0] 52) = W6 at R6 IO6 IV6 IF6 IA6 hHeld K6 ⊢
    have f0 := IA6.out.free 0
    have f1 := IA6.out.free 1
    have c0 : W6.cell? ⟨A, 0, none⟩ = some (.int .i64 0) := IA6.out.cell 0
    have c1 : W6.cell? ⟨A, 1, none⟩ = some (.int .i64 0) := IA6.out.cell 1
    have nA : rb ≠ A ∧ H ≠ A ∧ H + 1 ≠ A ∧ H + 1 + 1 ≠ A := ⟨by have := hlts.out; omega, by have := hlts.out; omega, by have := hlts.out; omega, by have := hlts.out; omega⟩
    refine oneL (i := 11) (by kernel_rfl) rfl (fun K hK => ?_)
    go_simp
    have k7 := put2_kp W6 A (.int .i64 n1) (.int .i64 n2)
    have IA7 := hide (put2_is IA6.out (.int .i64 n1) (.int .i64 n2))
    have IO7 := hide (IO6.out.kp k7 (by simp; exact nA.2.2.1))
    have IV7 := hide (IV6.out.kp k7 (by simp; exact nA.2.1))
    have IF7 := hide (IF6.out.kp k7 (by simp; exact nA.2.2.2))
    have R7 := hide (R6.out.kp k7 (by simp; exact nA.1) (by simp; exact R6.out.ls.blk.ne_t IA6.out (by decide)) (fun k hk => by simp; exact hrow.out k hk))
    have K7 : Hid (Kp [rb, lb] W3 (put2 W6 A (.int .i64 n1) (.int .i64 n2))) := K6.out.trans k7 (by simp; right; exact hAlo)
    have hS7 : (fun w' => w'.cell? ⟨rb, 0, none⟩ = some (.pointer (some ⟨lb, 0, none⟩)) ∧ w'.cell? ⟨H + 1, 0, none⟩ = some (.int .i64 a) ∧ w'.cell? ⟨H + 1, 1, none⟩ = some (.int .i64 o)) (put2 W6 A (.int .i64 n1) (.int .i64 n2)) := ⟨R7.out.blk.cell 0, IO7.out.cell 0, IO7.out.cell 1⟩
    clear f0 f1 c0 c1 k7
    refine hK.out _ _ ?_ ?_
    · exact hS7
    clear hK K
    try simp only [Act.put, List.setIfInBounds_toArray, List.set_cons_zero, List.set_cons_succ]
    clear hHeld
    have hHeld := hS7
    clear hS7
    have hput : (W6.setCell ⟨A, 0, none⟩ (.int .i64 n1)).setCell ⟨A, 1, none⟩ (.int .i64 n2) = put2 W6 A (.int .i64 n1) (.int .i64 n2) := rfl
    first | rw [hput] | skip
    clear hput
    generalize put2 W6 A (.int .i64 n1) (.int .i64 n2) = W7 at IA7 IO7 IV7 IF7 R7 K7 hHeld ⊢
    refine pickA (v := ?_) 12 (some 12) rfl rfl (by kernel_rfl) (by kernel_rfl) (by kernel_rfl) (by decide) (fun _ _ _ h => h) (by rfl) ?_ (by assumption) ?_
    rotate_left
    · intro w'
      go_simp
      try with_reducible rfl
    try simp only [Act.put, List.setIfInBounds_toArray, List.set_cons_zero, List.set_cons_succ]
    refine pickA (v := ?_) 13 (some 10) rfl rfl (by kernel_rfl) (by kernel_rfl) (by kernel_rfl) (by decide) (fun _ _ _ h => h) (by rfl) ?_ (by assumption) ?_
    rotate_left
    · intro w'
      go_simp
      try with_reducible rfl
    try simp only [Act.put, List.setIfInBounds_toArray, List.set_cons_zero, List.set_cons_succ]
    refine doneL (by kernel_rfl) ?_ _
    clear hHeld
    have hU := hide (LK.upd L1.out (x, y) ⟨rb, lb, lv, os, (x0, x1, x2, x3, x4), (y0, y1, y2, y3, y4)⟩ ⟨rb, lb, v', os', (x0, x1, x2, x3, x4), (y0, y1, y2, y3, y4)⟩ R2.out HIN.out.or K7.out R7.out rfl rfl)
    have qv0 := IV7.out.cell 0
    have qv1 := IV7.out.cell 1
    simp at qv0 qv1
    go_wp2_with fail
    refine (keep_any base p m me (updL (x, y) ⟨rb, lb, v', os', (x0, x1, x2, x3, x4), (y0, y1, y2, y3, y4)⟩ L) _ hU.out.1 x y hv ⟨rb, lb, v', os', (x0, x1, x2, x3, x4), (y0, y1, y2, y3, y4)⟩ R7.out hU.out.2).mono ?_; rintro e w8 ⟨rfl, h8, k8⟩
    have X8 := hide (h0.out.done (x, y) ⟨rb, lb, lv, os, (x0, x1, x2, x3, x4), (y0, y1, y2, y3, y4)⟩ ⟨rb, lb, v', os', (x0, x1, x2, x3, x4), (y0, y1, y2, y3, y4)⟩ B3.out HIN.out K7.out rfl rfl k8 h8)
    have IA8 := hide (IA7.out.kp k8 (by simp; exact hU.out.1.map.off IA7.out))
    have IF8 := hide (IF7.out.kp k8 (by simp; exact hU.out.1.map.off IF7.out))
    clear h8 k8 qv0 qv1
    have f0 := IF8.out.free 0
    have f1 := IF8.out.free 1
    have c0 := IF8.out.cell 0
    have c1 := IF8.out.cell 1
    have d0 := IA8.out.cell 0
    have d1 := IA8.out.cell 1
    simp at c0 c1 d0 d1
    go_wp2
    refine ret_o2 (p := 6) (u := 7) (t := 8) (b := H + 1 + 1) Tryd.results49 rfl rfl rfl (put2_is IF8.out _ _) ?_
    refine ⟨rfl, ⟨rb, lb, v', os', (x0, x1, x2, x3, x4), (y0, y1, y2, y3, y4)⟩, by rw [HO.out]; rfl, hrowN.out, ?_⟩
    refine X8.out.own IF8.out (by decide) (by decide) (by decide) (put2_kp w8 (H + 1 + 1) _ _) (fun e he k hk => ?_) (by rw [hH.out]; omega)
    rcases keepT_mem he with g | g
    · have := ((h0.out.recs e g).ls.row.lt k hk).1
      have := hH.out
      omega
    · rw [g] at hk
      exact hrowF.out k hk
  · go_simp
    have ba := (Below.refl W3.heap.size W3).alloc (Nat.le_refl _) (.cells #[.int .i64 0, .int .i64 0] 52)
    have IA := hide (IsB.new W3 #[.int .i64 0, .int .i64 0] 52)
    have R4 := hide (R2.out.below ba)
    have IO4 := hide (IO.out.below ba)
    have IV4 := hide (IV.out.below ba)
    have IF4 := hide (IF.out.below ba)
    have KA : Hid (Kp [rb, lb] W3 (W3.alloc (.cells #[.int .i64 0, .int .i64 0] 52))) := Kp.of_below ba
    have B4 := hide (B3.out.trans (ba.mono B3.out.size))
    have hAs : (W3.alloc (.cells #[.int .i64 0, .int .i64 0] 52)).heap.size = W3.heap.size + 1 := by simp
    have hS4 : (fun w' => w'.cell? ⟨rb, 0, none⟩ = some (.pointer (some ⟨lb, 0, none⟩)) ∧ w'.cell? ⟨H + 1, 0, none⟩ = some (.int .i64 a) ∧ w'.cell? ⟨H + 1, 1, none⟩ = some (.int .i64 o)) (W3.alloc (.cells #[.int .i64 0, .int .i64 0] 52)) := ⟨R4.out.blk.cell 0, IO4.out.cell 0, IO4.out.cell 1⟩
    clear ba
    refine hK.out _ _ ?_ ?_
    · exact hS4
    clear hK K
    try simp only [Act.put, List.setIfInBounds_toArray, List.set_cons_zero, List.set_cons_succ]
    clear hHeld
    have hHeld := hS4
    clear hS4
    generalize hA0 : W3.heap.size = A at IA hAs ⊢
    generalize W3.alloc (.cells #[.int .i64 0, .int .i64 0] 52) = W4 at R4 IO4 IV4 IF4 KA B4 hAs IA hHeld ⊢
    refine oneL (i := 5) (by kernel_rfl) rfl (fun K hK => ?_)
    go_simp
    refine (free_ok lb lv os _ R4.out.ls a o n1 n2 B os' hA.out).mono ?_; rintro e w5 ⟨rfl, v', hx⟩
    have R5 := hide (R4.out.locked hx)
    have K5 : Hid (Kp [rb, lb] W3 w5) := KA.out.trans (hx.kp.wide (T := [rb, lb]) (by simp)) (by simp)
    have hlo : ∀ {b : Nat} {cs : Array Value} {t : TypeId}, IsB _ b cs t → t ≠ 154 → IsB w5 b cs t := fun hb ht => hb.kp hx.kp (by simp only [List.mem_cons, List.not_mem_nil, or_false]; exact hb.ne_t R4.out.ls.blk ht)
    have IO5 := hide (hlo IO4.out (by decide))
    have IV5 := hide (hlo IV4.out (by decide))
    have IF5 := hide (hlo IF4.out (by decide))
    have IA5 := hide (hlo IA.out (by decide))
    have hrow : Hid (∀ k, v'.ownBlock = some k → k ≠ A) := fun k hk => by
      rcases hx.at_ k hk with g | g
      · have := (R2.out.ls.row.lt k g).1
        omega
      · omega
    have hrowF : Hid (∀ k, v'.ownBlock = some k → k ≠ H + 1 + 1) := fun k hk => by
      rcases hx.at_ k hk with g | g
      · have := hlv.out k g
        have := hH.out
        omega
      · have := hlts.out
        omega
    have hrowN : Hid (∀ k, v'.ownBlock = some k → (∃ d ∈ L, d.2.v.ownBlock = some k) ∨ w.heap.size ≤ k) := fun k hk => by
      rcases hx.at_ k hk with g | g
      · exact Or.inl ⟨_, hinL.out, g⟩
      · exact Or.inr (by have := B3.out.size; omega)
    clear hx hlo
    have hS5 : (fun w' => w'.cell? ⟨rb, 0, none⟩ = some (.pointer (some ⟨lb, 0, none⟩)) ∧ w'.cell? ⟨H + 1, 0, none⟩ = some (.int .i64 a) ∧ w'.cell? ⟨H + 1, 1, none⟩ = some (.int .i64 o)) w5 := ⟨R5.out.blk.cell 0, IO5.out.cell 0, IO5.out.cell 1⟩
    refine hK.out _ _ ?_ ?_
    · exact hS5
    clear hK K
    try simp only [Act.put, List.setIfInBounds_toArray, List.set_cons_zero, List.set_cons_succ]
    clear hHeld
    have hHeld := hS5
    clear hS5
    refine pickA (v := ?_) 6 (some 23) rfl rfl (by kernel_rfl) (by kernel_rfl) (by kernel_rfl) (by decide) (fun _ _ _ h => h) (by rfl) ?_ (by assumption) ?_
    rotate_left
    · intro w'
      go_simp
      try with_reducible rfl
    try simp only [Act.put, List.setIfInBounds_toArray, List.set_cons_zero, List.set_cons_succ]
    refine pickA (v := ?_) 7 (some 30) rfl rfl (by kernel_rfl) (by kernel_rfl) (by kernel_rfl) (by decide) (fun _ _ _ h => h) (by rfl) ?_ (by assumption) ?_
    rotate_left
    · intro w'
      go_simp
      try with_reducible rfl
    try simp only [Act.put, List.setIfInBounds_toArray, List.set_cons_zero, List.set_cons_succ]
    refine pickA (v := ?_) 8 (some 31) rfl rfl (by kernel_rfl) (by kernel_rfl) (by kernel_rfl) (by decide) (fun _ _ _ h => h) (by rfl) ?_ (by assumption) ?_
    rotate_left
    · intro w'
      go_simp
      try with_reducible rfl
    try simp only [Act.put, List.setIfInBounds_toArray, List.set_cons_zero, List.set_cons_succ]
    refine pickA (v := ?_) 9 (some 32) rfl rfl (by kernel_rfl) (by kernel_rfl) (by kernel_rfl) (by decide) (fun _ _ _ h => h) (by rfl) ?_ (by assumption) ?_
    rotate_left
    · intro w'
      go_simp
      try with_reducible rfl
    try simp only [Act.put, List.setIfInBounds_toArray, List.set_cons_zero, List.set_cons_succ]
    have R6 := R5
    have IO6 := IO5
    have IV6 := IV5
    have IF6 := IF5
    have IA6 := IA5
    have K6 := K5
    have hAlo : W3.heap.size ≤ A := by omega
    generalize w5 = W6 at *
    have f0 := IA6.out.free 0
    have f1 := IA6.out.free 1
    have c0 : W6.cell? ⟨A, 0, none⟩ = some (.int .i64 0) := IA6.out.cell 0
    have c1 : W6.cell? ⟨A, 1, none⟩ = some (.int .i64 0) := IA6.out.cell 1
    have nA : rb ≠ A ∧ H ≠ A ∧ H + 1 ≠ A ∧ H + 1 + 1 ≠ A := ⟨by have := hlts.out; omega, by have := hlts.out; omega, by have := hlts.out; omega, by have := hlts.out; omega⟩
    refine oneL (i := 11) (by kernel_rfl) rfl (fun K hK => ?_)
    go_simp
    have k7 := put2_kp W6 A (.int .i64 n1) (.int .i64 n2)
    have IA7 := hide (put2_is IA6.out (.int .i64 n1) (.int .i64 n2))
    have IO7 := hide (IO6.out.kp k7 (by simp; exact nA.2.2.1))
    have IV7 := hide (IV6.out.kp k7 (by simp; exact nA.2.1))
    have IF7 := hide (IF6.out.kp k7 (by simp; exact nA.2.2.2))
    have R7 := hide (R6.out.kp k7 (by simp; exact nA.1) (by simp; exact R6.out.ls.blk.ne_t IA6.out (by decide)) (fun k hk => by simp; exact hrow.out k hk))
    have K7 : Hid (Kp [rb, lb] W3 (put2 W6 A (.int .i64 n1) (.int .i64 n2))) := K6.out.trans k7 (by simp; right; exact hAlo)
    have hS7 : (fun w' => w'.cell? ⟨rb, 0, none⟩ = some (.pointer (some ⟨lb, 0, none⟩)) ∧ w'.cell? ⟨H + 1, 0, none⟩ = some (.int .i64 a) ∧ w'.cell? ⟨H + 1, 1, none⟩ = some (.int .i64 o)) (put2 W6 A (.int .i64 n1) (.int .i64 n2)) := ⟨R7.out.blk.cell 0, IO7.out.cell 0, IO7.out.cell 1⟩
    clear f0 f1 c0 c1 k7
    refine hK.out _ _ ?_ ?_
    · exact hS7
    clear hK K
    try simp only [Act.put, List.setIfInBounds_toArray, List.set_cons_zero, List.set_cons_succ]
    clear hHeld
    have hHeld := hS7
    clear hS7
    have hput : (W6.setCell ⟨A, 0, none⟩ (.int .i64 n1)).setCell ⟨A, 1, none⟩ (.int .i64 n2) = put2 W6 A (.int .i64 n1) (.int .i64 n2) := rfl
    first | rw [hput] | skip
    clear hput
    generalize put2 W6 A (.int .i64 n1) (.int .i64 n2) = W7 at IA7 IO7 IV7 IF7 R7 K7 hHeld ⊢
    refine pickA (v := ?_) 12 (some 12) rfl rfl (by kernel_rfl) (by kernel_rfl) (by kernel_rfl) (by decide) (fun _ _ _ h => h) (by rfl) ?_ (by assumption) ?_
    rotate_left
    · intro w'
      go_simp
      try with_reducible rfl
    try simp only [Act.put, List.setIfInBounds_toArray, List.set_cons_zero, List.set_cons_succ]
    refine pickA (v := ?_) 13 (some 10) rfl rfl (by kernel_rfl) (by kernel_rfl) (by kernel_rfl) (by decide) (fun _ _ _ h => h) (by rfl) ?_ (by assumption) ?_
    rotate_left
    · intro w'
      go_simp
      try with_reducible rfl
    try simp only [Act.put, List.setIfInBounds_toArray, List.set_cons_zero, List.set_cons_succ]
    refine doneL (by kernel_rfl) ?_ _
    clear hHeld
    have hU := hide (LK.upd L1.out (x, y) ⟨rb, lb, lv, os, (x0, x1, x2, x3, x4), (y0, y1, y2, y3, y4)⟩ ⟨rb, lb, v', os', (x0, x1, x2, x3, x4), (y0, y1, y2, y3, y4)⟩ R2.out HIN.out.or K7.out R7.out rfl rfl)
    have qv0 := IV7.out.cell 0
    have qv1 := IV7.out.cell 1
    simp at qv0 qv1
    go_wp2_with fail
    refine (keep_any base p m me (updL (x, y) ⟨rb, lb, v', os', (x0, x1, x2, x3, x4), (y0, y1, y2, y3, y4)⟩ L) _ hU.out.1 x y hv ⟨rb, lb, v', os', (x0, x1, x2, x3, x4), (y0, y1, y2, y3, y4)⟩ R7.out hU.out.2).mono ?_; rintro e w8 ⟨rfl, h8, k8⟩
    have X8 := hide (h0.out.done (x, y) ⟨rb, lb, lv, os, (x0, x1, x2, x3, x4), (y0, y1, y2, y3, y4)⟩ ⟨rb, lb, v', os', (x0, x1, x2, x3, x4), (y0, y1, y2, y3, y4)⟩ B3.out HIN.out K7.out rfl rfl k8 h8)
    have IA8 := hide (IA7.out.kp k8 (by simp; exact hU.out.1.map.off IA7.out))
    have IF8 := hide (IF7.out.kp k8 (by simp; exact hU.out.1.map.off IF7.out))
    clear h8 k8 qv0 qv1
    have f0 := IF8.out.free 0
    have f1 := IF8.out.free 1
    have c0 := IF8.out.cell 0
    have c1 := IF8.out.cell 1
    have d0 := IA8.out.cell 0
    have d1 := IA8.out.cell 1
    simp at c0 c1 d0 d1
    go_wp2
    refine ret_o2 (p := 6) (u := 7) (t := 8) (b := H + 1 + 1) Tryd.results49 rfl rfl rfl (put2_is IF8.out _ _) ?_
    refine ⟨rfl, ⟨rb, lb, v', os', (x0, x1, x2, x3, x4), (y0, y1, y2, y3, y4)⟩, by rw [HO.out]; rfl, hrowN.out, ?_⟩
    refine X8.out.own IF8.out (by decide) (by decide) (by decide) (put2_kp w8 (H + 1 + 1) _ _) (fun e he k hk => ?_) (by rw [hH.out]; omega)
    rcases keepT_mem he with g | g
    · have := ((h0.out.recs e g).ls.row.lt k hk).1
      have := hH.out
      omega
    · rw [g] at hk
      exact hrowF.out k hk

end Go.Proofs.YtdogdinkopocaaaDoor
