/- Package link: keep. -/
import Derived.Test.YtdogdinkopocaaaDoorKP
namespace Go.Proofs.YtdogdinkopocaaaDoor
open Go.RowKit Go.Maps

theorem row_cells {w : World} {v : Value} {n : Nat} {xs : List Value} (h : Rw w 52 2 v n xs) {k : Nat} (hk : v.ownBlock = some k) : ∃ cur, w.heap[k]? = some (.cells cur 52 (0, 0)) := (h.lt k hk).2
theorem RecAt.kp {S : List Nat} {w w' : World} {rb lb : Nat} {v : Value} {os : List Ow} {x y : Rf} (h : RecAt w rb lb v os x y) (hk : Kp S w w') (h1 : rb ∉ S) (h2 : lb ∉ S) (h3 : ∀ k, v.ownBlock = some k → k ∉ S) : RecAt w' rb lb v os x y :=
  ⟨h.blk.kp hk h1, ⟨h.ls.blk.kp hk h2, h.ls.row.kp hk h3, h.ls.len⟩⟩
/-- A row of owners is no record, no lock, no map. -/
theorem RecAt.row_off {w : World} {rb lb : Nat} {v : Value} {os : List Ow} {x y : Rf} (h : RecAt w rb lb v os x y) {k : Nat} (hk : v.ownBlock = some k) {b : Nat} {cs : Array Value} {t : TypeId} (hb : IsB w b cs t) (ht : t ≠ 52) : k ≠ b := by
  rintro rfl
  obtain ⟨cur, hc⟩ := row_cells h.ls.row hk
  unfold IsB at hb
  rw [hb] at hc
  injection hc with hc
  injection hc with _ hc
  exact ht hc
theorem VMp.row_off {w : World} {m : Nat} {L : List (Vc × Nat)} (h : VMp w m L) {v : Value} {n : Nat} {xs : List Value} (hr : Rw w 52 2 v n xs) {k : Nat} (hk : v.ownBlock = some k) : k ≠ m := by
  rintro rfl
  obtain ⟨cur, hc⟩ := row_cells hr hk
  obtain ⟨es, cl, h, -⟩ := h
  rw [h] at hc
  cases hc
theorem kp_of_grown {w w' : World} {m : Nat} (h : w.grownBy w' (some m)) : Kp [m] w w' := Kp.of_grown h (fun k hk => Or.inl (by simp at hk; simp [hk]))
theorem LK.mapTo {w w' : World} {base p m : Nat} {me : Rf} {L : Tb} (h : LK w base p m me L) (hk : Kp [m] w w') (c : Rc) (hc : c.At w) : c.At w' :=
  RecAt.kp hc hk (by simp; exact h.map.off hc.blk) (by simp; exact h.map.off hc.ls.blk) (fun k hv => by simp; exact h.map.row_off hc.ls.row hv)
/-- The map has one entry more. -/
theorem LK.put_new {w w' : World} {base p m : Nat} {me : Rf} {L : Tb} (h : LK w base p m me L) (hk : Kp [m] w w') (v : Vc) (c : Rc) (hm : VMp w' m (L.map pair ++ [(v, c.rb)])) (hc : c.At w)
    (h1 : base ≤ c.rb) (h2 : base ≤ c.lb) (h3 : ∀ e ∈ L, e.2.rb ≠ c.rb) (h4 : ∀ e ∈ L, e.2.lb ≠ c.lb) : LK w' base p m me (L ++ [(v, c)]) := by
  refine ⟨h.blk.kp hk (by simp; exact h.map.off h.blk), by simpa [pair] using hm, ?_, ?_, ?_, ⟨h.lo.1, h.lo.2.1, ?_⟩⟩
  · intro e he
    rcases List.mem_append.1 he with he | he
    · exact h.mapTo hk _ (h.recs e he)
    · simp at he
      subst he
      exact h.mapTo hk _ hc
  · rw [List.map_append, List.nodup_append]
    refine ⟨h.ap, by simp, ?_⟩
    intro a ha b hb
    obtain ⟨e, he, rfl⟩ := List.mem_map.1 ha
    simp at hb
    subst hb
    exact h3 e he
  · rw [List.map_append, List.nodup_append]
    refine ⟨h.al, by simp, ?_⟩
    intro a ha b hb
    obtain ⟨e, he, rfl⟩ := List.mem_map.1 ha
    simp at hb
    subst hb
    exact h4 e he
  · intro e he
    rcases List.mem_append.1 he with he | he
    · exact h.lo.2.2 e he
    · simp at he
      subst he
      exact ⟨h1, h2⟩
theorem LK.put_same {w w' : World} {base p m : Nat} {me : Rf} {L : Tb} (h : LK w base p m me L) (hk : Kp [m] w w') (hm : VMp w' m (L.map pair)) : LK w' base p m me L :=
  ⟨h.blk.kp hk (by simp; exact h.map.off h.blk), hm, fun e he => h.mapTo hk _ (h.recs e he), h.ap, h.al, h.lo⟩
def dropL (v : Vc) (L : Tb) : Tb := L.filter (fun e => decide (e.1 ≠ v))
theorem LK.drop {w w' : World} {base p m : Nat} {me : Rf} {L : Tb} (h : LK w base p m me L) (hk : Kp [m] w w') (v : Vc) (hm : VMp w' m ((L.map pair).filter (fun x => decide (x.1 ≠ v)))) : LK w' base p m me (dropL v L) := by
  refine ⟨h.blk.kp hk (by simp; exact h.map.off h.blk), ?_, fun e he => h.mapTo hk _ (h.recs e (List.mem_filter.1 he).1), h.ap.sublist (List.filter_sublist.map _), h.al.sublist (List.filter_sublist.map _), ⟨h.lo.1, h.lo.2.1, fun e he => h.lo.2.2 e (List.mem_filter.1 he).1⟩⟩
  rw [List.filter_map] at hm
  exact hm
/-- A record that is in the table, or a new one that may come into it. -/
def New (base : Nat) (v : Vc) (c : Rc) (L : Tb) : Prop := (∀ e ∈ L, e.1 ≠ v) ∧ base ≤ c.rb ∧ base ≤ c.lb ∧ (∀ e ∈ L, e.2.rb ≠ c.rb) ∧ (∀ e ∈ L, e.2.lb ≠ c.lb)
/-- The table behind keep. -/
def putL (v : Vc) (c : Rc) (L : Tb) : Tb := if ∃ e ∈ L, e.1 = v then L else L ++ [(v, c)]
theorem putL_in {v : Vc} {c : Rc} {L : Tb} (h : (v, c) ∈ L) : putL v c L = L := if_pos ⟨_, h, rfl⟩
theorem putL_new {v : Vc} {c : Rc} {L : Tb} (h : ∀ e ∈ L, e.1 ≠ v) : putL v c L = L ++ [(v, c)] := if_neg (by rintro ⟨e, he, h1⟩; exact h e he h1)
/-- Is a record an end's first one? -/
def isF (me : Rf) (c : Rc) : Bool := sameS ((0, 0), c.x, c.y, decide (0 < c.os.length), hd c.os, c.os.tail) ((0, 0), fstL me.2.1 me.2.2.2.1 me.2.2.2.2, fstR me.2.1 me.2.2.2.1 me.2.2.2.2, false, (0, 0), [])
theorem isF_iff (me : Rf) (c : Rc) : isF me c = true ↔ c.os = [] ∧ c.x = fstL me.2.1 me.2.2.2.1 me.2.2.2.2 ∧ c.y = fstR me.2.1 me.2.2.2.1 me.2.2.2.2 := by
  unfold isF
  rw [sameS_iff]
  constructor
  · intro h
    simp only [Prod.mk.injEq] at h
    refine ⟨?_, h.2.1, h.2.2.1⟩
    have := h.2.2.2.1
    simp at this
    exact this
  · rintro ⟨h1, h2, h3⟩
    rw [h1, h2, h3]
    rfl
theorem state_gen (rb lb : Nat) (v : Value) (os : List Ow) (x0 x1 x2 x3 x4 y0 y1 y2 y3 y4 : Int) (w : World) (hr : RecAt w rb lb v os (x0, x1, x2, x3, x4) (y0, y1, y2, y3, y4)) (vx vy : Int) (B : Bool) (h1 h2 : Int) (qn : Nat) (hB : decide (0 < os.length) = B) (hh : hd os = (h1, h2)) (hq : os.tail.length = qn) :
    Calls Tryd.prog 68 #[.pointer (some ⟨rb, 0, none⟩), .agg #[.int .i64 vx, .int .u64 vy]] w fun e w' => ∃ qa qc, e = .returned (.agg #[.int .i64 vx, .int .u64 vy, .int .i64 x0, .int .i64 x1, .int .u64 x2, .int .i64 x3, .int .u64 x4, .int .i64 y0, .int .i64 y1, .int .u64 y2, .int .i64 y3, .int .u64 y4, .bool B, .int .i64 h1, .int .i64 h2, .slice qa qn qc]) ∧ Sl w' (.slice qa qn qc) os.tail ∧ (∀ k, (Value.slice qa qn qc).ownBlock = some k → w.heap.size ≤ k) ∧ Below w.heap.size w w' := by
  refine (state_any rb lb v os x0 x1 x2 x3 x4 y0 y1 y2 y3 y4 w hr vx vy).mono ?_
  rintro e w' ⟨q, rfl, h3, h4, h5⟩
  obtain ⟨qa, qc, rfl, -, -⟩ := h3.sl.shape
  have h6 := h3.sl
  rw [hq] at h4 h6
  refine ⟨qa, qc, ?_, h6, h4, h5⟩
  rw [hB, hh, hq]

/-- What the map becomes by keep's store. -/
theorem LK.store {w : World} {base p m : Nat} {me : Rf} {L : Tb} (h : LK w base p m me L) (v : Vc) (hv : okV v) (c : Rc) (hc : c.At w) (hin : (v, c) ∈ L ∨ New base v c L) : ∃ w', (Instr.mapUpdate 96 (.map (some m)) (vv v) (rp c.rb)).run Tryd.prog w = .ok () w' ∧ LK w' base p m me (putL v c L) ∧ Kp [m] w w' := by
  rcases hin with hin | ⟨h0, h1, h2, h3, h4⟩
  · obtain ⟨w', hr, hm, hg⟩ := h.map.put_same v hv c.rb (mem_pair hin)
    refine ⟨w', hr, ?_, kp_of_grown hg⟩
    rw [putL_in hin]
    exact h.put_same (kp_of_grown hg) hm
  · obtain ⟨w', hr, hm, hg⟩ := h.map.put_new v hv c.rb (no_pair h0)
    refine ⟨w', hr, ?_, kp_of_grown hg⟩
    rw [putL_new h0]
    exact h.put_new (kp_of_grown hg) v c hm hc h1 h2 h3 h4

set_option maxHeartbeats 8000000 in
set_option maxRecDepth 100000 in
theorem keep_del (base p m : Nat) (me : Rf) (L : Tb) (w : World) (h : LK w base p m me L) (x y : Int) (hv : okV (x, y)) (c : Rc) (hc : c.At w) (hr : me.2.1 ≠ 2) (hF : isF me c = true) : Calls Tryd.prog 54 #[(.pointer (some ⟨p, 0, none⟩)), .agg #[.int .i64 x, .int .u64 y], .pointer (some ⟨c.rb, 0, none⟩)] w fun e w' => e = .returned (.tuple #[]) ∧ LK w' base p m me (dropL (x, y) L) ∧ Kp [m] w w' := by
  have mixed : Tryd.prog.follows .mixedOrders = true := by kernel_rfl
  obtain ⟨i, r, n, l, b⟩ := me
  obtain ⟨rb, lb, lv, os, ⟨x0, x1, x2, x3, x4⟩, ⟨y0, y1, y2, y3, y4⟩⟩ := c
  have hR : RecAt w rb lb lv os (x0, x1, x2, x3, x4) (y0, y1, y2, y3, y4) := hc
  have bel0 : Below w.heap.size w (w.alloc (.cells #[.int .i64 x, .int .u64 y] 27)) := (Below.refl w.heap.size w).alloc (Nat.le_refl _) _
  have L1 := hide (h.below (bel0.drew))
  have R1 := hide (hR.below (bel0.drew))
  have J1 := hide ((IsB.new w #[.int .i64 x, .int .u64 y] 27).below (Below.refl _ _).drew)
  have B1 := hide bel0.drew
  have hml : m < w.heap.size := h.map.lt
  have hpm : p ≠ m := h.map.off h.blk
  have hv := hide hv
  clear bel0 h hR hc
  simp only [] at hr
  have hlt : Hid (os.tail.length ≤ 100000) := by have := R1.out.ls.len; simp [Hid]; omega
  obtain ⟨BS, hBS⟩ : ∃ B, decide (0 < os.length) = B := ⟨_, rfl⟩
  obtain ⟨⟨h1, h2⟩, hh⟩ : ∃ z, hd os = z := ⟨_, rfl⟩
  obtain ⟨qn, hqn⟩ : ∃ z, os.tail.length = z := ⟨_, rfl⟩
  have hBB : Hid (sameS ((x, y), (x0, x1, x2, x3, x4), (y0, y1, y2, y3, y4), BS, (h1, h2), os.tail) ((x, y), fstL r l b, fstR r l b, false, (0, 0), []) = true) := by
    show sameS _ _ = true
    refine Eq.trans ?_ hF
    rw [← hBS, ← hh]
    simp [isF, sameS]
  clear hF
  replace hBS := hide hBS
  replace hh := hide hh
  replace hqn := hide hqn
  obtain ⟨⟨f0, f1, f2, f3, f4⟩, hfL⟩ : ∃ f, fstL r l b = f := ⟨_, rfl⟩
  obtain ⟨⟨g0, g1, g2, g3, g4⟩, hfR⟩ : ∃ f, fstR r l b = f := ⟨_, rfl⟩
  rw [hfL, hfR] at hBB
  replace hfL := hide hfL
  replace hfR := hide hfR
  go_enter Tryd.func54, Tryd.ntmps54
  go_wp2
  generalize w.alloc (.cells #[.int .i64 x, .int .u64 y] 27) = W0 at L1 J1 B1 R1 ⊢
  generalize hH : w.heap.size = H at J1 hml ⊢
  replace hH := hide hH
  refine regionL 12 (fun w' => w'.cell? ⟨H, 0, none⟩ = some (.int .i64 x) ∧ w'.cell? ⟨H, 1, none⟩ = some (.int .u64 y)) mixed ⟨J1.out.cell 0, J1.out.cell 1⟩ (fun hHeld => ?_)
  refine pickA (v := ?_) 0 (some 6) rfl rfl (by kernel_rfl) (by kernel_rfl) (by kernel_rfl) (by decide) (fun _ _ _ h => h) (by rfl) ?_ (by assumption) ?_
  rotate_left
  · intro w'
    go_simp
    try with_reducible rfl
  try simp only [Act.put, List.setIfInBounds_toArray, List.set_cons_zero, List.set_cons_succ]
  refine oneL (i := 1) (by kernel_rfl) rfl (fun K hK => ?_)
  go_simp
  refine (isEnd_any p m i r n l b _ L1.out.blk).mono ?_; intro e w1 hE1; obtain ⟨rfl, hw⟩ := hE1
  rw [hw, decide_eq_true (by omega)]
  clear hw w1
  refine hK.out _ _ ?_ ?_
  · exact hHeld
  clear hK K
  try simp only [Act.put, List.setIfInBounds_toArray, List.set_cons_zero, List.set_cons_succ]
  refine pickA (v := ?_) 2 (some 8) rfl rfl (by kernel_rfl) (by kernel_rfl) (by kernel_rfl) (by decide) (fun _ _ _ h => h) (by rfl) ?_ (by assumption) ?_
  rotate_left
  · intro w'
    go_simp
    try with_reducible rfl
  try simp only [Act.put, List.setIfInBounds_toArray, List.set_cons_zero, List.set_cons_succ]
  refine pickA (v := ?_) 3 (some 9) rfl rfl (by kernel_rfl) (by kernel_rfl) (by kernel_rfl) (by decide) (fun _ _ _ h => h) (by rfl) ?_ (by assumption) ?_
  rotate_left
  · intro w'
    go_simp
    try with_reducible rfl
  try simp only [Act.put, List.setIfInBounds_toArray, List.set_cons_zero, List.set_cons_succ]
  refine pickL (v := ?_) 4 (some 10) rfl rfl (by kernel_rfl) (by kernel_rfl) (by kernel_rfl) (by decide) (by kernel_rfl) (by kernel_rfl) (fun _ _ _ h => h) (by rfl) ?_ (by assumption) ?_
  rotate_left
  · intro w' hSw
    obtain ⟨q0, q1⟩ := hSw
    go_simp
    try with_reducible rfl
  try simp only [Act.put, List.setIfInBounds_toArray, List.set_cons_zero, List.set_cons_succ]
  refine pickA (v := ?_) 6 (some 12) rfl rfl (by kernel_rfl) (by kernel_rfl) (by kernel_rfl) (by decide) (fun _ _ _ h => h) (by rfl) ?_ (by assumption) ?_
  rotate_left
  · intro w'
    go_simp
    try with_reducible rfl
  try simp only [Act.put, List.setIfInBounds_toArray, List.set_cons_zero, List.set_cons_succ]
  refine pickL (v := ?_) 8 (some 14) rfl rfl (by kernel_rfl) (by kernel_rfl) (by kernel_rfl) (by decide) (by kernel_rfl) (by kernel_rfl) (fun _ _ _ h => h) (by rfl) ?_ (by assumption) ?_
  rotate_left
  · intro w' hSw
    obtain ⟨q0, q1⟩ := hSw
    go_simp
    try with_reducible rfl
  try simp only [Act.put, List.setIfInBounds_toArray, List.set_cons_zero, List.set_cons_succ]
  refine oneL (i := 5) (by kernel_rfl) rfl (fun K hK => ?_)
  go_simp
  refine (state_gen rb lb lv os x0 x1 x2 x3 x4 y0 y1 y2 y3 y4 _ R1.out x y BS h1 h2 qn hBS.out hh.out hqn.out).mono ?_; rintro e w2 ⟨qa, qc, rfl, hq, -, hb2⟩
  have Q2 := hide hq
  have L2 := hide (L1.out.below hb2)
  have R2 := hide (R1.out.below hb2)
  have J2 := hide (J1.out.below hb2)
  have B2 := hide (B1.out.trans (hb2.mono B1.out.size))
  have hS2 : (fun w' => w'.cell? ⟨H, 0, none⟩ = some (.int .i64 x) ∧ w'.cell? ⟨H, 1, none⟩ = some (.int .u64 y)) w2 := ⟨J2.out.cell 0, J2.out.cell 1⟩
  clear hq hb2
  refine hK.out _ _ ?_ ?_
  · exact hS2
  clear hK K
  try simp only [Act.put, List.setIfInBounds_toArray, List.set_cons_zero, List.set_cons_succ]
  clear hHeld
  have hHeld := hS2
  refine oneL (i := 7) (by kernel_rfl) rfl (fun K hK => ?_)
  go_simp
  refine (first_rec p m i r n l b _ L2.out.blk).mono ?_; rintro e w3 ⟨rb2, lb2, rfl, -, -, hf, hb3⟩
  have F3 := hide hf
  have Q3 := hide (Q2.out.below hb3)
  have L3 := hide (L2.out.below hb3)
  have R3 := hide (R2.out.below hb3)
  have J3 := hide (J2.out.below hb3)
  have B3 := hide (B2.out.trans (hb3.mono B2.out.size))
  have hS3 : (fun w' => w'.cell? ⟨H, 0, none⟩ = some (.int .i64 x) ∧ w'.cell? ⟨H, 1, none⟩ = some (.int .u64 y)) w3 := ⟨J3.out.cell 0, J3.out.cell 1⟩
  clear hf hb3
  refine hK.out _ _ ?_ ?_
  · exact hS3
  clear hK K
  try simp only [Act.put, List.setIfInBounds_toArray, List.set_cons_zero, List.set_cons_succ]
  clear hHeld
  have hHeld := hS3
  refine oneL (i := 9) (by kernel_rfl) rfl (fun K hK => ?_)
  go_simp
  refine (state_gen rb2 lb2 _ [] f0 f1 f2 f3 f4 g0 g1 g2 g3 g4 _ (by rw [← hfL.out, ← hfR.out]; exact F3.out) x y false 0 0 0 rfl rfl rfl).mono ?_; rintro e w4 ⟨ta, tc, rfl, hq, -, hb4⟩
  have Q4 := hide (Q3.out.below hb4)
  have T4 : Hid (Sl w4 (.slice ta 0 tc) []) := hq
  have L4 := hide (L3.out.below hb4)
  have R4 := hide (R3.out.below hb4)
  have J4 := hide (J3.out.below hb4)
  have B4 := hide (B3.out.trans (hb4.mono B3.out.size))
  have hS4 : (fun w' => w'.cell? ⟨H, 0, none⟩ = some (.int .i64 x) ∧ w'.cell? ⟨H, 1, none⟩ = some (.int .u64 y)) w4 := ⟨J4.out.cell 0, J4.out.cell 1⟩
  clear hq hb4
  refine hK.out _ _ ?_ ?_
  · exact hS4
  clear hK K
  try simp only [Act.put, List.setIfInBounds_toArray, List.set_cons_zero, List.set_cons_succ]
  clear hHeld
  have hHeld := hS4
  refine oneL (i := 10) (by kernel_rfl) rfl (fun K hK => ?_)
  go_simp
  refine (lsame_low x y x0 x1 x2 x3 x4 y0 y1 y2 y3 y4 BS h1 h2 x y f0 f1 f2 f3 f4 g0 g1 g2 g3 g4 false 0 0 (.slice qa qn qc) (.slice ta 0 tc) os.tail [] hlt.out _ Q4.out T4.out).mono ?_; rintro e w5 ⟨rfl, hb5⟩
  rw [hBB.out]
  have L5 := hide (L4.out.below hb5)
  have R5 := hide (R4.out.below hb5)
  have J5 := hide (J4.out.below hb5)
  have B5 := hide (B4.out.trans (hb5.mono B4.out.size))
  have hS5 : (fun w' => w'.cell? ⟨H, 0, none⟩ = some (.int .i64 x) ∧ w'.cell? ⟨H, 1, none⟩ = some (.int .u64 y)) w5 := ⟨J5.out.cell 0, J5.out.cell 1⟩
  clear hb5
  refine hK.out _ _ ?_ ?_
  · exact hS5
  clear hK K
  try simp only [Act.put, List.setIfInBounds_toArray, List.set_cons_zero, List.set_cons_succ]
  clear hHeld
  have hHeld := hS5
  refine pickA (v := ?_) 11 (some 17) rfl rfl (by kernel_rfl) (by kernel_rfl) (by kernel_rfl) (by decide) (fun _ _ _ h => h) (by rfl) ?_ (by assumption) ?_
  rotate_left
  · intro w'
    go_simp
    try with_reducible rfl
  try simp only [Act.put, List.setIfInBounds_toArray, List.set_cons_zero, List.set_cons_succ]
  refine doneL (by kernel_rfl) ?_ _
  clear hHeld
  go_wp2
  have L6 := hide (L5.out.below (Below.refl _ _).drew)
  have R6 := hide (R5.out.below (Below.refl _ _).drew)
  have J6 := hide (J5.out.below (Below.refl _ _).drew)
  have B6 := hide B5.out.drew
  have hHm : H ≠ m := by omega
  generalize w5 = W5 at L6 R6 J6 B6 ⊢
  refine regionL 6 (fun w' => IsB w' H #[.int .i64 x, .int .u64 y] 27 ∧ IsB w' p #[.int .i64 i, .int .i64 r, .int .u64 n, .int .i64 l, .int .u64 b, .map (some m)] 98) mixed ⟨J6.out, L6.out.blk⟩ (fun hHeld => ?_)
  refine pickA (v := ?_) 0 (some 18) rfl rfl (by kernel_rfl) (by kernel_rfl) (by kernel_rfl) (by decide) (fun _ _ _ h => h) (by rfl) ?_ (by assumption) ?_
  rotate_left
  · intro w'
    go_simp
    try with_reducible rfl
  try simp only [Act.put, List.setIfInBounds_toArray, List.set_cons_zero, List.set_cons_succ]
  refine pickA (v := ?_) 1 (some 19) rfl rfl (by kernel_rfl) (by kernel_rfl) (by kernel_rfl) (by decide) (fun _ _ _ h => h) (by rfl) ?_ (by assumption) ?_
  rotate_left
  · intro w'
    go_simp
    try with_reducible rfl
  try simp only [Act.put, List.setIfInBounds_toArray, List.set_cons_zero, List.set_cons_succ]
  refine pickA (v := ?_) 2 (some 20) rfl rfl (by kernel_rfl) (by kernel_rfl) (by kernel_rfl) (by decide) (fun _ _ _ h => h) (by rfl) ?_ (by assumption) ?_
  rotate_left
  · intro w'
    go_simp
    try with_reducible rfl
  try simp only [Act.put, List.setIfInBounds_toArray, List.set_cons_zero, List.set_cons_succ]
  refine pickL (v := ?_) 3 (some 21) rfl rfl (by kernel_rfl) (by kernel_rfl) (by kernel_rfl) (by decide) (by kernel_rfl) (by kernel_rfl) (fun _ _ _ h => h) (by rfl) ?_ (by assumption) ?_
  rotate_left
  · intro w' hSw
    obtain ⟨k0, k1⟩ := hSw; have q0 : w'.cell? ⟨H, 0, none⟩ = some (.int .i64 x) := k0.cell 0; have q1 : w'.cell? ⟨H, 1, none⟩ = some (.int .u64 y) := k0.cell 1; have q2 : w'.cell? ⟨p, 5, none⟩ = some (.map (some m)) := k1.cell 5; clear k0 k1
    go_simp
    try with_reducible rfl
  try simp only [Act.put, List.setIfInBounds_toArray, List.set_cons_zero, List.set_cons_succ]
  refine pickL (v := ?_) 4 (some 22) rfl rfl (by kernel_rfl) (by kernel_rfl) (by kernel_rfl) (by decide) (by kernel_rfl) (by kernel_rfl) (fun _ _ _ h => h) (by rfl) ?_ (by assumption) ?_
  rotate_left
  · intro w' hSw
    obtain ⟨k0, k1⟩ := hSw; have q0 : w'.cell? ⟨H, 0, none⟩ = some (.int .i64 x) := k0.cell 0; have q1 : w'.cell? ⟨H, 1, none⟩ = some (.int .u64 y) := k0.cell 1; have q2 : w'.cell? ⟨p, 5, none⟩ = some (.map (some m)) := k1.cell 5; clear k0 k1
    go_simp
    try with_reducible rfl
  try simp only [Act.put, List.setIfInBounds_toArray, List.set_cons_zero, List.set_cons_succ]
  refine oneL (i := 5) (by kernel_rfl) rfl (fun K hK => ?_)
  obtain ⟨w6, hrun, hM6, hg6⟩ := L6.out.map.drop (x, y) hv.out 0
  have hrun2 : (Builtin.delete_ #[96, 27] 0 #[.map (some m), .agg #[.int .i64 x, .int .u64 y]]).run Tryd.prog W5.drew = .ok (.tuple #[]) w6 := hrun
  have K6 := kp_of_grown hg6
  go_simp
  have X6 := hide (L6.out.drop K6 (x, y) hM6)
  have B7 := hide ((Kp.of_below (S := [m]) B6.out).trans K6 (by simp))
  have J7 := hide (J6.out.kp K6 (by simp; exact fun e => hHm e))
  have P7 := hide X6.out.blk
  clear hrun hrun2 hM6 hg6 K6
  refine hK.out _ _ ?_ ?_
  · exact ⟨J7.out, P7.out⟩
  clear hK K
  try simp only [Act.put, List.setIfInBounds_toArray, List.set_cons_zero, List.set_cons_succ]
  clear hHeld
  have hHeld : (fun w' => IsB w' H #[.int .i64 x, .int .u64 y] 27 ∧ IsB w' p #[.int .i64 i, .int .i64 r, .int .u64 n, .int .i64 l, .int .u64 b, .map (some m)] 98) w6 := ⟨J7.out, P7.out⟩
  refine doneL (by kernel_rfl) ?_ _
  clear hHeld
  go_wp2
  refine bodyPost_ret (results_none rfl _ _ _) rfl ?_
  exact ⟨rfl, X6.out, B7.out⟩

set_option maxHeartbeats 8000000 in
set_option maxRecDepth 100000 in
theorem keep_end (base p m : Nat) (me : Rf) (L : Tb) (w : World) (h : LK w base p m me L) (x y : Int) (hv : okV (x, y)) (c : Rc) (hc : c.At w) (hr : me.2.1 ≠ 2) (hF : isF me c = false) (hin : ((x, y), c) ∈ L ∨ New base (x, y) c L) : Calls Tryd.prog 54 #[(.pointer (some ⟨p, 0, none⟩)), .agg #[.int .i64 x, .int .u64 y], .pointer (some ⟨c.rb, 0, none⟩)] w fun e w' => e = .returned (.tuple #[]) ∧ LK w' base p m me (putL (x, y) c L) ∧ Kp [m] w w' := by
  have mixed : Tryd.prog.follows .mixedOrders = true := by kernel_rfl
  obtain ⟨i, r, n, l, b⟩ := me
  obtain ⟨rb, lb, lv, os, ⟨x0, x1, x2, x3, x4⟩, ⟨y0, y1, y2, y3, y4⟩⟩ := c
  have hR : RecAt w rb lb lv os (x0, x1, x2, x3, x4) (y0, y1, y2, y3, y4) := hc
  have bel0 : Below w.heap.size w (w.alloc (.cells #[.int .i64 x, .int .u64 y] 27)) := (Below.refl w.heap.size w).alloc (Nat.le_refl _) _
  have L1 := hide (h.below (bel0.drew))
  have R1 := hide (hR.below (bel0.drew))
  have J1 := hide ((IsB.new w #[.int .i64 x, .int .u64 y] 27).below (Below.refl _ _).drew)
  have B1 := hide bel0.drew
  have hml : m < w.heap.size := h.map.lt
  have hpm : p ≠ m := h.map.off h.blk
  have hv := hide hv
  clear bel0 h hR hc
  have hin := hide hin
  simp only [] at hr
  have hlt : Hid (os.tail.length ≤ 100000) := by have := R1.out.ls.len; simp [Hid]; omega
  obtain ⟨BS, hBS⟩ : ∃ B, decide (0 < os.length) = B := ⟨_, rfl⟩
  obtain ⟨⟨h1, h2⟩, hh⟩ : ∃ z, hd os = z := ⟨_, rfl⟩
  obtain ⟨qn, hqn⟩ : ∃ z, os.tail.length = z := ⟨_, rfl⟩
  have hBB : Hid (sameS ((x, y), (x0, x1, x2, x3, x4), (y0, y1, y2, y3, y4), BS, (h1, h2), os.tail) ((x, y), fstL r l b, fstR r l b, false, (0, 0), []) = false) := by
    show sameS _ _ = false
    refine Eq.trans ?_ hF
    rw [← hBS, ← hh]
    simp [isF, sameS]
  clear hF
  replace hBS := hide hBS
  replace hh := hide hh
  replace hqn := hide hqn
  obtain ⟨⟨f0, f1, f2, f3, f4⟩, hfL⟩ : ∃ f, fstL r l b = f := ⟨_, rfl⟩
  obtain ⟨⟨g0, g1, g2, g3, g4⟩, hfR⟩ : ∃ f, fstR r l b = f := ⟨_, rfl⟩
  rw [hfL, hfR] at hBB
  replace hfL := hide hfL
  replace hfR := hide hfR
  go_enter Tryd.func54, Tryd.ntmps54
  go_wp2
  generalize w.alloc (.cells #[.int .i64 x, .int .u64 y] 27) = W0 at L1 J1 B1 R1 ⊢
  generalize hH : w.heap.size = H at J1 hml ⊢
  replace hH := hide hH
  refine regionL 12 (fun w' => w'.cell? ⟨H, 0, none⟩ = some (.int .i64 x) ∧ w'.cell? ⟨H, 1, none⟩ = some (.int .u64 y)) mixed ⟨J1.out.cell 0, J1.out.cell 1⟩ (fun hHeld => ?_)
  refine pickA (v := ?_) 0 (some 6) rfl rfl (by kernel_rfl) (by kernel_rfl) (by kernel_rfl) (by decide) (fun _ _ _ h => h) (by rfl) ?_ (by assumption) ?_
  rotate_left
  · intro w'
    go_simp
    try with_reducible rfl
  try simp only [Act.put, List.setIfInBounds_toArray, List.set_cons_zero, List.set_cons_succ]
  refine oneL (i := 1) (by kernel_rfl) rfl (fun K hK => ?_)
  go_simp
  refine (isEnd_any p m i r n l b _ L1.out.blk).mono ?_; intro e w1 hE1; obtain ⟨rfl, hw⟩ := hE1
  rw [hw, decide_eq_true (by omega)]
  clear hw w1
  refine hK.out _ _ ?_ ?_
  · exact hHeld
  clear hK K
  try simp only [Act.put, List.setIfInBounds_toArray, List.set_cons_zero, List.set_cons_succ]
  refine pickA (v := ?_) 2 (some 8) rfl rfl (by kernel_rfl) (by kernel_rfl) (by kernel_rfl) (by decide) (fun _ _ _ h => h) (by rfl) ?_ (by assumption) ?_
  rotate_left
  · intro w'
    go_simp
    try with_reducible rfl
  try simp only [Act.put, List.setIfInBounds_toArray, List.set_cons_zero, List.set_cons_succ]
  refine pickA (v := ?_) 3 (some 9) rfl rfl (by kernel_rfl) (by kernel_rfl) (by kernel_rfl) (by decide) (fun _ _ _ h => h) (by rfl) ?_ (by assumption) ?_
  rotate_left
  · intro w'
    go_simp
    try with_reducible rfl
  try simp only [Act.put, List.setIfInBounds_toArray, List.set_cons_zero, List.set_cons_succ]
  refine pickL (v := ?_) 4 (some 10) rfl rfl (by kernel_rfl) (by kernel_rfl) (by kernel_rfl) (by decide) (by kernel_rfl) (by kernel_rfl) (fun _ _ _ h => h) (by rfl) ?_ (by assumption) ?_
  rotate_left
  · intro w' hSw
    obtain ⟨q0, q1⟩ := hSw
    go_simp
    try with_reducible rfl
  try simp only [Act.put, List.setIfInBounds_toArray, List.set_cons_zero, List.set_cons_succ]
  refine pickA (v := ?_) 6 (some 12) rfl rfl (by kernel_rfl) (by kernel_rfl) (by kernel_rfl) (by decide) (fun _ _ _ h => h) (by rfl) ?_ (by assumption) ?_
  rotate_left
  · intro w'
    go_simp
    try with_reducible rfl
  try simp only [Act.put, List.setIfInBounds_toArray, List.set_cons_zero, List.set_cons_succ]
  refine pickL (v := ?_) 8 (some 14) rfl rfl (by kernel_rfl) (by kernel_rfl) (by kernel_rfl) (by decide) (by kernel_rfl) (by kernel_rfl) (fun _ _ _ h => h) (by rfl) ?_ (by assumption) ?_
  rotate_left
  · intro w' hSw
    obtain ⟨q0, q1⟩ := hSw
    go_simp
    try with_reducible rfl
  try simp only [Act.put, List.setIfInBounds_toArray, List.set_cons_zero, List.set_cons_succ]
  refine oneL (i := 5) (by kernel_rfl) rfl (fun K hK => ?_)
  go_simp
  refine (state_gen rb lb lv os x0 x1 x2 x3 x4 y0 y1 y2 y3 y4 _ R1.out x y BS h1 h2 qn hBS.out hh.out hqn.out).mono ?_; rintro e w2 ⟨qa, qc, rfl, hq, -, hb2⟩
  have Q2 := hide hq
  have L2 := hide (L1.out.below hb2)
  have R2 := hide (R1.out.below hb2)
  have J2 := hide (J1.out.below hb2)
  have B2 := hide (B1.out.trans (hb2.mono B1.out.size))
  have hS2 : (fun w' => w'.cell? ⟨H, 0, none⟩ = some (.int .i64 x) ∧ w'.cell? ⟨H, 1, none⟩ = some (.int .u64 y)) w2 := ⟨J2.out.cell 0, J2.out.cell 1⟩
  clear hq hb2
  refine hK.out _ _ ?_ ?_
  · exact hS2
  clear hK K
  try simp only [Act.put, List.setIfInBounds_toArray, List.set_cons_zero, List.set_cons_succ]
  clear hHeld
  have hHeld := hS2
  refine oneL (i := 7) (by kernel_rfl) rfl (fun K hK => ?_)
  go_simp
  refine (first_rec p m i r n l b _ L2.out.blk).mono ?_; rintro e w3 ⟨rb2, lb2, rfl, -, -, hf, hb3⟩
  have F3 := hide hf
  have Q3 := hide (Q2.out.below hb3)
  have L3 := hide (L2.out.below hb3)
  have R3 := hide (R2.out.below hb3)
  have J3 := hide (J2.out.below hb3)
  have B3 := hide (B2.out.trans (hb3.mono B2.out.size))
  have hS3 : (fun w' => w'.cell? ⟨H, 0, none⟩ = some (.int .i64 x) ∧ w'.cell? ⟨H, 1, none⟩ = some (.int .u64 y)) w3 := ⟨J3.out.cell 0, J3.out.cell 1⟩
  clear hf hb3
  refine hK.out _ _ ?_ ?_
  · exact hS3
  clear hK K
  try simp only [Act.put, List.setIfInBounds_toArray, List.set_cons_zero, List.set_cons_succ]
  clear hHeld
  have hHeld := hS3
  refine oneL (i := 9) (by kernel_rfl) rfl (fun K hK => ?_)
  go_simp
  refine (state_gen rb2 lb2 _ [] f0 f1 f2 f3 f4 g0 g1 g2 g3 g4 _ (by rw [← hfL.out, ← hfR.out]; exact F3.out) x y false 0 0 0 rfl rfl rfl).mono ?_; rintro e w4 ⟨ta, tc, rfl, hq, -, hb4⟩
  have Q4 := hide (Q3.out.below hb4)
  have T4 : Hid (Sl w4 (.slice ta 0 tc) []) := hq
  have L4 := hide (L3.out.below hb4)
  have R4 := hide (R3.out.below hb4)
  have J4 := hide (J3.out.below hb4)
  have B4 := hide (B3.out.trans (hb4.mono B3.out.size))
  have hS4 : (fun w' => w'.cell? ⟨H, 0, none⟩ = some (.int .i64 x) ∧ w'.cell? ⟨H, 1, none⟩ = some (.int .u64 y)) w4 := ⟨J4.out.cell 0, J4.out.cell 1⟩
  clear hq hb4
  refine hK.out _ _ ?_ ?_
  · exact hS4
  clear hK K
  try simp only [Act.put, List.setIfInBounds_toArray, List.set_cons_zero, List.set_cons_succ]
  clear hHeld
  have hHeld := hS4
  refine oneL (i := 10) (by kernel_rfl) rfl (fun K hK => ?_)
  go_simp
  refine (lsame_low x y x0 x1 x2 x3 x4 y0 y1 y2 y3 y4 BS h1 h2 x y f0 f1 f2 f3 f4 g0 g1 g2 g3 g4 false 0 0 (.slice qa qn qc) (.slice ta 0 tc) os.tail [] hlt.out _ Q4.out T4.out).mono ?_; rintro e w5 ⟨rfl, hb5⟩
  rw [hBB.out]
  have L5 := hide (L4.out.below hb5)
  have R5 := hide (R4.out.below hb5)
  have J5 := hide (J4.out.below hb5)
  have B5 := hide (B4.out.trans (hb5.mono B4.out.size))
  have hS5 : (fun w' => w'.cell? ⟨H, 0, none⟩ = some (.int .i64 x) ∧ w'.cell? ⟨H, 1, none⟩ = some (.int .u64 y)) w5 := ⟨J5.out.cell 0, J5.out.cell 1⟩
  clear hb5
  refine hK.out _ _ ?_ ?_
  · exact hS5
  clear hK K
  try simp only [Act.put, List.setIfInBounds_toArray, List.set_cons_zero, List.set_cons_succ]
  clear hHeld
  have hHeld := hS5
  refine pickA (v := ?_) 11 (some 17) rfl rfl (by kernel_rfl) (by kernel_rfl) (by kernel_rfl) (by decide) (fun _ _ _ h => h) (by rfl) ?_ (by assumption) ?_
  rotate_left
  · intro w'
    go_simp
    try with_reducible rfl
  try simp only [Act.put, List.setIfInBounds_toArray, List.set_cons_zero, List.set_cons_succ]
  refine doneL (by kernel_rfl) ?_ _
  clear hHeld
  go_wp2
  have L6 := hide (L5.out.below (Below.refl _ _).drew)
  have R6 := hide (R5.out.below (Below.refl _ _).drew)
  have J6 := hide (J5.out.below (Below.refl _ _).drew)
  have B6 := hide B5.out.drew
  have hHm : H ≠ m := by omega
  generalize w5 = W5 at L6 R6 J6 B6 ⊢
  refine regionL 7 (fun w' => IsB w' H #[.int .i64 x, .int .u64 y] 27 ∧ IsB w' p #[.int .i64 i, .int .i64 r, .int .u64 n, .int .i64 l, .int .u64 b, .map (some m)] 98) mixed ⟨J6.out, L6.out.blk⟩ (fun hHeld => ?_)
  refine pickA (v := ?_) 0 (some 23) rfl rfl (by kernel_rfl) (by kernel_rfl) (by kernel_rfl) (by decide) (fun _ _ _ h => h) (by rfl) ?_ (by assumption) ?_
  rotate_left
  · intro w'
    go_simp
    try with_reducible rfl
  try simp only [Act.put, List.setIfInBounds_toArray, List.set_cons_zero, List.set_cons_succ]
  refine pickA (v := ?_) 1 (some 24) rfl rfl (by kernel_rfl) (by kernel_rfl) (by kernel_rfl) (by decide) (fun _ _ _ h => h) (by rfl) ?_ (by assumption) ?_
  rotate_left
  · intro w'
    go_simp
    try with_reducible rfl
  try simp only [Act.put, List.setIfInBounds_toArray, List.set_cons_zero, List.set_cons_succ]
  refine pickA (v := ?_) 2 (some 25) rfl rfl (by kernel_rfl) (by kernel_rfl) (by kernel_rfl) (by decide) (fun _ _ _ h => h) (by rfl) ?_ (by assumption) ?_
  rotate_left
  · intro w'
    go_simp
    try with_reducible rfl
  try simp only [Act.put, List.setIfInBounds_toArray, List.set_cons_zero, List.set_cons_succ]
  refine pickL (v := ?_) 3 (some 26) rfl rfl (by kernel_rfl) (by kernel_rfl) (by kernel_rfl) (by decide) (by kernel_rfl) (by kernel_rfl) (fun _ _ _ h => h) (by rfl) ?_ (by assumption) ?_
  rotate_left
  · intro w' hSw
    obtain ⟨k0, k1⟩ := hSw; have q0 : w'.cell? ⟨H, 0, none⟩ = some (.int .i64 x) := k0.cell 0; have q1 : w'.cell? ⟨H, 1, none⟩ = some (.int .u64 y) := k0.cell 1; have q2 : w'.cell? ⟨p, 5, none⟩ = some (.map (some m)) := k1.cell 5; clear k0 k1
    go_simp
    try with_reducible rfl
  try simp only [Act.put, List.setIfInBounds_toArray, List.set_cons_zero, List.set_cons_succ]
  refine pickL (v := ?_) 4 (some 27) rfl rfl (by kernel_rfl) (by kernel_rfl) (by kernel_rfl) (by decide) (by kernel_rfl) (by kernel_rfl) (fun _ _ _ h => h) (by rfl) ?_ (by assumption) ?_
  rotate_left
  · intro w' hSw
    obtain ⟨k0, k1⟩ := hSw; have q0 : w'.cell? ⟨H, 0, none⟩ = some (.int .i64 x) := k0.cell 0; have q1 : w'.cell? ⟨H, 1, none⟩ = some (.int .u64 y) := k0.cell 1; have q2 : w'.cell? ⟨p, 5, none⟩ = some (.map (some m)) := k1.cell 5; clear k0 k1
    go_simp
    try with_reducible rfl
  try simp only [Act.put, List.setIfInBounds_toArray, List.set_cons_zero, List.set_cons_succ]
  refine pickA (v := ?_) 5 (some 28) rfl rfl (by kernel_rfl) (by kernel_rfl) (by kernel_rfl) (by decide) (fun _ _ _ h => h) (by rfl) ?_ (by assumption) ?_
  rotate_left
  · intro w'
    go_simp
    try with_reducible rfl
  try simp only [Act.put, List.setIfInBounds_toArray, List.set_cons_zero, List.set_cons_succ]
  refine oneL (i := 6) (by kernel_rfl) rfl (fun K hK => ?_)
  obtain ⟨w6, hrun, hX6, K6⟩ := L6.out.store (x, y) hv.out ⟨rb, lb, lv, os, (x0, x1, x2, x3, x4), (y0, y1, y2, y3, y4)⟩ R6.out hin.out
  have hrun2 : (Instr.mapUpdate 96 (.map (some m)) (.agg #[.int .i64 x, .int .u64 y]) (.pointer (some ⟨rb, 0, none⟩))).run Tryd.prog W5.drew = .ok () w6 := hrun
  go_simp
  have X6 := hide hX6
  have B7 := hide ((Kp.of_below (S := [m]) B6.out).trans K6 (by simp))
  have J7 := hide (J6.out.kp K6 (by simp; exact fun e => hHm e))
  have P7 := hide X6.out.blk
  clear hrun hrun2 hX6 K6
  refine hK.out _ _ ?_ ?_
  · exact ⟨J7.out, P7.out⟩
  clear hK K
  try simp only [Act.put, List.setIfInBounds_toArray, List.set_cons_zero, List.set_cons_succ]
  clear hHeld
  have hHeld : (fun w' => IsB w' H #[.int .i64 x, .int .u64 y] 27 ∧ IsB w' p #[.int .i64 i, .int .i64 r, .int .u64 n, .int .i64 l, .int .u64 b, .map (some m)] 98) w6 := ⟨J7.out, P7.out⟩
  refine doneL (by kernel_rfl) ?_ _
  clear hHeld
  refine bodyPost_end (results_none rfl _ _ _) rfl ?_
  exact ⟨rfl, X6.out, B7.out⟩

set_option maxHeartbeats 8000000 in
set_option maxRecDepth 100000 in
theorem keep_peer (base p m : Nat) (me : Rf) (L : Tb) (w : World) (h : LK w base p m me L) (x y : Int) (hv : okV (x, y)) (c : Rc) (hc : c.At w) (hr : me.2.1 = 2) (hin : ((x, y), c) ∈ L ∨ New base (x, y) c L) : Calls Tryd.prog 54 #[(.pointer (some ⟨p, 0, none⟩)), .agg #[.int .i64 x, .int .u64 y], .pointer (some ⟨c.rb, 0, none⟩)] w fun e w' => e = .returned (.tuple #[]) ∧ LK w' base p m me (putL (x, y) c L) ∧ Kp [m] w w' := by
  have mixed : Tryd.prog.follows .mixedOrders = true := by kernel_rfl
  obtain ⟨i, r, n, l, b⟩ := me
  obtain ⟨rb, lb, lv, os, ⟨x0, x1, x2, x3, x4⟩, ⟨y0, y1, y2, y3, y4⟩⟩ := c
  have hR : RecAt w rb lb lv os (x0, x1, x2, x3, x4) (y0, y1, y2, y3, y4) := hc
  have bel0 : Below w.heap.size w (w.alloc (.cells #[.int .i64 x, .int .u64 y] 27)) := (Below.refl w.heap.size w).alloc (Nat.le_refl _) _
  have L1 := hide (h.below (bel0.drew))
  have R1 := hide (hR.below (bel0.drew))
  have J1 := hide ((IsB.new w #[.int .i64 x, .int .u64 y] 27).below (Below.refl _ _).drew)
  have B1 := hide bel0.drew
  have hml : m < w.heap.size := h.map.lt
  have hpm : p ≠ m := h.map.off h.blk
  have hv := hide hv
  clear bel0 h hR hc
  have hin := hide hin
  simp only [] at hr
  go_enter Tryd.func54, Tryd.ntmps54
  go_wp2
  generalize w.alloc (.cells #[.int .i64 x, .int .u64 y] 27) = W0 at L1 J1 B1 R1 ⊢
  generalize hH : w.heap.size = H at J1 hml ⊢
  replace hH := hide hH
  refine regionL 12 (fun w' => w'.cell? ⟨H, 0, none⟩ = some (.int .i64 x) ∧ w'.cell? ⟨H, 1, none⟩ = some (.int .u64 y)) mixed ⟨J1.out.cell 0, J1.out.cell 1⟩ (fun hHeld => ?_)
  refine pickA (v := ?_) 0 (some 6) rfl rfl (by kernel_rfl) (by kernel_rfl) (by kernel_rfl) (by decide) (fun _ _ _ h => h) (by rfl) ?_ (by assumption) ?_
  rotate_left
  · intro w'
    go_simp
    try with_reducible rfl
  try simp only [Act.put, List.setIfInBounds_toArray, List.set_cons_zero, List.set_cons_succ]
  refine oneL (i := 1) (by kernel_rfl) rfl (fun K hK => ?_)
  go_simp
  refine (isEnd_any p m i r n l b _ L1.out.blk).mono ?_; intro e w1 hE1; obtain ⟨rfl, hw⟩ := hE1
  rw [hw, decide_eq_false (by omega)]
  clear hw w1
  refine hK.out _ _ ?_ ?_
  · exact hHeld
  clear hK K
  try simp only [Act.put, List.setIfInBounds_toArray, List.set_cons_zero, List.set_cons_succ]
  refine pickA (v := ?_) 2 (some 8) rfl rfl (by kernel_rfl) (by kernel_rfl) (by kernel_rfl) (by decide) (fun _ _ _ h => h) (by rfl) ?_ (by assumption) ?_
  rotate_left
  · intro w'
    go_simp
    try with_reducible rfl
  try simp only [Act.put, List.setIfInBounds_toArray, List.set_cons_zero, List.set_cons_succ]
  refine pickN 3 (some 9) rfl rfl (by kernel_rfl) (by kernel_rfl) (by kernel_rfl) (by decide) (fun _ _ _ h => h) (by rfl) (by assumption) ?_
  try simp only [Act.put, List.setIfInBounds_toArray, List.set_cons_zero, List.set_cons_succ]
  refine pickN 4 (some 10) rfl rfl (by kernel_rfl) (by kernel_rfl) (by kernel_rfl) (by decide) (fun _ _ _ h => h) (by rfl) (by assumption) ?_
  try simp only [Act.put, List.setIfInBounds_toArray, List.set_cons_zero, List.set_cons_succ]
  refine pickN 5 (some 11) rfl rfl (by kernel_rfl) (by kernel_rfl) (by kernel_rfl) (by decide) (fun _ _ _ h => h) (by rfl) (by assumption) ?_
  try simp only [Act.put, List.setIfInBounds_toArray, List.set_cons_zero, List.set_cons_succ]
  refine pickN 6 (some 12) rfl rfl (by kernel_rfl) (by kernel_rfl) (by kernel_rfl) (by decide) (fun _ _ _ h => h) (by rfl) (by assumption) ?_
  try simp only [Act.put, List.setIfInBounds_toArray, List.set_cons_zero, List.set_cons_succ]
  refine pickN 7 (some 13) rfl rfl (by kernel_rfl) (by kernel_rfl) (by kernel_rfl) (by decide) (fun _ _ _ h => h) (by rfl) (by assumption) ?_
  try simp only [Act.put, List.setIfInBounds_toArray, List.set_cons_zero, List.set_cons_succ]
  refine pickN 8 (some 14) rfl rfl (by kernel_rfl) (by kernel_rfl) (by kernel_rfl) (by decide) (fun _ _ _ h => h) (by rfl) (by assumption) ?_
  try simp only [Act.put, List.setIfInBounds_toArray, List.set_cons_zero, List.set_cons_succ]
  refine pickN 9 (some 15) rfl rfl (by kernel_rfl) (by kernel_rfl) (by kernel_rfl) (by decide) (fun _ _ _ h => h) (by rfl) (by assumption) ?_
  try simp only [Act.put, List.setIfInBounds_toArray, List.set_cons_zero, List.set_cons_succ]
  refine pickN 10 (some 16) rfl rfl (by kernel_rfl) (by kernel_rfl) (by kernel_rfl) (by decide) (fun _ _ _ h => h) (by rfl) (by assumption) ?_
  try simp only [Act.put, List.setIfInBounds_toArray, List.set_cons_zero, List.set_cons_succ]
  refine pickA (v := ?_) 11 (some 17) rfl rfl (by kernel_rfl) (by kernel_rfl) (by kernel_rfl) (by decide) (fun _ _ _ h => h) (by rfl) ?_ (by assumption) ?_
  rotate_left
  · intro w'
    go_simp
    try with_reducible rfl
  try simp only [Act.put, List.setIfInBounds_toArray, List.set_cons_zero, List.set_cons_succ]
  refine doneL (by kernel_rfl) ?_ _
  clear hHeld
  go_wp2
  have L6 := hide (L1.out.below (Below.refl _ _).drew)
  have R6 := hide (R1.out.below (Below.refl _ _).drew)
  have J6 := hide (J1.out.below (Below.refl _ _).drew)
  have B6 := hide B1.out.drew
  have hHm : H ≠ m := by omega
  generalize W0.drew = W5 at L6 R6 J6 B6 ⊢
  refine regionL 7 (fun w' => IsB w' H #[.int .i64 x, .int .u64 y] 27 ∧ IsB w' p #[.int .i64 i, .int .i64 r, .int .u64 n, .int .i64 l, .int .u64 b, .map (some m)] 98) mixed ⟨J6.out, L6.out.blk⟩ (fun hHeld => ?_)
  refine pickA (v := ?_) 0 (some 23) rfl rfl (by kernel_rfl) (by kernel_rfl) (by kernel_rfl) (by decide) (fun _ _ _ h => h) (by rfl) ?_ (by assumption) ?_
  rotate_left
  · intro w'
    go_simp
    try with_reducible rfl
  try simp only [Act.put, List.setIfInBounds_toArray, List.set_cons_zero, List.set_cons_succ]
  refine pickA (v := ?_) 1 (some 24) rfl rfl (by kernel_rfl) (by kernel_rfl) (by kernel_rfl) (by decide) (fun _ _ _ h => h) (by rfl) ?_ (by assumption) ?_
  rotate_left
  · intro w'
    go_simp
    try with_reducible rfl
  try simp only [Act.put, List.setIfInBounds_toArray, List.set_cons_zero, List.set_cons_succ]
  refine pickA (v := ?_) 2 (some 25) rfl rfl (by kernel_rfl) (by kernel_rfl) (by kernel_rfl) (by decide) (fun _ _ _ h => h) (by rfl) ?_ (by assumption) ?_
  rotate_left
  · intro w'
    go_simp
    try with_reducible rfl
  try simp only [Act.put, List.setIfInBounds_toArray, List.set_cons_zero, List.set_cons_succ]
  refine pickL (v := ?_) 3 (some 26) rfl rfl (by kernel_rfl) (by kernel_rfl) (by kernel_rfl) (by decide) (by kernel_rfl) (by kernel_rfl) (fun _ _ _ h => h) (by rfl) ?_ (by assumption) ?_
  rotate_left
  · intro w' hSw
    obtain ⟨k0, k1⟩ := hSw; have q0 : w'.cell? ⟨H, 0, none⟩ = some (.int .i64 x) := k0.cell 0; have q1 : w'.cell? ⟨H, 1, none⟩ = some (.int .u64 y) := k0.cell 1; have q2 : w'.cell? ⟨p, 5, none⟩ = some (.map (some m)) := k1.cell 5; clear k0 k1
    go_simp
    try with_reducible rfl
  try simp only [Act.put, List.setIfInBounds_toArray, List.set_cons_zero, List.set_cons_succ]
  refine pickL (v := ?_) 4 (some 27) rfl rfl (by kernel_rfl) (by kernel_rfl) (by kernel_rfl) (by decide) (by kernel_rfl) (by kernel_rfl) (fun _ _ _ h => h) (by rfl) ?_ (by assumption) ?_
  rotate_left
  · intro w' hSw
    obtain ⟨k0, k1⟩ := hSw; have q0 : w'.cell? ⟨H, 0, none⟩ = some (.int .i64 x) := k0.cell 0; have q1 : w'.cell? ⟨H, 1, none⟩ = some (.int .u64 y) := k0.cell 1; have q2 : w'.cell? ⟨p, 5, none⟩ = some (.map (some m)) := k1.cell 5; clear k0 k1
    go_simp
    try with_reducible rfl
  try simp only [Act.put, List.setIfInBounds_toArray, List.set_cons_zero, List.set_cons_succ]
  refine pickA (v := ?_) 5 (some 28) rfl rfl (by kernel_rfl) (by kernel_rfl) (by kernel_rfl) (by decide) (fun _ _ _ h => h) (by rfl) ?_ (by assumption) ?_
  rotate_left
  · intro w'
    go_simp
    try with_reducible rfl
  try simp only [Act.put, List.setIfInBounds_toArray, List.set_cons_zero, List.set_cons_succ]
  refine oneL (i := 6) (by kernel_rfl) rfl (fun K hK => ?_)
  obtain ⟨w6, hrun, hX6, K6⟩ := L6.out.store (x, y) hv.out ⟨rb, lb, lv, os, (x0, x1, x2, x3, x4), (y0, y1, y2, y3, y4)⟩ R6.out hin.out
  have hrun2 : (Instr.mapUpdate 96 (.map (some m)) (.agg #[.int .i64 x, .int .u64 y]) (.pointer (some ⟨rb, 0, none⟩))).run Tryd.prog W5.drew = .ok () w6 := hrun
  go_simp
  have X6 := hide hX6
  have B7 := hide ((Kp.of_below (S := [m]) B6.out).trans K6 (by simp))
  have J7 := hide (J6.out.kp K6 (by simp; exact fun e => hHm e))
  have P7 := hide X6.out.blk
  clear hrun hrun2 hX6 K6
  refine hK.out _ _ ?_ ?_
  · exact ⟨J7.out, P7.out⟩
  clear hK K
  try simp only [Act.put, List.setIfInBounds_toArray, List.set_cons_zero, List.set_cons_succ]
  clear hHeld
  have hHeld : (fun w' => IsB w' H #[.int .i64 x, .int .u64 y] 27 ∧ IsB w' p #[.int .i64 i, .int .i64 r, .int .u64 n, .int .i64 l, .int .u64 b, .map (some m)] 98) w6 := ⟨J7.out, P7.out⟩
  refine doneL (by kernel_rfl) ?_ _
  clear hHeld
  refine bodyPost_end (results_none rfl _ _ _) rfl ?_
  exact ⟨rfl, X6.out, B7.out⟩

end Go.Proofs.YtdogdinkopocaaaDoor
