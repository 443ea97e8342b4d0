/- Package link: Lock, Out, Put. -/
import Derived.Test.YtdogdinkopocaaaDoorKW
namespace Go.Proofs.YtdogdinkopocaaaDoor
open Go.RowKit Go.Maps

/-- What Ask tells, and who stands in the lock's row then. -/
def askA (os : List Ow) (a o : Int) : Bool × Int × List Ow :=
  if okO a o = false then (false, 70, os) else if (a, o) ∈ os then (decide (os.idxOf (a, o) = 0), 0, os) else if 65 ≤ os.length then (false, 3, os) else (decide (os.length = 0), 0, os ++ [(a, o)])
theorem plc_mem {p : Ow} {l : List Ow} (h : p ∈ l) : plc p l = (l.idxOf p : Int) := if_pos h
theorem plc_nmem {p : Ow} {l : List Ow} (h : p ∉ l) : plc p l = -1 := if_neg h
theorem ask_err (b : Nat) (v : Value) (os : List Ow) (w : World) (h : LS w b v os) (a o : Int) (B : Bool) (E : Int) (os' : List Ow) (hA : askA os a o = (B, E, os')) (hE : E ≠ 0) :
    Calls Tryd.prog 61 #[.pointer (some ⟨b, 0, none⟩), .agg #[.int .i64 a, .int .i64 o]] w fun e w' => e = .returned (.tuple #[.bool B, .int .i64 E]) ∧ Below w.heap.size w w' := by
  unfold askA at hA
  have hlen := h.len
  split at hA
  · rename_i hok
    injection hA with e1 e2
    injection e2 with e2 e3
    subst e1 e2
    exact ask_bad b v os w h a o hok
  · rename_i hok
    split at hA
    · injection hA with e1 e2
      injection e2 with e2 e3
      exact absurd e2.symm hE
    · rename_i hm
      split at hA
      · injection hA with e1 e2
        injection e2 with e2 e3
        subst e1 e2
        exact ask_many b v os w h a o (by simpa using hok) (plc_nmem hm) (by omega)
      · injection hA with e1 e2
        injection e2 with e2 e3
        exact absurd e2.symm hE
theorem ask_ok (b : Nat) (v : Value) (os : List Ow) (w : World) (h : LS w b v os) (a o : Int) (B : Bool) (os' : List Ow) (hA : askA os a o = (B, 0, os')) :
    Calls Tryd.prog 61 #[.pointer (some ⟨b, 0, none⟩), .agg #[.int .i64 a, .int .i64 o]] w fun e w' => e = .returned (.tuple #[.bool B, .int .i64 0]) ∧ ∃ v', Lx w w' b v v' os' := by
  unfold askA at hA
  have hlen := h.len
  split at hA
  · injection hA with e1 e2
    injection e2 with e2 e3
    cases e2
  · rename_i hok
    split at hA
    · rename_i hm
      injection hA with e1 e2
      injection e2 with e2 e3
      subst e1 e3
      refine (ask_in b v os w h a o (by simpa using hok) (os.idxOf (a, o)) (plc_mem hm) (List.idxOf_lt_length_iff.2 hm)).mono ?_
      rintro e w' ⟨rfl, hb⟩
      exact ⟨rfl, v, h.lx hb⟩
    · rename_i hm
      split at hA
      · injection hA with e1 e2
        injection e2 with e2 e3
        cases e2
      · injection hA with e1 e2
        injection e2 with e2 e3
        subst e1 e3
        exact ask_new b v os w h a o (by simpa using hok) (plc_nmem hm) (by omega)
/-- A record whose lock has turned. -/
theorem RecAt.locked {w w' : World} {rb lb : Nat} {v v' : Value} {os os' : List Ow} {x y : Rf} (h : RecAt w rb lb v os x y) (hx : Lx w w' lb v v' os') : RecAt w' rb lb v' os' x y :=
  ⟨h.blk.kp hx.kp (by simp only [List.mem_cons, List.not_mem_nil, or_false]; exact h.blk.ne_t h.ls.blk tne1), hx.ls⟩
theorem Here.mono {n n' base : Nat} {v : Vc} {c : Rc} {L : Tb} (h : Here n base v c L) (hn : n' ≤ n) : Here n' base v c L := h.imp id fun g => ⟨g.1, Nat.le_trans hn g.2.1, Nat.le_trans hn g.2.2⟩

set_option maxHeartbeats 8000000 in
set_option maxRecDepth 100000 in
theorem lock_none (base p m : Nat) (me : Rf) (L : Tb) (w : World) (h : LK w base p m me L) (x y : Int) (hv : okV (x, y)) (hm : okMe me) (hy : 0 ≤ y) (a o : Int) (ho : findC me L (x, y) = none) : Calls Tryd.prog 47 #[(.pointer (some ⟨p, 0, none⟩)), .agg #[.int .i64 x, .int .u64 y], .agg #[.int .i64 a, .int .i64 o]] w fun e w' => e = .returned (.tuple #[.bool false, .int .i64 82]) ∧ Below w.heap.size w w' := by
  have B0 : Below w.heap.size w ((w.alloc (.cells #[.int .i64 x, .int .u64 y] 27)).alloc (.cells #[.int .i64 a, .int .i64 o] 52)) := (((Below.refl w.heap.size w).alloc (Nat.le_refl _) (.cells #[.int .i64 x, .int .u64 y] 27)).alloc (by simp) (.cells #[.int .i64 a, .int .i64 o] 52))
  have IV0 := ((IsB.new w #[.int .i64 x, .int .u64 y] 27).below ((Below.refl _ _).alloc (Nat.le_refl _) (.cells #[.int .i64 a, .int .i64 o] 52)))
  have IV := hide IV0
  clear IV0
  have IO0 := (IsB.new (w.alloc (.cells #[.int .i64 x, .int .u64 y] 27)) #[.int .i64 a, .int .i64 o] 52)
  simp only [World.size_alloc] at IO0
  have IO := hide IO0
  clear IO0
  have B1 := hide B0
  have L1 := hide (h.below B0)
  clear B0 h
  have ho := hide ho
  go_enter Tryd.func47, Tryd.ntmps47
  go_wp2_with fail
  generalize ((w.alloc (.cells #[.int .i64 x, .int .u64 y] 27)).alloc (.cells #[.int .i64 a, .int .i64 o] 52)) = W1 at IV IO B1 L1 ⊢
  generalize hH : w.heap.size = H at IV IO ⊢
  replace hH := hide hH
  refine (find_none base p m me L _ L1.out x y hv hm hy ho.out).mono ?_; rintro e w2 ⟨rfl, hb2⟩
  have B2 := hide (B1.out.trans (hb2.mono B1.out.size))
  clear hb2
  go_wp2
  go_ret2
  exact ⟨rfl, B2.out⟩

set_option maxHeartbeats 8000000 in
set_option maxRecDepth 100000 in
theorem lock_no (p : Value) (x y : Int) (a o : Int) (w : World) (h : NoLinks w p) : Calls Tryd.prog 47 #[p, .agg #[.int .i64 x, .int .u64 y], .agg #[.int .i64 a, .int .i64 o]] w fun e w' => e = .returned (.tuple #[.bool false, .int .i64 4]) ∧ Below w.heap.size w w' := by
  have B0 : Below w.heap.size w ((w.alloc (.cells #[.int .i64 x, .int .u64 y] 27)).alloc (.cells #[.int .i64 a, .int .i64 o] 52)) := (((Below.refl w.heap.size w).alloc (Nat.le_refl _) (.cells #[.int .i64 x, .int .u64 y] 27)).alloc (by simp) (.cells #[.int .i64 a, .int .i64 o] 52))
  have IV0 := ((IsB.new w #[.int .i64 x, .int .u64 y] 27).below ((Below.refl _ _).alloc (Nat.le_refl _) (.cells #[.int .i64 a, .int .i64 o] 52)))
  have IV := hide IV0
  clear IV0
  have IO0 := (IsB.new (w.alloc (.cells #[.int .i64 x, .int .u64 y] 27)) #[.int .i64 a, .int .i64 o] 52)
  simp only [World.size_alloc] at IO0
  have IO := hide IO0
  clear IO0
  have B1 := hide B0
  have L1 := hide (h.below B0)
  clear B0 h
  go_enter Tryd.func47, Tryd.ntmps47
  go_wp2_with fail
  generalize ((w.alloc (.cells #[.int .i64 x, .int .u64 y] 27)).alloc (.cells #[.int .i64 a, .int .i64 o] 52)) = W1 at IV IO B1 L1 ⊢
  generalize hH : w.heap.size = H at IV IO ⊢
  replace hH := hide hH
  refine (find_no p x y _ L1.out).mono ?_; rintro e w2 ⟨rfl, hb2⟩
  have B2 := hide (B1.out.trans (hb2.mono B1.out.size))
  clear hb2
  go_wp2
  go_ret2
  exact ⟨rfl, B2.out⟩

set_option maxHeartbeats 8000000 in
set_option maxRecDepth 100000 in
theorem lock_err (base p m : Nat) (me : Rf) (L : Tb) (w : World) (h : LK w base p m me L) (hB : base ≤ w.heap.size) (x y : Int) (hv : okV (x, y)) (hm : okMe me) (hy : 0 ≤ y) (a o : Int) (oc : Cn) (ho : findC me L (x, y) = some oc) (B : Bool) (E : Int) (os' : List Ow) (hA0 : askA oc.1 a o = (B, E, os')) (hE : E ≠ 0) : Calls Tryd.prog 47 #[(.pointer (some ⟨p, 0, none⟩)), .agg #[.int .i64 x, .int .u64 y], .agg #[.int .i64 a, .int .i64 o]] w fun e w' => e = .returned (.tuple #[.bool B, .int .i64 E]) ∧ Below w.heap.size w w' := by
  have mixed : Tryd.prog.follows .mixedOrders = true := by kernel_rfl
  have B0 : Below w.heap.size w ((w.alloc (.cells #[.int .i64 x, .int .u64 y] 27)).alloc (.cells #[.int .i64 a, .int .i64 o] 52)) := (((Below.refl w.heap.size w).alloc (Nat.le_refl _) (.cells #[.int .i64 x, .int .u64 y] 27)).alloc (by simp) (.cells #[.int .i64 a, .int .i64 o] 52))
  have IV0 := ((IsB.new w #[.int .i64 x, .int .u64 y] 27).below ((Below.refl _ _).alloc (Nat.le_refl _) (.cells #[.int .i64 a, .int .i64 o] 52)))
  have IV := hide IV0
  clear IV0
  have IO0 := (IsB.new (w.alloc (.cells #[.int .i64 x, .int .u64 y] 27)) #[.int .i64 a, .int .i64 o] 52)
  simp only [World.size_alloc] at IO0
  have IO := hide IO0
  clear IO0
  have B1 := hide B0
  have L1 := hide (h.below B0)
  have hB1 : base ≤ ((w.alloc (.cells #[.int .i64 x, .int .u64 y] 27)).alloc (.cells #[.int .i64 a, .int .i64 o] 52)).heap.size := by simp; omega
  have h0 := hide h
  clear B0 h
  have ho := hide ho
  go_enter Tryd.func47, Tryd.ntmps47
  go_wp2_with fail
  generalize ((w.alloc (.cells #[.int .i64 x, .int .u64 y] 27)).alloc (.cells #[.int .i64 a, .int .i64 o] 52)) = W1 at IV IO B1 L1 hB1 ⊢
  generalize hH : w.heap.size = H at IV IO ⊢
  replace hH := hide hH
  refine (find_some base p m me L _ L1.out hB1 x y hv hm hy oc ho.out).mono ?_; rintro e w2 ⟨c, rfl, hcn, hc, hin, hb2⟩
  obtain ⟨rb, lb, lv, os, ⟨x0, x1, x2, x3, x4⟩, ⟨y0, y1, y2, y3, y4⟩⟩ := c
  have R2 : Hid (RecAt w2 rb lb lv os (x0, x1, x2, x3, x4) (y0, y1, y2, y3, y4)) := hc
  have hcn2 : oc = (os, (x0, x1, x2, x3, x4), (y0, y1, y2, y3, y4)) := hcn.symm
  have HO := hide hcn2
  have HIN : Hid (Here w.heap.size base (x, y) ⟨rb, lb, lv, os, (x0, x1, x2, x3, x4), (y0, y1, y2, y3, y4)⟩ L) := hin.imp id (fun g => ⟨g.1, Nat.le_trans B1.out.size g.2.1, Nat.le_trans B1.out.size g.2.2⟩)
  clear hcn hcn2 hc hin ho hB1
  have hA : Hid (askA os a o = (B, E, os')) := by have := hA0; rw [HO.out] at this; exact this
  clear hA0
  have IV := hide (IV.out.below hb2)
  have IO := hide (IO.out.below hb2)
  have B2 := hide (B1.out.trans (hb2.mono B1.out.size))
  have L1 := hide (L1.out.below hb2)
  clear hb2
  go_wp2
  have IV := hide (IV.out.below (Below.refl _ _).drew)
  have IO := hide (IO.out.below (Below.refl _ _).drew)
  have B3 := hide B2.out.drew
  have L1 := hide (L1.out.below (Below.refl _ _).drew)
  have R2 := hide (R2.out.below (Below.refl _ _).drew)
  have hEb : (E == 0) = false := by simp [hE]
  refine regionL 11 (fun w' => w'.cell? ⟨rb, 0, none⟩ = some (.pointer (some ⟨lb, 0, none⟩)) ∧ w'.cell? ⟨H + 1, 0, none⟩ = some (.int .i64 a) ∧ w'.cell? ⟨H + 1, 1, none⟩ = some (.int .i64 o)) mixed ⟨R2.out.blk.cell 0, IO.out.cell 0, IO.out.cell 1⟩ (fun hHeld => ?_)
  refine pickA (v := ?_) 0 (some 21) rfl rfl (by kernel_rfl) (by kernel_rfl) (by kernel_rfl) (by decide) (fun _ _ _ h => h) (by rfl) ?_ (by assumption) ?_
  rotate_left
  · intro w'
    go_simp
    try with_reducible rfl
  try simp only [Act.put, List.setIfInBounds_toArray, List.set_cons_zero, List.set_cons_succ]
  refine pickA (v := ?_) 1 (some 22) rfl rfl (by kernel_rfl) (by kernel_rfl) (by kernel_rfl) (by decide) (fun _ _ _ h => h) (by rfl) ?_ (by assumption) ?_
  rotate_left
  · intro w'
    go_simp
    try with_reducible rfl
  try simp only [Act.put, List.setIfInBounds_toArray, List.set_cons_zero, List.set_cons_succ]
  refine pickA (v := ?_) 2 (some 23) rfl rfl (by kernel_rfl) (by kernel_rfl) (by kernel_rfl) (by decide) (fun _ _ _ h => h) (by rfl) ?_ (by assumption) ?_
  rotate_left
  · intro w'
    go_simp
    try with_reducible rfl
  try simp only [Act.put, List.setIfInBounds_toArray, List.set_cons_zero, List.set_cons_succ]
  refine pickL (v := ?_) 3 (some 24) rfl rfl (by kernel_rfl) (by kernel_rfl) (by kernel_rfl) (by decide) (by kernel_rfl) (by kernel_rfl) (fun _ _ _ h => h) (by rfl) ?_ (by assumption) ?_
  rotate_left
  · intro w' hSw
    obtain ⟨q0, q1, q2⟩ := hSw
    go_simp
    try with_reducible rfl
  try simp only [Act.put, List.setIfInBounds_toArray, List.set_cons_zero, List.set_cons_succ]
  refine pickL (v := ?_) 4 (some 25) rfl rfl (by kernel_rfl) (by kernel_rfl) (by kernel_rfl) (by decide) (by kernel_rfl) (by kernel_rfl) (fun _ _ _ h => h) (by rfl) ?_ (by assumption) ?_
  rotate_left
  · intro w' hSw
    obtain ⟨q0, q1, q2⟩ := hSw
    go_simp
    try with_reducible rfl
  try simp only [Act.put, List.setIfInBounds_toArray, List.set_cons_zero, List.set_cons_succ]
  refine oneL (i := 5) (by kernel_rfl) rfl (fun K hK => ?_)
  go_simp
  refine (ask_err lb lv os _ R2.out.ls a o B E os' hA.out hE).mono ?_; rintro e w4 ⟨rfl, hb4⟩
  have hS4 : (fun w' => w'.cell? ⟨rb, 0, none⟩ = some (.pointer (some ⟨lb, 0, none⟩)) ∧ w'.cell? ⟨H + 1, 0, none⟩ = some (.int .i64 a) ∧ w'.cell? ⟨H + 1, 1, none⟩ = some (.int .i64 o)) w4 := ⟨(R2.out.below hb4).blk.cell 0, (IO.out.below hb4).cell 0, (IO.out.below hb4).cell 1⟩
  have B4 := hide (B3.out.trans (hb4.mono B3.out.size))
  clear hb4
  refine hK.out _ _ ?_ ?_
  · exact hS4
  clear hK K
  try simp only [Act.put, List.setIfInBounds_toArray, List.set_cons_zero, List.set_cons_succ]
  clear hHeld
  have hHeld := hS4
  refine pickA (v := ?_) 6 (some 20) rfl rfl (by kernel_rfl) (by kernel_rfl) (by kernel_rfl) (by decide) (fun _ _ _ h => h) (by rfl) ?_ (by assumption) ?_
  rotate_left
  · intro w'
    go_simp
    try with_reducible rfl
  try simp only [Act.put, List.setIfInBounds_toArray, List.set_cons_zero, List.set_cons_succ]
  refine pickA (v := ?_) 7 (some 27) rfl rfl (by kernel_rfl) (by kernel_rfl) (by kernel_rfl) (by decide) (fun _ _ _ h => h) (by rfl) ?_ (by assumption) ?_
  rotate_left
  · intro w'
    go_simp
    try with_reducible rfl
  try simp only [Act.put, List.setIfInBounds_toArray, List.set_cons_zero, List.set_cons_succ]
  refine pickA (v := ?_) 8 (some 28) rfl rfl (by kernel_rfl) (by kernel_rfl) (by kernel_rfl) (by decide) (fun _ _ _ h => h) (by rfl) ?_ (by assumption) ?_
  rotate_left
  · intro w'
    go_simp
    try with_reducible rfl
  try simp only [Act.put, List.setIfInBounds_toArray, List.set_cons_zero, List.set_cons_succ]
  refine pickA (v := ?_) 9 (some 10) rfl rfl (by kernel_rfl) (by kernel_rfl) (by kernel_rfl) (by decide) (fun _ _ _ h => h) (by rfl) ?_ (by assumption) ?_
  rotate_left
  · intro w'
    go_simp
    try with_reducible rfl
  try simp only [Act.put, List.setIfInBounds_toArray, List.set_cons_zero, List.set_cons_succ]
  refine pickA (v := ?_) 10 (some 9) rfl rfl (by kernel_rfl) (by kernel_rfl) (by kernel_rfl) (by decide) (fun _ _ _ h => h) (by rfl) ?_ (by assumption) ?_
  rotate_left
  · intro w'
    go_simp
    try with_reducible rfl
  try simp only [Act.put, List.setIfInBounds_toArray, List.set_cons_zero, List.set_cons_succ]
  refine doneL (by kernel_rfl) ?_ _
  clear hHeld
  go_wp2
  go_ret2
  exact ⟨rfl, B4.out⟩

set_option maxHeartbeats 8000000 in
set_option maxRecDepth 100000 in
theorem lock_ok (base p m : Nat) (me : Rf) (L : Tb) (w : World) (h : LK w base p m me L) (hB : base ≤ w.heap.size) (x y : Int) (hv : okV (x, y)) (hm : okMe me) (hy : 0 ≤ y) (a o : Int) (oc : Cn) (ho : findC me L (x, y) = some oc) (B : Bool) (os' : List Ow) (hA0 : askA oc.1 a o = (B, 0, os')) : Calls Tryd.prog 47 #[(.pointer (some ⟨p, 0, none⟩)), .agg #[.int .i64 x, .int .u64 y], .agg #[.int .i64 a, .int .i64 o]] w fun e w' => e = .returned (.tuple #[.bool B, .int .i64 0]) ∧ ∃ c : Rc, c.cn = (os', oc.2.1, oc.2.2) ∧ KX w w' base p m me L (keepT me (x, y) c (updL (x, y) c L)) := by
  have mixed : Tryd.prog.follows .mixedOrders = true := by kernel_rfl
  have B0 : Below w.heap.size w ((w.alloc (.cells #[.int .i64 x, .int .u64 y] 27)).alloc (.cells #[.int .i64 a, .int .i64 o] 52)) := (((Below.refl w.heap.size w).alloc (Nat.le_refl _) (.cells #[.int .i64 x, .int .u64 y] 27)).alloc (by simp) (.cells #[.int .i64 a, .int .i64 o] 52))
  have IV0 := ((IsB.new w #[.int .i64 x, .int .u64 y] 27).below ((Below.refl _ _).alloc (Nat.le_refl _) (.cells #[.int .i64 a, .int .i64 o] 52)))
  have IV := hide IV0
  clear IV0
  have IO0 := (IsB.new (w.alloc (.cells #[.int .i64 x, .int .u64 y] 27)) #[.int .i64 a, .int .i64 o] 52)
  simp only [World.size_alloc] at IO0
  have IO := hide IO0
  clear IO0
  have B1 := hide B0
  have L1 := hide (h.below B0)
  have hB1 : base ≤ ((w.alloc (.cells #[.int .i64 x, .int .u64 y] 27)).alloc (.cells #[.int .i64 a, .int .i64 o] 52)).heap.size := by simp; omega
  have h0 := hide h
  clear B0 h
  have ho := hide ho
  go_enter Tryd.func47, Tryd.ntmps47
  go_wp2_with fail
  generalize ((w.alloc (.cells #[.int .i64 x, .int .u64 y] 27)).alloc (.cells #[.int .i64 a, .int .i64 o] 52)) = W1 at IV IO B1 L1 hB1 ⊢
  generalize hH : w.heap.size = H at IV IO ⊢
  replace hH := hide hH
  refine (find_some base p m me L _ L1.out hB1 x y hv hm hy oc ho.out).mono ?_; rintro e w2 ⟨c, rfl, hcn, hc, hin, hb2⟩
  obtain ⟨rb, lb, lv, os, ⟨x0, x1, x2, x3, x4⟩, ⟨y0, y1, y2, y3, y4⟩⟩ := c
  have R2 : Hid (RecAt w2 rb lb lv os (x0, x1, x2, x3, x4) (y0, y1, y2, y3, y4)) := hc
  have hcn2 : oc = (os, (x0, x1, x2, x3, x4), (y0, y1, y2, y3, y4)) := hcn.symm
  have HO := hide hcn2
  have HIN : Hid (Here w.heap.size base (x, y) ⟨rb, lb, lv, os, (x0, x1, x2, x3, x4), (y0, y1, y2, y3, y4)⟩ L) := hin.imp id (fun g => ⟨g.1, Nat.le_trans B1.out.size g.2.1, Nat.le_trans B1.out.size g.2.2⟩)
  clear hcn hcn2 hc hin ho hB1
  have hA : Hid (askA os a o = (B, 0, os')) := by have := hA0; rw [HO.out] at this; exact this
  clear hA0
  have IV := hide (IV.out.below hb2)
  have IO := hide (IO.out.below hb2)
  have B2 := hide (B1.out.trans (hb2.mono B1.out.size))
  have L1 := hide (L1.out.below hb2)
  clear hb2
  go_wp2
  have IV := hide (IV.out.below (Below.refl _ _).drew)
  have IO := hide (IO.out.below (Below.refl _ _).drew)
  have B3 := hide B2.out.drew
  have L1 := hide (L1.out.below (Below.refl _ _).drew)
  have R2 := hide (R2.out.below (Below.refl _ _).drew)
  refine regionL 11 (fun w' => w'.cell? ⟨rb, 0, none⟩ = some (.pointer (some ⟨lb, 0, none⟩)) ∧ w'.cell? ⟨H + 1, 0, none⟩ = some (.int .i64 a) ∧ w'.cell? ⟨H + 1, 1, none⟩ = some (.int .i64 o)) mixed ⟨R2.out.blk.cell 0, IO.out.cell 0, IO.out.cell 1⟩ (fun hHeld => ?_)
  refine pickA (v := ?_) 0 (some 21) rfl rfl (by kernel_rfl) (by kernel_rfl) (by kernel_rfl) (by decide) (fun _ _ _ h => h) (by rfl) ?_ (by assumption) ?_
  rotate_left
  · intro w'
    go_simp
    try with_reducible rfl
  try simp only [Act.put, List.setIfInBounds_toArray, List.set_cons_zero, List.set_cons_succ]
  refine pickA (v := ?_) 1 (some 22) rfl rfl (by kernel_rfl) (by kernel_rfl) (by kernel_rfl) (by decide) (fun _ _ _ h => h) (by rfl) ?_ (by assumption) ?_
  rotate_left
  · intro w'
    go_simp
    try with_reducible rfl
  try simp only [Act.put, List.setIfInBounds_toArray, List.set_cons_zero, List.set_cons_succ]
  refine pickA (v := ?_) 2 (some 23) rfl rfl (by kernel_rfl) (by kernel_rfl) (by kernel_rfl) (by decide) (fun _ _ _ h => h) (by rfl) ?_ (by assumption) ?_
  rotate_left
  · intro w'
    go_simp
    try with_reducible rfl
  try simp only [Act.put, List.setIfInBounds_toArray, List.set_cons_zero, List.set_cons_succ]
  refine pickL (v := ?_) 3 (some 24) rfl rfl (by kernel_rfl) (by kernel_rfl) (by kernel_rfl) (by decide) (by kernel_rfl) (by kernel_rfl) (fun _ _ _ h => h) (by rfl) ?_ (by assumption) ?_
  rotate_left
  · intro w' hSw
    obtain ⟨q0, q1, q2⟩ := hSw
    go_simp
    try with_reducible rfl
  try simp only [Act.put, List.setIfInBounds_toArray, List.set_cons_zero, List.set_cons_succ]
  refine pickL (v := ?_) 4 (some 25) rfl rfl (by kernel_rfl) (by kernel_rfl) (by kernel_rfl) (by decide) (by kernel_rfl) (by kernel_rfl) (fun _ _ _ h => h) (by rfl) ?_ (by assumption) ?_
  rotate_left
  · intro w' hSw
    obtain ⟨q0, q1, q2⟩ := hSw
    go_simp
    try with_reducible rfl
  try simp only [Act.put, List.setIfInBounds_toArray, List.set_cons_zero, List.set_cons_succ]
  refine oneL (i := 5) (by kernel_rfl) rfl (fun K hK => ?_)
  go_simp
  refine (ask_ok lb lv os _ R2.out.ls a o B os' hA.out).mono ?_; rintro e w4 ⟨rfl, v', hx⟩
  have R4 := hide (R2.out.locked hx)
  have k4 : Kp [rb, lb] _ w4 := hx.kp.wide (by simp)
  have K4 := hide k4
  have hlo : ∀ {b : Nat} {cs : Array Value} {t : TypeId}, IsB _ b cs t → t ≠ 154 → IsB w4 b cs t := fun hb ht => hb.kp hx.kp (by simp only [List.mem_cons, List.not_mem_nil, or_false]; exact hb.ne_t R2.out.ls.blk ht)
  have IO4 := hide (hlo IO.out (by decide))
  have IV4 := hide (hlo IV.out (by decide))
  have hS4 : (fun w' => w'.cell? ⟨rb, 0, none⟩ = some (.pointer (some ⟨lb, 0, none⟩)) ∧ w'.cell? ⟨H + 1, 0, none⟩ = some (.int .i64 a) ∧ w'.cell? ⟨H + 1, 1, none⟩ = some (.int .i64 o)) w4 := ⟨R4.out.blk.cell 0, IO4.out.cell 0, IO4.out.cell 1⟩
  have hU := hide (LK.upd L1.out (x, y) ⟨rb, lb, lv, os, (x0, x1, x2, x3, x4), (y0, y1, y2, y3, y4)⟩ ⟨rb, lb, v', os', (x0, x1, x2, x3, x4), (y0, y1, y2, y3, y4)⟩ R2.out HIN.out.or K4.out R4.out rfl rfl)
  clear hx hlo k4
  refine hK.out _ _ ?_ ?_
  · exact hS4
  clear hK K
  try simp only [Act.put, List.setIfInBounds_toArray, List.set_cons_zero, List.set_cons_succ]
  clear hHeld
  have hHeld := hS4
  refine pickA (v := ?_) 6 (some 20) rfl rfl (by kernel_rfl) (by kernel_rfl) (by kernel_rfl) (by decide) (fun _ _ _ h => h) (by rfl) ?_ (by assumption) ?_
  rotate_left
  · intro w'
    go_simp
    try with_reducible rfl
  try simp only [Act.put, List.setIfInBounds_toArray, List.set_cons_zero, List.set_cons_succ]
  refine pickA (v := ?_) 7 (some 27) rfl rfl (by kernel_rfl) (by kernel_rfl) (by kernel_rfl) (by decide) (fun _ _ _ h => h) (by rfl) ?_ (by assumption) ?_
  rotate_left
  · intro w'
    go_simp
    try with_reducible rfl
  try simp only [Act.put, List.setIfInBounds_toArray, List.set_cons_zero, List.set_cons_succ]
  refine pickA (v := ?_) 8 (some 28) rfl rfl (by kernel_rfl) (by kernel_rfl) (by kernel_rfl) (by decide) (fun _ _ _ h => h) (by rfl) ?_ (by assumption) ?_
  rotate_left
  · intro w'
    go_simp
    try with_reducible rfl
  try simp only [Act.put, List.setIfInBounds_toArray, List.set_cons_zero, List.set_cons_succ]
  refine pickA (v := ?_) 9 (some 10) rfl rfl (by kernel_rfl) (by kernel_rfl) (by kernel_rfl) (by decide) (fun _ _ _ h => h) (by rfl) ?_ (by assumption) ?_
  rotate_left
  · intro w'
    go_simp
    try with_reducible rfl
  try simp only [Act.put, List.setIfInBounds_toArray, List.set_cons_zero, List.set_cons_succ]
  refine pickA (v := ?_) 10 (some 9) rfl rfl (by kernel_rfl) (by kernel_rfl) (by kernel_rfl) (by decide) (fun _ _ _ h => h) (by rfl) ?_ (by assumption) ?_
  rotate_left
  · intro w'
    go_simp
    try with_reducible rfl
  try simp only [Act.put, List.setIfInBounds_toArray, List.set_cons_zero, List.set_cons_succ]
  refine doneL (by kernel_rfl) ?_ _
  clear hHeld
  have qv0 := IV4.out.cell 0
  have qv1 := IV4.out.cell 1
  simp at qv0 qv1
  go_wp2_with fail
  refine (keep_any base p m me (updL (x, y) ⟨rb, lb, v', os', (x0, x1, x2, x3, x4), (y0, y1, y2, y3, y4)⟩ L) _ hU.out.1 x y hv ⟨rb, lb, v', os', (x0, x1, x2, x3, x4), (y0, y1, y2, y3, y4)⟩ R4.out hU.out.2).mono ?_; rintro e w6 ⟨rfl, h6, k6⟩
  have X6 := hide (h0.out.done (x, y) ⟨rb, lb, lv, os, (x0, x1, x2, x3, x4), (y0, y1, y2, y3, y4)⟩ ⟨rb, lb, v', os', (x0, x1, x2, x3, x4), (y0, y1, y2, y3, y4)⟩ B3.out HIN.out K4.out rfl rfl k6 h6)
  clear h6 k6 qv0 qv1
  go_wp2
  go_ret2
  refine ⟨rfl, ⟨rb, lb, v', os', (x0, x1, x2, x3, x4), (y0, y1, y2, y3, y4)⟩, ?_, X6.out⟩
  rw [HO.out]
  rfl

set_option maxHeartbeats 8000000 in
set_option maxRecDepth 100000 in
theorem out_none (base p m : Nat) (me : Rf) (L : Tb) (w : World) (h : LK w base p m me L) (x y : Int) (hv : okV (x, y)) (hm : okMe me) (hy : 0 ≤ y) (a o : Int) (ho : findC me L (x, y) = none) : Calls Tryd.prog 62 #[(.pointer (some ⟨p, 0, none⟩)), .agg #[.int .i64 x, .int .u64 y], .agg #[.int .i64 a, .int .i64 o]] w fun e w' => e = .returned (.tuple #[.slice none 0 0, .int .i64 82]) ∧ Below w.heap.size w w' := by
  have B0 : Below w.heap.size w ((w.alloc (.cells #[.int .i64 x, .int .u64 y] 27)).alloc (.cells #[.int .i64 a, .int .i64 o] 52)) := (((Below.refl w.heap.size w).alloc (Nat.le_refl _) (.cells #[.int .i64 x, .int .u64 y] 27)).alloc (by simp) (.cells #[.int .i64 a, .int .i64 o] 52))
  have IV0 := ((IsB.new w #[.int .i64 x, .int .u64 y] 27).below ((Below.refl _ _).alloc (Nat.le_refl _) (.cells #[.int .i64 a, .int .i64 o] 52)))
  have IV := hide IV0
  clear IV0
  have IO0 := (IsB.new (w.alloc (.cells #[.int .i64 x, .int .u64 y] 27)) #[.int .i64 a, .int .i64 o] 52)
  simp only [World.size_alloc] at IO0
  have IO := hide IO0
  clear IO0
  have B1 := hide B0
  have L1 := hide (h.below B0)
  clear B0 h
  have ho := hide ho
  go_enter Tryd.func62, Tryd.ntmps62
  go_wp2_with fail
  generalize ((w.alloc (.cells #[.int .i64 x, .int .u64 y] 27)).alloc (.cells #[.int .i64 a, .int .i64 o] 52)) = W1 at IV IO B1 L1 ⊢
  generalize hH : w.heap.size = H at IV IO ⊢
  replace hH := hide hH
  refine (find_none base p m me L _ L1.out x y hv hm hy ho.out).mono ?_; rintro e w2 ⟨rfl, hb2⟩
  have B2 := hide (B1.out.trans (hb2.mono B1.out.size))
  clear hb2
  go_wp2
  go_ret2
  exact ⟨rfl, B2.out⟩

set_option maxHeartbeats 8000000 in
set_option maxRecDepth 100000 in
theorem out_no (p : Value) (x y : Int) (a o : Int) (w : World) (h : NoLinks w p) : Calls Tryd.prog 62 #[p, .agg #[.int .i64 x, .int .u64 y], .agg #[.int .i64 a, .int .i64 o]] w fun e w' => e = .returned (.tuple #[.slice none 0 0, .int .i64 4]) ∧ Below w.heap.size w w' := by
  have B0 : Below w.heap.size w ((w.alloc (.cells #[.int .i64 x, .int .u64 y] 27)).alloc (.cells #[.int .i64 a, .int .i64 o] 52)) := (((Below.refl w.heap.size w).alloc (Nat.le_refl _) (.cells #[.int .i64 x, .int .u64 y] 27)).alloc (by simp) (.cells #[.int .i64 a, .int .i64 o] 52))
  have IV0 := ((IsB.new w #[.int .i64 x, .int .u64 y] 27).below ((Below.refl _ _).alloc (Nat.le_refl _) (.cells #[.int .i64 a, .int .i64 o] 52)))
  have IV := hide IV0
  clear IV0
  have IO0 := (IsB.new (w.alloc (.cells #[.int .i64 x, .int .u64 y] 27)) #[.int .i64 a, .int .i64 o] 52)
  simp only [World.size_alloc] at IO0
  have IO := hide IO0
  clear IO0
  have B1 := hide B0
  have L1 := hide (h.below B0)
  clear B0 h
  go_enter Tryd.func62, Tryd.ntmps62
  go_wp2_with fail
  generalize ((w.alloc (.cells #[.int .i64 x, .int .u64 y] 27)).alloc (.cells #[.int .i64 a, .int .i64 o] 52)) = W1 at IV IO B1 L1 ⊢
  generalize hH : w.heap.size = H at IV IO ⊢
  replace hH := hide hH
  refine (find_no p x y _ L1.out).mono ?_; rintro e w2 ⟨rfl, hb2⟩
  have B2 := hide (B1.out.trans (hb2.mono B1.out.size))
  clear hb2
  go_wp2
  go_ret2
  exact ⟨rfl, B2.out⟩

set_option maxHeartbeats 8000000 in
set_option maxRecDepth 100000 in
theorem out_end (base p m : Nat) (me : Rf) (L : Tb) (w : World) (h : LK w base p m me L) (hB : base ≤ w.heap.size) (x y : Int) (hv : okV (x, y)) (hm : okMe me) (hy : 0 ≤ y) (a o : Int) (oc : Cn) (ho : findC me L (x, y) = some oc) (hr : me.2.1 ≠ 2) : Calls Tryd.prog 62 #[(.pointer (some ⟨p, 0, none⟩)), .agg #[.int .i64 x, .int .u64 y], .agg #[.int .i64 a, .int .i64 o]] w fun e w' => e = .returned (.tuple #[.slice none 0 0, .int .i64 80]) ∧ Below w.heap.size w w' := by
  obtain ⟨i, r, n, l, b⟩ := me
  simp only [] at hr
  have B0 : Below w.heap.size w ((w.alloc (.cells #[.int .i64 x, .int .u64 y] 27)).alloc (.cells #[.int .i64 a, .int .i64 o] 52)) := (((Below.refl w.heap.size w).alloc (Nat.le_refl _) (.cells #[.int .i64 x, .int .u64 y] 27)).alloc (by simp) (.cells #[.int .i64 a, .int .i64 o] 52))
  have IV0 := ((IsB.new w #[.int .i64 x, .int .u64 y] 27).below ((Below.refl _ _).alloc (Nat.le_refl _) (.cells #[.int .i64 a, .int .i64 o] 52)))
  have IV := hide IV0
  clear IV0
  have IO0 := (IsB.new (w.alloc (.cells #[.int .i64 x, .int .u64 y] 27)) #[.int .i64 a, .int .i64 o] 52)
  simp only [World.size_alloc] at IO0
  have IO := hide IO0
  clear IO0
  have B1 := hide B0
  have L1 := hide (h.below B0)
  have hB1 : base ≤ ((w.alloc (.cells #[.int .i64 x, .int .u64 y] 27)).alloc (.cells #[.int .i64 a, .int .i64 o] 52)).heap.size := by simp; omega
  have h0 := hide h
  clear B0 h
  have ho := hide ho
  go_enter Tryd.func62, Tryd.ntmps62
  go_wp2_with fail
  generalize ((w.alloc (.cells #[.int .i64 x, .int .u64 y] 27)).alloc (.cells #[.int .i64 a, .int .i64 o] 52)) = W1 at IV IO B1 L1 hB1 ⊢
  generalize hH : w.heap.size = H at IV IO ⊢
  replace hH := hide hH
  refine (find_some base p m (i, r, n, l, b) L _ L1.out hB1 x y hv hm hy oc ho.out).mono ?_; rintro e w2 ⟨c, rfl, hcn, hc, hin, hb2⟩
  obtain ⟨rb, lb, lv, os, ⟨x0, x1, x2, x3, x4⟩, ⟨y0, y1, y2, y3, y4⟩⟩ := c
  have R2 : Hid (RecAt w2 rb lb lv os (x0, x1, x2, x3, x4) (y0, y1, y2, y3, y4)) := hc
  have hcn2 : oc = (os, (x0, x1, x2, x3, x4), (y0, y1, y2, y3, y4)) := hcn.symm
  have HO := hide hcn2
  have HIN : Hid (Here w.heap.size base (x, y) ⟨rb, lb, lv, os, (x0, x1, x2, x3, x4), (y0, y1, y2, y3, y4)⟩ L) := hin.imp id (fun g => ⟨g.1, Nat.le_trans B1.out.size g.2.1, Nat.le_trans B1.out.size g.2.2⟩)
  clear hcn hcn2 hc hin ho hB1
  have IV := hide (IV.out.below hb2)
  have IO := hide (IO.out.below hb2)
  have B2 := hide (B1.out.trans (hb2.mono B1.out.size))
  have L1 := hide (L1.out.below hb2)
  clear hb2
  go_wp2_with fail
  refine (isEnd_any p m i r n l b _ L1.out.blk).mono ?_; intro e w3 hE1; obtain ⟨rfl, hw⟩ := hE1
  rw [hw, decide_eq_true hr]
  clear hw
  go_wp2
  go_ret2
  exact ⟨rfl, B2.out⟩

set_option maxHeartbeats 8000000 in
set_option maxRecDepth 100000 in
theorem out_held (base p m : Nat) (me : Rf) (L : Tb) (w : World) (h : LK w base p m me L) (hB : base ≤ w.heap.size) (x y : Int) (hv : okV (x, y)) (hm : okMe me) (hy : 0 ≤ y) (a o : Int) (oc : Cn) (ho : findC me L (x, y) = some oc) (hr : me.2.1 = 2) (hh : heE oc.1 a o ≠ 0) : Calls Tryd.prog 62 #[(.pointer (some ⟨p, 0, none⟩)), .agg #[.int .i64 x, .int .u64 y], .agg #[.int .i64 a, .int .i64 o]] w fun e w' => e = .returned (.tuple #[.slice none 0 0, .int .i64 (heE oc.1 a o)]) ∧ Below w.heap.size w w' := by
  obtain ⟨i, r, n, l, b⟩ := me
  simp only [] at hr
  replace hh := hide hh
  have B0 : Below w.heap.size w ((w.alloc (.cells #[.int .i64 x, .int .u64 y] 27)).alloc (.cells #[.int .i64 a, .int .i64 o] 52)) := (((Below.refl w.heap.size w).alloc (Nat.le_refl _) (.cells #[.int .i64 x, .int .u64 y] 27)).alloc (by simp) (.cells #[.int .i64 a, .int .i64 o] 52))
  have IV0 := ((IsB.new w #[.int .i64 x, .int .u64 y] 27).below ((Below.refl _ _).alloc (Nat.le_refl _) (.cells #[.int .i64 a, .int .i64 o] 52)))
  have IV := hide IV0
  clear IV0
  have IO0 := (IsB.new (w.alloc (.cells #[.int .i64 x, .int .u64 y] 27)) #[.int .i64 a, .int .i64 o] 52)
  simp only [World.size_alloc] at IO0
  have IO := hide IO0
  clear IO0
  have B1 := hide B0
  have L1 := hide (h.below B0)
  have hB1 : base ≤ ((w.alloc (.cells #[.int .i64 x, .int .u64 y] 27)).alloc (.cells #[.int .i64 a, .int .i64 o] 52)).heap.size := by simp; omega
  have h0 := hide h
  clear B0 h
  have ho := hide ho
  go_enter Tryd.func62, Tryd.ntmps62
  go_wp2_with fail
  generalize ((w.alloc (.cells #[.int .i64 x, .int .u64 y] 27)).alloc (.cells #[.int .i64 a, .int .i64 o] 52)) = W1 at IV IO B1 L1 hB1 ⊢
  generalize hH : w.heap.size = H at IV IO ⊢
  replace hH := hide hH
  refine (find_some base p m (i, r, n, l, b) L _ L1.out hB1 x y hv hm hy oc ho.out).mono ?_; rintro e w2 ⟨c, rfl, hcn, hc, hin, hb2⟩
  obtain ⟨rb, lb, lv, os, ⟨x0, x1, x2, x3, x4⟩, ⟨y0, y1, y2, y3, y4⟩⟩ := c
  have R2 : Hid (RecAt w2 rb lb lv os (x0, x1, x2, x3, x4) (y0, y1, y2, y3, y4)) := hc
  have hcn2 : oc = (os, (x0, x1, x2, x3, x4), (y0, y1, y2, y3, y4)) := hcn.symm
  have HO := hide hcn2
  have HIN : Hid (Here w.heap.size base (x, y) ⟨rb, lb, lv, os, (x0, x1, x2, x3, x4), (y0, y1, y2, y3, y4)⟩ L) := hin.imp id (fun g => ⟨g.1, Nat.le_trans B1.out.size g.2.1, Nat.le_trans B1.out.size g.2.2⟩)
  clear hcn hcn2 hc hin ho hB1
  have IV := hide (IV.out.below hb2)
  have IO := hide (IO.out.below hb2)
  have B2 := hide (B1.out.trans (hb2.mono B1.out.size))
  have L1 := hide (L1.out.below hb2)
  clear hb2
  go_wp2_with fail
  refine (isEnd_any p m i r n l b _ L1.out.blk).mono ?_; intro e w3 hE1; obtain ⟨rfl, hw⟩ := hE1
  rw [hw, decide_eq_false (by omega)]
  clear hw
  have qO0 := IO.out.cell 0
  have qO1 := IO.out.cell 1
  simp at qO0 qO1
  go_wp2_with fail
  refine (heldBy_any rb lb lv os _ _ _ R2.out a o).mono ?_; rintro e w4 ⟨rfl, hb4⟩
  obtain ⟨E, hE⟩ : ∃ E, heE oc.1 a o = E := ⟨_, rfl⟩
  have hE2 : heE os a o = E := by rw [← hE, HO.out]
  have hne : (E != 0) = true := by have := hh.out; rw [hE] at this; simpa using this
  rw [hE2]
  replace hE := hide hE
  clear hE2
  clear qO0 qO1
  have B4 := hide (B2.out.trans (hb4.mono B2.out.size))
  clear hb4
  go_wp2
  go_ret2
  exact ⟨by rw [hE.out]; rfl, B4.out⟩

theorem foot_drop {m : Nat} {v : Vc} {L : Tb} : ∀ k ∈ foot m (dropL v L), k ∈ foot m L := by
  intro k hk
  rcases mem_foot.1 hk with rfl | ⟨e, he, hek⟩
  · exact mem_foot.2 (Or.inl rfl)
  · exact mem_foot.2 (Or.inr ⟨e, (List.mem_filter.1 he).1, hek⟩)
/-- The record that was taken out turns: the others stay. -/
theorem LK.free {w w' : World} {base p m : Nat} {me : Rf} {L : Tb} (h : LK w base p m me L) (c : Rc) (hc : c.At w) (h1 : ∀ e ∈ L, e.2.rb ≠ c.rb) (h2 : ∀ e ∈ L, e.2.lb ≠ c.lb) (hk : Kp [c.rb, c.lb] w w') : LK w' base p m me L := by
  refine ⟨h.blk.kp hk ?_, h.map.kp hk ?_, fun e he => (h.recs e he).other hc hk (h1 e he) (h2 e he), h.ap, h.al, h.lo⟩
  · simp only [List.mem_cons, List.not_mem_nil, or_false, not_or]
    exact ⟨h.blk.ne_t hc.blk tne3, h.blk.ne_t hc.ls.blk tne2⟩
  · simp only [List.mem_cons, List.not_mem_nil, or_false, not_or]
    exact ⟨fun e => h.map.off hc.blk e.symm, fun e => h.map.off hc.ls.blk e.symm⟩
theorem findC_peer {me : Rf} {L : Tb} {v : Vc} {o : Cn} (h : findC me L v = some o) (hr : me.2.1 = 2) : ∃ c, (v, c) ∈ L := by
  unfold findC at h
  cases hl : lookL L v with
  | some c => exact ⟨c, lookL_some hl⟩
  | none =>
    rw [hl] at h
    simp only [] at h
    rw [if_neg (fun q => q.1 hr)] at h
    cases h

set_option maxHeartbeats 8000000 in
set_option maxRecDepth 100000 in
theorem out_ok (base p m : Nat) (me : Rf) (L : Tb) (w : World) (h : LK w base p m me L) (hB : base ≤ w.heap.size) (x y : Int) (hv : okV (x, y)) (hm : okMe me) (hy : 0 ≤ y) (a o : Int) (oc : Cn) (ho : findC me L (x, y) = some oc) (hr : me.2.1 = 2) (hh : heE oc.1 a o = 0) : Calls Tryd.prog 62 #[(.pointer (some ⟨p, 0, none⟩)), .agg #[.int .i64 x, .int .u64 y], .agg #[.int .i64 a, .int .i64 o]] w fun e w' => (∃ q, e = .returned (.tuple #[q, .int .i64 0]) ∧ Rw w' 52 2 q oc.1.tail.length (ows oc.1.tail)) ∧ KX w w' base p m me L (dropL (x, y) L) := by
  have mixed : Tryd.prog.follows .mixedOrders = true := by kernel_rfl
  have hPe := hide (findC_peer ho hr)
  obtain ⟨i, r, n, l, b⟩ := me
  simp only [] at hr
  replace hh := hide hh
  have B0 : Below w.heap.size w ((w.alloc (.cells #[.int .i64 x, .int .u64 y] 27)).alloc (.cells #[.int .i64 a, .int .i64 o] 52)) := (((Below.refl w.heap.size w).alloc (Nat.le_refl _) (.cells #[.int .i64 x, .int .u64 y] 27)).alloc (by simp) (.cells #[.int .i64 a, .int .i64 o] 52))
  have IV0 := ((IsB.new w #[.int .i64 x, .int .u64 y] 27).below ((Below.refl _ _).alloc (Nat.le_refl _) (.cells #[.int .i64 a, .int .i64 o] 52)))
  have IV := hide IV0
  clear IV0
  have IO0 := (IsB.new (w.alloc (.cells #[.int .i64 x, .int .u64 y] 27)) #[.int .i64 a, .int .i64 o] 52)
  simp only [World.size_alloc] at IO0
  have IO := hide IO0
  clear IO0
  have B1 := hide B0
  have L1 := hide (h.below B0)
  have hB1 : base ≤ ((w.alloc (.cells #[.int .i64 x, .int .u64 y] 27)).alloc (.cells #[.int .i64 a, .int .i64 o] 52)).heap.size := by simp; omega
  have h0 := hide h
  clear B0 h
  have ho := hide ho
  go_enter Tryd.func62, Tryd.ntmps62
  go_wp2_with fail
  generalize ((w.alloc (.cells #[.int .i64 x, .int .u64 y] 27)).alloc (.cells #[.int .i64 a, .int .i64 o] 52)) = W1 at IV IO B1 L1 hB1 ⊢
  generalize hH : w.heap.size = H at IV IO ⊢
  replace hH := hide hH
  refine (find_some base p m (i, r, n, l, b) L _ L1.out hB1 x y hv hm hy oc ho.out).mono ?_; rintro e w2 ⟨c, rfl, hcn, hc, hin, hb2⟩
  obtain ⟨rb, lb, lv, os, ⟨x0, x1, x2, x3, x4⟩, ⟨y0, y1, y2, y3, y4⟩⟩ := c
  have R2 : Hid (RecAt w2 rb lb lv os (x0, x1, x2, x3, x4) (y0, y1, y2, y3, y4)) := hc
  have hcn2 : oc = (os, (x0, x1, x2, x3, x4), (y0, y1, y2, y3, y4)) := hcn.symm
  have HO := hide hcn2
  have HIN : Hid (Here w.heap.size base (x, y) ⟨rb, lb, lv, os, (x0, x1, x2, x3, x4), (y0, y1, y2, y3, y4)⟩ L) := hin.imp id (fun g => ⟨g.1, Nat.le_trans B1.out.size g.2.1, Nat.le_trans B1.out.size g.2.2⟩)
  clear hcn hcn2 hc hin ho hB1
  have IV := hide (IV.out.below hb2)
  have IO := hide (IO.out.below hb2)
  have B2 := hide (B1.out.trans (hb2.mono B1.out.size))
  have L1 := hide (L1.out.below hb2)
  clear hb2
  go_wp2_with fail
  refine (isEnd_any p m i r n l b _ L1.out.blk).mono ?_; intro e w3 hE1; obtain ⟨rfl, hw⟩ := hE1
  rw [hw, decide_eq_false (by omega)]
  clear hw
  have qO0 := IO.out.cell 0
  have qO1 := IO.out.cell 1
  simp at qO0 qO1
  go_wp2_with fail
  refine (heldBy_any rb lb lv os _ _ _ R2.out a o).mono ?_; rintro e w4 ⟨rfl, hb4⟩
  rw [show heE os a o = 0 by have := hh.out; rw [HO.out] at this; exact this]
  clear qO0 qO1
  have hb5 := hb4.drew
  have IV := hide (IV.out.below hb5)
  have IO := hide (IO.out.below hb5)
  have B5 := hide (B2.out.trans (hb5.mono B2.out.size))
  have L1 := hide (L1.out.below hb5)
  have R2 := hide (R2.out.below hb5)
  clear hb4 hb5
  go_wp2
  refine regionL 6 (fun w' => IsB w' H #[.int .i64 x, .int .u64 y] 27 ∧ IsB w' p #[.int .i64 i, .int .i64 r, .int .u64 n, .int .i64 l, .int .u64 b, .map (some m)] 98) mixed ⟨IV.out, L1.out.blk⟩ (fun hHeld => ?_)
  refine pickA (v := ?_) 0 (some 28) rfl rfl (by kernel_rfl) (by kernel_rfl) (by kernel_rfl) (by decide) (fun _ _ _ h => h) (by rfl) ?_ (by assumption) ?_
  rotate_left
  · intro w'
    go_simp
    try with_reducible rfl
  try simp only [Act.put, List.setIfInBounds_toArray, List.set_cons_zero, List.set_cons_succ]
  refine pickA (v := ?_) 1 (some 29) rfl rfl (by kernel_rfl) (by kernel_rfl) (by kernel_rfl) (by decide) (fun _ _ _ h => h) (by rfl) ?_ (by assumption) ?_
  rotate_left
  · intro w'
    go_simp
    try with_reducible rfl
  try simp only [Act.put, List.setIfInBounds_toArray, List.set_cons_zero, List.set_cons_succ]
  refine pickA (v := ?_) 2 (some 30) rfl rfl (by kernel_rfl) (by kernel_rfl) (by kernel_rfl) (by decide) (fun _ _ _ h => h) (by rfl) ?_ (by assumption) ?_
  rotate_left
  · intro w'
    go_simp
    try with_reducible rfl
  try simp only [Act.put, List.setIfInBounds_toArray, List.set_cons_zero, List.set_cons_succ]
  refine pickL (v := ?_) 3 (some 31) rfl rfl (by kernel_rfl) (by kernel_rfl) (by kernel_rfl) (by decide) (by kernel_rfl) (by kernel_rfl) (fun _ _ _ h => h) (by rfl) ?_ (by assumption) ?_
  rotate_left
  · intro w' hSw
    obtain ⟨k0, k1⟩ := hSw; have q0 : w'.cell? ⟨H, 0, none⟩ = some (.int .i64 x) := k0.cell 0; have q1 : w'.cell? ⟨H, 1, none⟩ = some (.int .u64 y) := k0.cell 1; have q2 : w'.cell? ⟨p, 5, none⟩ = some (.map (some m)) := k1.cell 5; clear k0 k1
    go_simp
    try with_reducible rfl
  try simp only [Act.put, List.setIfInBounds_toArray, List.set_cons_zero, List.set_cons_succ]
  refine pickL (v := ?_) 4 (some 32) rfl rfl (by kernel_rfl) (by kernel_rfl) (by kernel_rfl) (by decide) (by kernel_rfl) (by kernel_rfl) (fun _ _ _ h => h) (by rfl) ?_ (by assumption) ?_
  rotate_left
  · intro w' hSw
    obtain ⟨k0, k1⟩ := hSw; have q0 : w'.cell? ⟨H, 0, none⟩ = some (.int .i64 x) := k0.cell 0; have q1 : w'.cell? ⟨H, 1, none⟩ = some (.int .u64 y) := k0.cell 1; have q2 : w'.cell? ⟨p, 5, none⟩ = some (.map (some m)) := k1.cell 5; clear k0 k1
    go_simp
    try with_reducible rfl
  try simp only [Act.put, List.setIfInBounds_toArray, List.set_cons_zero, List.set_cons_succ]
  refine oneL (i := 5) (by kernel_rfl) rfl (fun K hK => ?_)
  obtain ⟨w6, hrun, hM6, hg6⟩ := L1.out.map.drop (x, y) hv 0
  have hrun2 : (Builtin.delete_ #[96, 27] 0 #[.map (some m), .agg #[.int .i64 x, .int .u64 y]]).run Tryd.prog w4.drew = .ok (.tuple #[]) w6 := hrun
  have K6 := hide (kp_of_grown hg6)
  go_simp
  have X6 := hide (L1.out.drop K6.out (x, y) hM6)
  have IV6 := hide (IV.out.kp K6.out (by simp; exact L1.out.map.off IV.out))
  have R6 : Hid (Rc.At w6 ⟨rb, lb, lv, os, (x0, x1, x2, x3, x4), (y0, y1, y2, y3, y4)⟩) := L1.out.mapTo K6.out _ R2.out
  clear hrun hrun2 hM6 hg6
  refine hK.out _ _ ?_ ?_
  · exact ⟨IV6.out, X6.out.blk⟩
  clear hK K
  try simp only [Act.put, List.setIfInBounds_toArray, List.set_cons_zero, List.set_cons_succ]
  clear hHeld
  have hHeld : (fun w' => IsB w' H #[.int .i64 x, .int .u64 y] 27 ∧ IsB w' p #[.int .i64 i, .int .i64 r, .int .u64 n, .int .i64 l, .int .u64 b, .map (some m)] 98) w6 := ⟨IV6.out, X6.out.blk⟩
  refine doneL (by kernel_rfl) ?_ _
  clear hHeld
  have q0 : w6.cell? ⟨rb, 0, none⟩ = some (.pointer (some ⟨lb, 0, none⟩)) := R6.out.blk.cell 0
  go_wp2_with fail
  refine (end_any lb lv os _ R6.out.ls).mono ?_; rintro e w7 ⟨q, rfl, hq, -, hx⟩
  have hin : ((x, y), (⟨rb, lb, lv, os, (x0, x1, x2, x3, x4), (y0, y1, y2, y3, y4)⟩ : Rc)) ∈ L := by
    rcases HIN.out with g | g
    · exact g
    · obtain ⟨c, hc⟩ := hPe.out
      exact absurd rfl (g.1.1 _ hc)
  have X7 : Hid (KX w w7 base p m (i, r, n, l, b) L (dropL (x, y) L)) := by
    have hk7 : Kp [rb, lb] w6 w7 := hx.kp.wide (by simp)
    have hne : ∀ e ∈ dropL (x, y) L, e.2.rb ≠ rb ∧ e.2.lb ≠ lb := by
      intro e he
      have hm := List.mem_filter.1 he
      have hv2 : e.1 ≠ (x, y) := by simpa using hm.2
      exact ⟨fun q => hv2 (by rw [nodup_one (fun e : Vc × Rc => e.2.rb) h0.out.ap hm.1 hin q]), fun q => hv2 (by rw [nodup_one (fun e : Vc × Rc => e.2.lb) h0.out.al hm.1 hin q])⟩
    have f1 : rb ∈ foot m L := mem_foot.2 (Or.inr ⟨_, hin, Or.inl rfl⟩)
    have f2 : lb ∈ foot m L := mem_foot.2 (Or.inr ⟨_, hin, Or.inr rfl⟩)
    refine ⟨X6.out.free ⟨rb, lb, lv, os, (x0, x1, x2, x3, x4), (y0, y1, y2, y3, y4)⟩ R6.out (fun e he => (hne e he).1) (fun e he => (hne e he).2) hk7, ((Kp.of_below B5.out).trans K6.out (by simp [foot])).trans hk7 ?_, fun k hk => Or.inl (foot_drop k hk)⟩
    intro j hj
    simp only [List.mem_cons, List.not_mem_nil, or_false] at hj
    rcases hj with rfl | rfl
    · exact Or.inl f1
    · exact Or.inl f2
  have HQ := hide hq
  have HO2 : Hid (oc.1 = os) := by rw [HO.out]; rfl
  obtain ⟨qn, hqn⟩ : ∃ z, os.tail.length = z := ⟨_, rfl⟩
  rw [hqn] at HQ
  obtain ⟨qa, qc, rfl, -, -⟩ := HQ.out.shape
  clear hq hx q0 hin
  replace hqn := hide hqn
  go_wp2
  go_ret2
  rw [HO2.out]
  have hqn2 := hqn.out
  rw [List.length_tail] at hqn2
  refine ⟨⟨_, rfl, ?_⟩, X7.out⟩
  first
    | (rw [hqn2]; exact HQ.out)
    | (rw [hqn.out]; exact HQ.out)

end Go.Proofs.YtdogdinkopocaaaDoor
