/- alive. -/
import Derived.Test.YtofmommoeligoaaDoorTI
namespace Go.Proofs.YtofmommoeligoaaDoor
open Go.RowKit Go.Maps Go.ChangeMaps

def s0 : Sp := newS 0 0 me0 hd0 0 1
def s1 : Sp := { s0 with pl := 4, rg := tl0 }
def s2 : Sp := { s1 with pl := 5 }
def a1 : An := ⟨1, false, zr, tl0, none, 0, 0⟩
def a2 : An := ⟨1, false, zr, zr, none, 0, 0⟩
theorem aw1 : s0.tell none a1 = (s1, none) := by kernel_rfl
theorem aw2 : s1.tell none a2 = (s2, none) := by kernel_rfl
theorem s0_ok : PlOk s0 none := ⟨Or.inl rfl, fun h => by cases h⟩
theorem s1_ok : PlOk s1 none := ⟨Or.inr ⟨by decide, by decide⟩, fun h => by cases h⟩
theorem s2_ok : PlOk s2 none := ⟨Or.inr ⟨by decide, by decide⟩, fun h => by cases h⟩
theorem may0 : mayC 0 0 me0 hd0 0 1 = true := by decide
theorem store_step (w : World) (cs : Array Value) (hs : cs.size = 36) (h1 : cs.all (·.oneCell') = true) : (Instr.storeAt 53 (.pointer (some ⟨w.heap.size, 0, none⟩)) (.agg cs)).run Tryd.prog (w.alloc (.cells #[.int .i64 0, .int .i64 0, .int .i64 0, .int .u64 0, .int .i64 0, .int .u64 0, .int .i64 0, .int .i64 0, .int .u64 0, .int .i64 0, .int .i64 0, .int .u64 0, .int .i64 0, .int .u64 0, .int .i64 0, .int .i64 0, .int .u64 0, .int .i64 0, .int .u64 0, .int .i64 0, .int .i64 0, .int .i64 0, .int .u64 0, .slice none 0 0, .slice none 0 0, .int .i64 0, .int .i64 0, .int .u64 0, .int .i64 0, .int .u64 0, .int .i64 0, .int .i64 0, .int .u64 0, .int .i64 0, .int .u64 0, .bool false] 53)) = .ok () (w.alloc (.cells cs 53)) := run_storeAt_new w 53 _ cs (by rw [hs]; exact step_info) (by rw [hs]; rfl) h1
theorem ld_sref {w : World} {b : Nat} {cs : List Value} (I : IsB w b cs.toArray 53) (o : Nat) (r : Rf) (h : (cs.drop o).take 5 = r.cs) : (Instr.loadAt 29 (.pointer (some ⟨b, o, none⟩))).run Tryd.prog w = .ok (.agg r.cells) w := load_mid I o _ r.cs _ h Tryd.underlying29 rfl (by kernel_rfl)
theorem Ranks.kp1 {w w' : World} {b : Nat} (h : Ranks w) (k : Kp [b] w w') (hb : 0 < b) : Ranks w' := by
  have hc : ∀ o v, w.cell? ⟨0, o, none⟩ = some v → w'.cell? ⟨0, o, none⟩ = some v := fun o v hv => by
    have e := k.block 0 (lt_of_cell hv) (by simp; omega)
    unfold World.cell? at hv ⊢
    simp only [] at hv ⊢
    rw [e]; exact hv
  obtain ⟨h0, h1, h2, h3, h4, h5⟩ := h
  exact ⟨hc _ _ h0, hc _ _ h1, hc _ _ h2, hc _ _ h3, hc _ _ h4, hc _ _ h5⟩
theorem eqt (w : World) : Tryd.prog.eqGuardType Tryd.prog.depth 29 = false ∧ (binOp .eql 29 (.agg tl0.cells) (.agg tl0.cells)).run Tryd.prog w = .ok (.bool true) w := ⟨rguard, eqr 1 3 0 0 0 1 3 0 0 0 w⟩

set_option maxHeartbeats 2000000 in
set_option maxRecDepth 100000 in
theorem alive_any (w : World) (hR : Ranks w) : Calls Tryd.prog 10 #[] w fun e w' => e = .returned (.bool true) ∧ Below w.heap.size w w' := by
  have B := hide (Below.refl w.heap.size w)
  have HR := hide hR
  clear hR
  go_enter Tryd.func10, Tryd.ntmps10
  go_wp2_with fail
  refine (conf_any w).mono ?_
  rintro e w1 ⟨rfl, hb⟩
  replace HR := hide (HR.out.below hb)
  replace B := hide (B.out.trans (hb.mono B.out.size))
  clear hb
  go_wp2_with fail
  refine (new_ok 0 0 me0 hd0 0 1 (by decide) (by decide) may0 w1 HR.out).mono ?_
  rintro e w2 ⟨b, rfl, X0, hle, hb⟩
  have X : Hid (SpAt w2 b s0 none) := X0
  have hlb : Hid (w.heap.size ≤ b) := Nat.le_trans B.out.size hle
  replace B := hide (B.out.trans (hb.mono B.out.size))
  clear hb X0 HR hle
  have pe := ptr_eq ⟨b, 0, none⟩ w2
  go_wp2_with fail
  refine (rtail_ok 0 (by decide) (by decide) w2).mono ?_
  rintro e w3 ⟨rfl, hb⟩
  replace X := hide (X.out.below hb)
  replace B := hide (B.out.trans (hb.mono B.out.size))
  clear hb pe
  have b3 := (Below.refl w3.heap.size w3).alloc (Nat.le_refl _) (.cells tl0.cells 29)
  have SN := hide (store_newr w3 tl0)
  have IT0 := IsB.new w3 tl0.cells 29
  have IT : Hid (IsB (w3.alloc (.cells tl0.cells 29)) w3.heap.size tl0.cells 29) := IT0
  replace X := hide (X.out.below b3)
  replace B := hide (B.out.trans (b3.mono B.out.size))
  clear b3 IT0
  go_wp2_with (first | (focus ((with_reducible refine wpList_store_w ?_ 29 (.tmp 3) (.tmp 21) ?_ ?_ ?_ SN.out ?_); rotate_left; rfl; rfl; rfl; rotate_left; rfl)))
  generalize hT : w3.heap.size = TB at *
  replace hT := hide hT
  generalize (w3.alloc (.cells tl0.cells 29)) = w4 at *
  clear SN
  refine (next_any b s0 none s0_ok w4 X.out).mono ?_
  rintro e w5a ⟨rfl, hb⟩
  replace IT := hide (IT.out.below hb)
  replace X := hide (X.out.below hb)
  replace B := hide (B.out.trans (hb.mono B.out.size))
  clear hb
  have b3 := (Below.refl w5a.heap.size w5a).alloc (Nat.le_refl _) (.cells s0.step.toArray 53)
  have SN := hide (store_step w5a s0.step.toArray rfl (by kernel_rfl))
  have I0 := IsB.new w5a s0.step.toArray 53
  have IX := hide I0
  replace IT := hide (IT.out.below b3)
  replace X := hide (X.out.below b3)
  replace B := hide (B.out.trans (b3.mono B.out.size))
  clear b3 I0
  have LT : Hid ((Instr.loadAt 29 (.pointer (some ⟨TB, 0, none⟩))).run Tryd.prog (w5a.alloc (.cells s0.step.toArray 53)) = .ok (.agg #[.int .i64 1, .int .i64 3, .int .u64 0, .int .i64 0, .int .u64 0]) (w5a.alloc (.cells s0.step.toArray 53))) := load_ref IT.out rfl
  go_wp2_with (first | (focus ((with_reducible refine wpList_store_w ?_ 53 (.tmp 5) (.tmp 24) ?_ ?_ ?_ SN.out ?_); rotate_left; rfl; rfl; rfl; rotate_left; rfl)) | (focus ((with_reducible refine wpList_load_w ?_ 29 (.tmp 3) ?_ ?_ LT.out ?_); rotate_left; rfl; rfl; rotate_left; rfl)))
  generalize hXB : w5a.heap.size = XB at *
  replace hXB := hide hXB
  generalize (w5a.alloc (.cells s0.step.toArray 53)) = w5 at *
  clear SN
  clear LT
  have CT := hide (tell_any b s0 none a1 s0_ok w5 X.out)
  rw [aw1] at CT
  refine CT.out.mono ?_
  rintro e w6 ⟨rfl, X6, K6⟩
  have hnT : TB ≠ b := fun e => by obtain ⟨v, J, -⟩ := X.out; exact IsB.ne_t J IT.out (by decide) e.symm
  have hnX : XB ≠ b := fun e => by obtain ⟨v, J, -⟩ := X.out; exact IsB.ne_t J IX.out (by decide) e.symm
  replace IT := hide (IT.out.kp K6 (by simpa using hnT))
  replace IX := hide (IX.out.kp K6 (by simpa using hnX))
  replace B := hide (B.out.trans (K6.to_below (by have := B.out.size; omega) (by simpa using hlb.out)))
  replace X : Hid (SpAt w6 b s1 none) := X6
  clear X6 K6 CT
  go_wp2_with fail
  refine (next_any b s1 none s1_ok w6 X.out).mono ?_
  rintro e w7a ⟨rfl, hb⟩
  replace IT := hide (IT.out.below hb)
  replace IX := hide (IX.out.below hb)
  replace X := hide (X.out.below hb)
  replace B := hide (B.out.trans (hb.mono B.out.size))
  clear hb
  have b3 := (Below.refl w7a.heap.size w7a).alloc (Nat.le_refl _) (.cells s1.step.toArray 53)
  have SN := hide (store_step w7a s1.step.toArray rfl (by kernel_rfl))
  have I0 := IsB.new w7a s1.step.toArray 53
  have IY := hide I0
  replace IT := hide (IT.out.below b3)
  replace IX := hide (IX.out.below b3)
  replace X := hide (X.out.below b3)
  replace B := hide (B.out.trans (b3.mono B.out.size))
  clear b3 I0
  go_wp2_with (first | (focus ((with_reducible refine wpList_store_w ?_ 53 (.tmp 6) (.tmp 30) ?_ ?_ ?_ SN.out ?_); rotate_left; rfl; rfl; rfl; rotate_left; rfl)))
  generalize hYB : w7a.heap.size = YB at *
  replace hYB := hide hYB
  generalize (w7a.alloc (.cells s1.step.toArray 53)) = w7 at *
  clear SN
  have CT := hide (tell_any b s1 none a2 s1_ok w7 X.out)
  rw [aw2] at CT
  refine CT.out.mono ?_
  rintro e w8 ⟨rfl, X6, K6⟩
  have hnY : YB ≠ b := fun e => by obtain ⟨v, J, -⟩ := X.out; exact IsB.ne_t J IY.out (by decide) e.symm
  replace IT := hide (IT.out.kp K6 (by simpa using hnT))
  replace IX := hide (IX.out.kp K6 (by simpa using hnX))
  replace IY := hide (IY.out.kp K6 (by simpa using hnY))
  replace B := hide (B.out.trans (K6.to_below (by have := B.out.size; omega) (by simpa using hlb.out)))
  replace X : Hid (SpAt w8 b s2 none) := X6
  clear X6 K6 CT hnT hnX hnY
  go_wp2_with fail
  refine (next_any b s2 none s2_ok w8 X.out).mono ?_
  rintro e w9a ⟨rfl, hb⟩
  replace IT := hide (IT.out.below hb)
  replace IX := hide (IX.out.below hb)
  replace IY := hide (IY.out.below hb)
  replace X := hide (X.out.below hb)
  replace B := hide (B.out.trans (hb.mono B.out.size))
  clear hb
  have b3 := (Below.refl w9a.heap.size w9a).alloc (Nat.le_refl _) (.cells s2.step.toArray 53)
  have SN := hide (store_step w9a s2.step.toArray rfl (by kernel_rfl))
  have I0 := IsB.new w9a s2.step.toArray 53
  have IZ := hide I0
  replace IT := hide (IT.out.below b3)
  replace IX := hide (IX.out.below b3)
  replace IY := hide (IY.out.below b3)
  replace X := hide (X.out.below b3)
  replace B := hide (B.out.trans (b3.mono B.out.size))
  clear b3 I0
  have x0 : (w9a.alloc (.cells s2.step.toArray 53)).cell? ⟨XB, 0, none⟩ = some (.int .i64 1) := IX.out.cell 0
  have x6 : (w9a.alloc (.cells s2.step.toArray 53)).cell? ⟨XB, 6, none⟩ = some (.int .i64 3) := IX.out.cell 6
  have x1 : (w9a.alloc (.cells s2.step.toArray 53)).cell? ⟨XB, 1, none⟩ = some (.int .i64 0) := IX.out.cell 1
  have y6 : (w9a.alloc (.cells s2.step.toArray 53)).cell? ⟨YB, 6, none⟩ = some (.int .i64 7) := IY.out.cell 6
  have y1 : (w9a.alloc (.cells s2.step.toArray 53)).cell? ⟨YB, 1, none⟩ = some (.int .i64 2) := IY.out.cell 1
  have LY := hide (ld_sref IY.out 14 tl0 rfl)
  have LT := hide (load_ref IT.out rfl)
  have z6 : (w9a.alloc (.cells s2.step.toArray 53)).cell? ⟨w9a.heap.size, 6, none⟩ = some (.int .i64 5) := IZ.out.cell 6
  have z1 : (w9a.alloc (.cells s2.step.toArray 53)).cell? ⟨w9a.heap.size, 1, none⟩ = some (.int .i64 0) := IZ.out.cell 1
  have z9 : (w9a.alloc (.cells s2.step.toArray 53)).cell? ⟨w9a.heap.size, 9, none⟩ = some (.int .i64 2) := IZ.out.cell 9
  have EQ := hide (eqt (w9a.alloc (.cells s2.step.toArray 53)))
  go_wp2_with (first | (focus ((with_reducible refine wpList_store_w ?_ 53 (.tmp 7) (.tmp 35) ?_ ?_ ?_ SN.out ?_); rotate_left; rfl; rfl; rfl; rotate_left; rfl)) | (focus ((with_reducible refine wpList_load_w ?_ 29 (.tmp 65) ?_ ?_ LY.out ?_); rotate_left; rfl; rfl; rotate_left; rfl)) | (focus ((with_reducible refine wpList_load_w ?_ 29 (.tmp 3) ?_ ?_ LT.out ?_); rotate_left; rfl; rfl; rotate_left; rfl)) | (focus ((with_reducible refine wpList_bin_w ?_ .eql 29 (.tmp 66) (.tmp 67) 29 ?_ ?_ ?_ EQ.out ?_); rotate_left; rfl; rfl; rfl; rotate_left; rfl)))
  go_ret
  exact ⟨rfl, B.out⟩

end Go.Proofs.YtofmommoeligoaaDoor
