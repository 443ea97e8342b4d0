/- Package peer: lay, New. -/
import Derived.Test.YtdogdinkopocaaaDoorPG
namespace Go.Proofs.YtdogdinkopocaaaDoor
open Go.RowKit Go.Maps

set_option maxHeartbeats 8000000 in
set_option maxRecDepth 100000 in
theorem lay_ok (i0 i1 i2 i3 i4 : Int) (ba : Option Addr) (bc : Nat) (bl : List Int) (hbl : bl.length ≤ 262144) (hn : ba = none → bc = 0) (w : World) (hr : Rd8 w ba bl) (hR : Ranks w) (hb : 0 ≤ i4) (hE : newE (i0, i1, i2, i3, i4) = 0) : Calls Tryd.prog 16 #[.agg #[.int .i64 i0, .int .i64 i1, .int .u64 i2, .int .i64 i3, .int .u64 i4], .slice ba bl.length bc] w fun e w' => ∃ p lp lm km ca cc, e = .returned (.tuple #[.pointer (some ⟨p, 0, none⟩), .int .i64 0]) ∧ PAt w' w.heap.size p lp lm km ca cc none 0 ⟨(i0, i1, i2, i3, i4), bl, decide (i1 ≠ 2), false, [], [], [], 0⟩ ∧ Below w.heap.size w w' := by
  have mixed : Tryd.prog.follows .mixedOrders = true := by kernel_rfl
  have hmm := @run_makeMap Tryd.prog
  have b1 : Below w.heap.size w (w.alloc (.cells #[.int .i64 i0, .int .i64 i1, .int .u64 i2, .int .i64 i3, .int .u64 i4] 29)) := (Below.refl _ w).alloc (Nat.le_refl _) _
  have V := hide (IsB.new w #[.int .i64 i0, .int .i64 i1, .int .u64 i2, .int .i64 i3, .int .u64 i4] 29)
  have B := hide b1
  have HR := hide (hR.below b1)
  clear b1 hR
  go_enter Tryd.func16, Tryd.ntmps16
  go_wp2_with fail
  generalize w.alloc (.cells #[.int .i64 i0, .int .i64 i1, .int .u64 i2, .int .i64 i3, .int .u64 i4] 29) = W1 at V B HR ⊢
  generalize hH : w.heap.size = H at V ⊢
  replace hH := hide hH
  refine (lnew_ok i0 i1 i2 i3 i4 _ HR.out hb hE).mono ?_; rintro e w2 ⟨lp, lm, rfl, hL, hb2⟩
  have L := hide hL
  clear hL
  have hs1 : w.heap.size ≤ W1.heap.size := B.out.size
  replace V := hide (V.out.below hb2)
  replace B := hide (B.out.trans (hb2.mono B.out.size))
  clear hb2
  go_wp2
  replace V := hide (V.out.below (Below.refl _ w2).drew)
  replace L := hide (L.out.below (Below.refl _ w2).drew)
  replace B := hide (B.out.trans ((Below.refl _ w2).drew.mono B.out.size))
  refine regionL 8 (fun w' => w'.cell? ⟨H, 0, none⟩ = some (.int .i64 i0) ∧ w'.cell? ⟨H, 1, none⟩ = some (.int .i64 i1) ∧ w'.cell? ⟨H, 2, none⟩ = some (.int .u64 i2) ∧ w'.cell? ⟨H, 3, none⟩ = some (.int .i64 i3) ∧ w'.cell? ⟨H, 4, none⟩ = some (.int .u64 i4)) mixed ⟨V.out.cell 0, V.out.cell 1, V.out.cell 2, V.out.cell 3, V.out.cell 4⟩ (fun hHeld => ?_)
  generalize hW3 : w2.drew = W3 at *
  clear hW3
  refine pickL (v := ?_) 0 (some 16) rfl rfl (by kernel_rfl) (by kernel_rfl) (by kernel_rfl) (by decide) (by kernel_rfl) (by kernel_rfl) (fun _ _ _ h => h) (by rfl) ?_ (by assumption) ?_
  rotate_left
  · intro w' hSw
    obtain ⟨q0, q1, q2, q3, q4⟩ := hSw
    go_simp
    try with_reducible rfl
  try simp only [Act.put, List.setIfInBounds_toArray, List.set_cons_zero, List.set_cons_succ]
  refine pickA (v := ?_) 1 (some 17) rfl rfl (by kernel_rfl) (by kernel_rfl) (by kernel_rfl) (by decide) (fun _ _ _ h => h) (by rfl) ?_ (by assumption) ?_
  rotate_left
  · intro w'
    go_simp
    try with_reducible rfl
  try simp only [Act.put, List.setIfInBounds_toArray, List.set_cons_zero, List.set_cons_succ]
  refine pickA (v := ?_) 3 (some 19) rfl rfl (by kernel_rfl) (by kernel_rfl) (by kernel_rfl) (by decide) (fun _ _ _ h => h) (by rfl) ?_ (by assumption) ?_
  rotate_left
  · intro w'
    go_simp
    try with_reducible rfl
  try simp only [Act.put, List.setIfInBounds_toArray, List.set_cons_zero, List.set_cons_succ]
  refine twoL (i := 2) (j := 4) (by kernel_rfl) rfl rfl (fun K hK => ?_) (fun K hK => ?_)
  · go_simp
    refine (bclone_any ba bc bl hbl hn _ (hr.below B.out)).mono ?_; rintro e w4 ⟨ca, cc, rfl, hby, -, -, hb3⟩
    have BY := hide hby
    clear hby
    replace V := hide (V.out.below hb3)
    replace L := hide (L.out.below hb3)
    replace B := hide (B.out.trans (hb3.mono B.out.size))
    clear hb3
    have hS : (fun w' => w'.cell? ⟨H, 0, none⟩ = some (.int .i64 i0) ∧ w'.cell? ⟨H, 1, none⟩ = some (.int .i64 i1) ∧ w'.cell? ⟨H, 2, none⟩ = some (.int .u64 i2) ∧ w'.cell? ⟨H, 3, none⟩ = some (.int .i64 i3) ∧ w'.cell? ⟨H, 4, none⟩ = some (.int .u64 i4)) w4 := ⟨V.out.cell 0, V.out.cell 1, V.out.cell 2, V.out.cell 3, V.out.cell 4⟩
    refine hK.out _ _ ?_ ?_
    · exact hS
    clear hK K
    try simp only [Act.put, List.setIfInBounds_toArray, List.set_cons_zero, List.set_cons_succ]
    clear hHeld
    have hHeld := hS
    clear hS
    refine oneL (i := 4) (by kernel_rfl) rfl (fun K hK => ?_)
    go_simp
    have ba4 := (Below.refl _ w4).alloc (Nat.le_refl _) (.map #[] 0)
    have KM := hide (WMp.made w4)
    have hkm : w.heap.size ≤ w4.heap.size := B.out.size
    have hne : w4.heap.size ≠ lm := fun e => by have := L.out.map.lt; omega
    replace BY := hide (BY.out.below ba4)
    replace V := hide (V.out.below ba4)
    replace L := hide (L.out.below ba4)
    replace B := hide (B.out.trans (ba4.mono B.out.size))
    clear ba4
    have hS : (fun w' => w'.cell? ⟨H, 0, none⟩ = some (.int .i64 i0) ∧ w'.cell? ⟨H, 1, none⟩ = some (.int .i64 i1) ∧ w'.cell? ⟨H, 2, none⟩ = some (.int .u64 i2) ∧ w'.cell? ⟨H, 3, none⟩ = some (.int .i64 i3) ∧ w'.cell? ⟨H, 4, none⟩ = some (.int .u64 i4)) (w4.alloc (.map #[] 0)) := ⟨V.out.cell 0, V.out.cell 1, V.out.cell 2, V.out.cell 3, V.out.cell 4⟩
    refine hK.out _ _ ?_ ?_
    · exact hS
    clear hK K
    try simp only [Act.put, List.setIfInBounds_toArray, List.set_cons_zero, List.set_cons_succ]
    clear hHeld
    have hHeld := hS
    clear hS
    generalize w4.alloc (.map #[] 0) = W5 at V L B BY KM hHeld ⊢
    generalize w4.heap.size = km at KM hkm hne ⊢
    refine pickA (v := ?_) 5 (some 21) rfl rfl (by kernel_rfl) (by kernel_rfl) (by kernel_rfl) (by decide) (fun _ _ _ h => h) (by rfl) ?_ (by assumption) ?_
    rotate_left
    · intro w'
      go_simp
      try with_reducible rfl
    try simp only [Act.put, List.setIfInBounds_toArray, List.set_cons_zero, List.set_cons_succ]
    refine oneL (i := 6) (by kernel_rfl) rfl (fun K hK => ?_)
    go_simp
    have ba6 := (Below.refl _ W5).alloc (Nat.le_refl _) (.cells #[.int .i64 i0, .int .i64 i1, .int .u64 i2, .int .i64 i3, .int .u64 i4, .slice ca bl.length cc, .bool false, .bool false, .pointer (some ⟨lp, 0, none⟩), .map (some km), .slice none 0 0, .int .i64 0] 78)
    have P := hide (IsB.new W5 #[.int .i64 i0, .int .i64 i1, .int .u64 i2, .int .i64 i3, .int .u64 i4, .slice ca bl.length cc, .bool false, .bool false, .pointer (some ⟨lp, 0, none⟩), .map (some km), .slice none 0 0, .int .i64 0] 78)
    have hps : w.heap.size ≤ W5.heap.size := B.out.size
    replace BY := hide (BY.out.below ba6)
    replace KM := hide (KM.out.below ba6)
    replace V := hide (V.out.below ba6)
    replace L := hide (L.out.below ba6)
    replace B := hide (B.out.trans (ba6.mono B.out.size))
    clear ba6
    have hS : (fun w' => w'.cell? ⟨H, 0, none⟩ = some (.int .i64 i0) ∧ w'.cell? ⟨H, 1, none⟩ = some (.int .i64 i1) ∧ w'.cell? ⟨H, 2, none⟩ = some (.int .u64 i2) ∧ w'.cell? ⟨H, 3, none⟩ = some (.int .i64 i3) ∧ w'.cell? ⟨H, 4, none⟩ = some (.int .u64 i4)) (W5.alloc (.cells #[.int .i64 i0, .int .i64 i1, .int .u64 i2, .int .i64 i3, .int .u64 i4, .slice ca bl.length cc, .bool false, .bool false, .pointer (some ⟨lp, 0, none⟩), .map (some km), .slice none 0 0, .int .i64 0] 78)) := ⟨V.out.cell 0, V.out.cell 1, V.out.cell 2, V.out.cell 3, V.out.cell 4⟩
    refine hK.out _ _ ?_ ?_
    · exact hS
    clear hK K
    try simp only [Act.put, List.setIfInBounds_toArray, List.set_cons_zero, List.set_cons_succ]
    clear hHeld
    have hHeld := hS
    clear hS
    generalize W5.alloc (.cells #[.int .i64 i0, .int .i64 i1, .int .u64 i2, .int .i64 i3, .int .u64 i4, .slice ca bl.length cc, .bool false, .bool false, .pointer (some ⟨lp, 0, none⟩), .map (some km), .slice none 0 0, .int .i64 0] 78) = W6 at V L B BY KM P hHeld ⊢
    generalize W5.heap.size = p at P hps ⊢
    refine pickA (v := ?_) 7 (some 8) rfl rfl (by kernel_rfl) (by kernel_rfl) (by kernel_rfl) (by decide) (fun _ _ _ h => h) (by rfl) ?_ (by assumption) ?_
    rotate_left
    · intro w'
      go_simp
      try with_reducible rfl
    try simp only [Act.put, List.setIfInBounds_toArray, List.set_cons_zero, List.set_cons_succ]
    refine doneL (by kernel_rfl) ?_ _
    clear hHeld
    have z6 := P.out.free 6
    have c6 := P.out.cell 6
    simp at c6
    have fl := P.out.lt
    go_wp2_with fail
    refine (pisEnd_any p _ _ _ _ _ _ _ _ _ _ _ i1 _ P.out).mono ?_; intro e w7 hE7; obtain ⟨rfl, hw7⟩ := hE7
    rw [hw7]
    clear hw7
    generalize hjn : decide (i1 ≠ 2) = jn
    replace hjn := hide hjn
    go_wp2
    go_ret2
    have X : PAt (W6) w.heap.size p lp lm km ca cc none 0 ⟨(i0, i1, i2, i3, i4), bl, false, false, [], [], [], 0⟩ := ⟨P.out, BY.out, ⟨L.out.blk, L.out.map, L.out.recs, L.out.ap, L.out.al, by have := L.out.lo; omega, by have := L.out.lo; omega, by simp⟩, KM.out, ⟨rfl, Or.inl ⟨rfl, rfl⟩⟩, hne, hps, hkm, by simp [Value.ownBlock]⟩
    have hk : Kp [p] W6 (W6.setCell ⟨p, 6, none⟩ (.bool jn)) := (Kp.refl _ W6).set _ _ (Or.inl (by simp))
    obtain ⟨g1, g2, g3, g4, g5, g6⟩ := X.own hk
    have hbk := P.out.set 6 (.bool jn)
    simp at hbk
    skip
    refine ⟨p, lp, lm, km, ca, cc, rfl, ⟨?_, g1, g2, g3, g4, hne, X.lo⟩, (B.out).trans (g6 B.out.size)⟩
    rw [hjn.out]
    exact hbk
  · go_simp
    have ba4 := (Below.refl _ W3).alloc (Nat.le_refl _) (.map #[] 0)
    have KM := hide (WMp.made W3)
    have hkm : w.heap.size ≤ W3.heap.size := B.out.size
    have hne : W3.heap.size ≠ lm := fun e => by have := L.out.map.lt; omega
    replace V := hide (V.out.below ba4)
    replace L := hide (L.out.below ba4)
    replace B := hide (B.out.trans (ba4.mono B.out.size))
    clear ba4
    have hS : (fun w' => w'.cell? ⟨H, 0, none⟩ = some (.int .i64 i0) ∧ w'.cell? ⟨H, 1, none⟩ = some (.int .i64 i1) ∧ w'.cell? ⟨H, 2, none⟩ = some (.int .u64 i2) ∧ w'.cell? ⟨H, 3, none⟩ = some (.int .i64 i3) ∧ w'.cell? ⟨H, 4, none⟩ = some (.int .u64 i4)) (W3.alloc (.map #[] 0)) := ⟨V.out.cell 0, V.out.cell 1, V.out.cell 2, V.out.cell 3, V.out.cell 4⟩
    refine hK.out _ _ ?_ ?_
    · exact hS
    clear hK K
    try simp only [Act.put, List.setIfInBounds_toArray, List.set_cons_zero, List.set_cons_succ]
    clear hHeld
    have hHeld := hS
    clear hS
    generalize W3.alloc (.map #[] 0) = W5 at V L B KM hHeld ⊢
    generalize W3.heap.size = km at KM hkm hne ⊢
    refine oneL (i := 2) (by kernel_rfl) rfl (fun K hK => ?_)
    go_simp
    refine (bclone_any ba bc bl hbl hn _ (hr.below B.out)).mono ?_; rintro e w4 ⟨ca, cc, rfl, hby, -, -, hb3⟩
    have BY := hide hby
    clear hby
    replace KM := hide (KM.out.below hb3)
    replace V := hide (V.out.below hb3)
    replace L := hide (L.out.below hb3)
    replace B := hide (B.out.trans (hb3.mono B.out.size))
    clear hb3
    have hS : (fun w' => w'.cell? ⟨H, 0, none⟩ = some (.int .i64 i0) ∧ w'.cell? ⟨H, 1, none⟩ = some (.int .i64 i1) ∧ w'.cell? ⟨H, 2, none⟩ = some (.int .u64 i2) ∧ w'.cell? ⟨H, 3, none⟩ = some (.int .i64 i3) ∧ w'.cell? ⟨H, 4, none⟩ = some (.int .u64 i4)) w4 := ⟨V.out.cell 0, V.out.cell 1, V.out.cell 2, V.out.cell 3, V.out.cell 4⟩
    refine hK.out _ _ ?_ ?_
    · exact hS
    clear hK K
    try simp only [Act.put, List.setIfInBounds_toArray, List.set_cons_zero, List.set_cons_succ]
    clear hHeld
    have hHeld := hS
    clear hS
    generalize w4 = W5 at *
    refine pickA (v := ?_) 5 (some 21) rfl rfl (by kernel_rfl) (by kernel_rfl) (by kernel_rfl) (by decide) (fun _ _ _ h => h) (by rfl) ?_ (by assumption) ?_
    rotate_left
    · intro w'
      go_simp
      try with_reducible rfl
    try simp only [Act.put, List.setIfInBounds_toArray, List.set_cons_zero, List.set_cons_succ]
    refine oneL (i := 6) (by kernel_rfl) rfl (fun K hK => ?_)
    go_simp
    have ba6 := (Below.refl _ W5).alloc (Nat.le_refl _) (.cells #[.int .i64 i0, .int .i64 i1, .int .u64 i2, .int .i64 i3, .int .u64 i4, .slice ca bl.length cc, .bool false, .bool false, .pointer (some ⟨lp, 0, none⟩), .map (some km), .slice none 0 0, .int .i64 0] 78)
    have P := hide (IsB.new W5 #[.int .i64 i0, .int .i64 i1, .int .u64 i2, .int .i64 i3, .int .u64 i4, .slice ca bl.length cc, .bool false, .bool false, .pointer (some ⟨lp, 0, none⟩), .map (some km), .slice none 0 0, .int .i64 0] 78)
    have hps : w.heap.size ≤ W5.heap.size := B.out.size
    replace BY := hide (BY.out.below ba6)
    replace KM := hide (KM.out.below ba6)
    replace V := hide (V.out.below ba6)
    replace L := hide (L.out.below ba6)
    replace B := hide (B.out.trans (ba6.mono B.out.size))
    clear ba6
    have hS : (fun w' => w'.cell? ⟨H, 0, none⟩ = some (.int .i64 i0) ∧ w'.cell? ⟨H, 1, none⟩ = some (.int .i64 i1) ∧ w'.cell? ⟨H, 2, none⟩ = some (.int .u64 i2) ∧ w'.cell? ⟨H, 3, none⟩ = some (.int .i64 i3) ∧ w'.cell? ⟨H, 4, none⟩ = some (.int .u64 i4)) (W5.alloc (.cells #[.int .i64 i0, .int .i64 i1, .int .u64 i2, .int .i64 i3, .int .u64 i4, .slice ca bl.length cc, .bool false, .bool false, .pointer (some ⟨lp, 0, none⟩), .map (some km), .slice none 0 0, .int .i64 0] 78)) := ⟨V.out.cell 0, V.out.cell 1, V.out.cell 2, V.out.cell 3, V.out.cell 4⟩
    refine hK.out _ _ ?_ ?_
    · exact hS
    clear hK K
    try simp only [Act.put, List.setIfInBounds_toArray, List.set_cons_zero, List.set_cons_succ]
    clear hHeld
    have hHeld := hS
    clear hS
    generalize W5.alloc (.cells #[.int .i64 i0, .int .i64 i1, .int .u64 i2, .int .i64 i3, .int .u64 i4, .slice ca bl.length cc, .bool false, .bool false, .pointer (some ⟨lp, 0, none⟩), .map (some km), .slice none 0 0, .int .i64 0] 78) = W6 at V L B BY KM P hHeld ⊢
    generalize W5.heap.size = p at P hps ⊢
    refine pickA (v := ?_) 7 (some 8) rfl rfl (by kernel_rfl) (by kernel_rfl) (by kernel_rfl) (by decide) (fun _ _ _ h => h) (by rfl) ?_ (by assumption) ?_
    rotate_left
    · intro w'
      go_simp
      try with_reducible rfl
    try simp only [Act.put, List.setIfInBounds_toArray, List.set_cons_zero, List.set_cons_succ]
    refine doneL (by kernel_rfl) ?_ _
    clear hHeld
    have z6 := P.out.free 6
    have c6 := P.out.cell 6
    simp at c6
    have fl := P.out.lt
    go_wp2_with fail
    refine (pisEnd_any p _ _ _ _ _ _ _ _ _ _ _ i1 _ P.out).mono ?_; intro e w7 hE7; obtain ⟨rfl, hw7⟩ := hE7
    rw [hw7]
    clear hw7
    generalize hjn : decide (i1 ≠ 2) = jn
    replace hjn := hide hjn
    go_wp2
    go_ret2
    have X : PAt (W6) w.heap.size p lp lm km ca cc none 0 ⟨(i0, i1, i2, i3, i4), bl, false, false, [], [], [], 0⟩ := ⟨P.out, BY.out, ⟨L.out.blk, L.out.map, L.out.recs, L.out.ap, L.out.al, by have := L.out.lo; omega, by have := L.out.lo; omega, by simp⟩, KM.out, ⟨rfl, Or.inl ⟨rfl, rfl⟩⟩, hne, hps, hkm, by simp [Value.ownBlock]⟩
    have hk : Kp [p] W6 (W6.setCell ⟨p, 6, none⟩ (.bool jn)) := (Kp.refl _ W6).set _ _ (Or.inl (by simp))
    obtain ⟨g1, g2, g3, g4, g5, g6⟩ := X.own hk
    have hbk := P.out.set 6 (.bool jn)
    simp at hbk
    skip
    refine ⟨p, lp, lm, km, ca, cc, rfl, ⟨?_, g1, g2, g3, g4, hne, X.lo⟩, (B.out).trans (g6 B.out.size)⟩
    rw [hjn.out]
    exact hbk

set_option maxHeartbeats 4000000 in
set_option maxRecDepth 100000 in
theorem lay_bad (i0 i1 i2 i3 i4 : Int) (bv : Value) (w : World) (hR : Ranks w) (hb : 0 ≤ i4) (hE : newE (i0, i1, i2, i3, i4) ≠ 0) : Calls Tryd.prog 16 #[.agg #[.int .i64 i0, .int .i64 i1, .int .u64 i2, .int .i64 i3, .int .u64 i4], bv] w fun e w' => e = .returned (.tuple #[.pointer none, .int .i64 90]) ∧ Below w.heap.size w w' := by
  have b1 : Below w.heap.size w (w.alloc (.cells #[.int .i64 i0, .int .i64 i1, .int .u64 i2, .int .i64 i3, .int .u64 i4] 29)) := (Below.refl _ w).alloc (Nat.le_refl _) _
  have V := hide (IsB.new w #[.int .i64 i0, .int .i64 i1, .int .u64 i2, .int .i64 i3, .int .u64 i4] 29)
  have B := hide b1
  have HR := hide (hR.below b1)
  clear b1 hR
  go_enter Tryd.func16, Tryd.ntmps16
  go_wp2_with fail
  generalize w.alloc (.cells #[.int .i64 i0, .int .i64 i1, .int .u64 i2, .int .i64 i3, .int .u64 i4] 29) = W1 at V B HR ⊢
  generalize hH : w.heap.size = H at V ⊢
  replace hH := hide hH
  refine (lnew_bad i0 i1 i2 i3 i4 _ HR.out hb hE).mono ?_; rintro e w2 ⟨rfl, hb2⟩
  have hs1 : w.heap.size ≤ W1.heap.size := B.out.size
  replace V := hide (V.out.below hb2)
  replace B := hide (B.out.trans (hb2.mono B.out.size))
  clear hb2
  go_wp2
  go_ret2
  exact ⟨rfl, B.out⟩

set_option maxHeartbeats 8000000 in
set_option maxRecDepth 100000 in
theorem pnew_ok (i0 i2 i3 i4 : Int) (ba : Option Addr) (bc : Nat) (bl : List Int) (hbl : bl.length ≤ 262144) (hn : ba = none → bc = 0) (w : World) (hr : Rd8 w ba bl) (hR : Ranks w) (hb : 0 ≤ i4) (hE : newE (i0, 2, i2, i3, i4) = 0) (h2 : 2 ≤ i0) (h3 : i0 < 1024) (h4 : bl.length ≤ 1024) : Calls Tryd.prog 13 #[.agg #[.int .i64 i0, .int .i64 2, .int .u64 i2, .int .i64 i3, .int .u64 i4], .slice ba bl.length bc] w fun e w' => ∃ p lp lm km ca cc, e = .returned (.tuple #[.pointer (some ⟨p, 0, none⟩), .int .i64 0]) ∧ PAt w' w.heap.size p lp lm km ca cc none 0 ⟨(i0, 2, i2, i3, i4), bl, false, false, [], [], [], 0⟩ ∧ Below w.heap.size w w' := by
  have b1 : Below w.heap.size w (w.alloc (.cells #[.int .i64 i0, .int .i64 2, .int .u64 i2, .int .i64 i3, .int .u64 i4] 29)) := (Below.refl _ w).alloc (Nat.le_refl _) _
  have V := hide (IsB.new w #[.int .i64 i0, .int .i64 2, .int .u64 i2, .int .i64 i3, .int .u64 i4] 29)
  have B := hide b1
  have HR := hide (hR.below b1)
  clear b1 hR
  have hLE := hide hE
  have e2 : decide (i0 < 2) = false := decide_eq_false (by omega)
  have e3 : decide (1024 ≤ i0) = false := decide_eq_false (by omega)
  have e4 : decide ((1024 : Int) < (bl.length : Int)) = false := decide_eq_false (by omega)
  generalize hbn : bl.length = bn at e4 ⊢
  replace hbn := hide hbn
  go_enter Tryd.func13, Tryd.ntmps13
  go_wp2_with fail
  rw [← hbn.out]
  generalize w.alloc (.cells #[.int .i64 i0, .int .i64 2, .int .u64 i2, .int .i64 i3, .int .u64 i4] 29) = W1 at V B HR ⊢
  refine (lay_ok i0 2 i2 i3 i4 ba bc bl (by omega) hn _ (hr.below B.out) HR.out hb hLE.out).mono ?_; rintro e w2 ⟨p, lp, lm, km, ca, cc, rfl, hX, hb2⟩
  have X := hide hX
  have hs1 : w.heap.size ≤ W1.heap.size := B.out.size
  replace B := hide (B.out.trans (hb2.mono B.out.size))
  clear hb2 hX
  go_wp2
  go_ret2
  have hX := X.out
  refine ⟨p, lp, lm, km, ca, cc, rfl, ⟨hX.blk, hX.by_, ⟨hX.lk.blk, hX.lk.map, hX.lk.recs, hX.lk.ap, hX.lk.al, Nat.le_trans hs1 hX.lk.lo.1, Nat.le_trans hs1 hX.lk.lo.2.1, fun e he => ⟨Nat.le_trans hs1 (hX.lk.lo.2.2 e he).1, Nat.le_trans hs1 (hX.lk.lo.2.2 e he).2⟩⟩, hX.kmap, hX.row, hX.ne, Nat.le_trans hs1 hX.lo.1, Nat.le_trans hs1 hX.lo.2.1, fun k hk => Nat.le_trans hs1 (hX.lo.2.2 k hk)⟩, B.out⟩

end Go.Proofs.YtdogdinkopocaaaDoor
