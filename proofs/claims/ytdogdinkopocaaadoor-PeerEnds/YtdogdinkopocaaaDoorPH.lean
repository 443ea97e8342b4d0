/- Package peer: record. -/
import Derived.Test.YtdogdinkopocaaaDoorPG
namespace Go.Proofs.YtdogdinkopocaaaDoor
open Go.RowKit Go.Maps

set_option maxHeartbeats 8000000 in
set_option maxRecDepth 100000 in
theorem rec_some (base p lp lm km : Nat) (va : Option Addr) (vc : Nat) (ma : Option Addr) (mc : Nat) (s : PS) (w : World) (h : PAt w base p lp lm km va vc ma mc s) (hB : base ≤ w.heap.size) (x y : Int) (hv : okV (x, y)) (hm : okMe s.me) (hy : 0 ≤ y) (os : List Ow) (x0 x1 x2 x3 x4 y0 y1 y2 y3 y4 : Int) (ho : findC s.me s.L (x, y) = some (os, (x0, x1, x2, x3, x4), (y0, y1, y2, y3, y4))) (ba : Option Addr) (bc : Nat) (bl : List Int) (hbl : bl.length ≤ 262144) (hn : ba = none → bc = 0) (hr : Rd8 w ba bl) : Calls Tryd.prog 31 #[.pointer (some ⟨p, 0, none⟩), .agg #[.int .i64 x, .int .u64 y], .slice ba bl.length bc] w fun e w' => ∃ ca cc, e = .returned (.agg #[.int .i64 1, .bool s.mr, .int .i64 x0, .int .i64 x1, .int .u64 x2, .int .i64 x3, .int .u64 x4, .int .i64 y0, .int .i64 y1, .int .u64 y2, .int .i64 y3, .int .u64 y4, .slice ca bl.length cc]) ∧ By w' ca cc bl ∧ Below w.heap.size w w' := by
  have mixed : Tryd.prog.follows .mixedOrders = true := by kernel_rfl
  have b2 : Below w.heap.size w ((w.alloc (.cells #[.int .i64 x, .int .u64 y] 27)).alloc (.cells #[.int .i64 0, .bool false, .int .i64 0, .int .i64 0, .int .u64 0, .int .i64 0, .int .u64 0, .int .i64 0, .int .i64 0, .int .u64 0, .int .i64 0, .int .u64 0, .slice none 0 0] 61)) := ((Below.refl _ w).alloc (Nat.le_refl _) _).alloc (by simp) _
  have P := hide (h.blk.below b2)
  have V := hide ((IsB.new w #[.int .i64 x, .int .u64 y] 27).alloc (.cells #[.int .i64 0, .bool false, .int .i64 0, .int .i64 0, .int .u64 0, .int .i64 0, .int .u64 0, .int .i64 0, .int .i64 0, .int .u64 0, .int .i64 0, .int .u64 0, .slice none 0 0] 61))
  have A0 := IsB.new (w.alloc (.cells #[.int .i64 x, .int .u64 y] 27)) #[.int .i64 0, .bool false, .int .i64 0, .int .i64 0, .int .u64 0, .int .i64 0, .int .u64 0, .int .i64 0, .int .i64 0, .int .u64 0, .int .i64 0, .int .u64 0, .slice none 0 0] 61
  simp only [World.size_alloc] at A0
  have A := hide A0
  have B := hide b2
  have h0 := hide h
  clear h b2 A0
  have ho := hide ho
  go_enter Tryd.func31, Tryd.ntmps31
  go_wp2_with fail
  generalize (w.alloc (.cells #[.int .i64 x, .int .u64 y] 27)).alloc (.cells #[.int .i64 0, .bool false, .int .i64 0, .int .i64 0, .int .u64 0, .int .i64 0, .int .u64 0, .int .i64 0, .int .i64 0, .int .u64 0, .int .i64 0, .int .u64 0, .slice none 0 0] 61) = W1 at P V A B ⊢
  generalize hH : w.heap.size = H at V A ⊢
  replace hH := hide hH
  replace P := hide (P.out.below (Below.refl _ W1).drew)
  replace V := hide (V.out.below (Below.refl _ W1).drew)
  replace A := hide (A.out.below (Below.refl _ W1).drew)
  replace B := hide (B.out.trans ((Below.refl _ W1).drew.mono B.out.size))
  refine regionL 12 (fun w' => w'.cell? ⟨p, 8, none⟩ = some (.pointer (some ⟨lp, 0, none⟩)) ∧ w'.cell? ⟨H, 0, none⟩ = some (.int .i64 x) ∧ w'.cell? ⟨H, 1, none⟩ = some (.int .u64 y)) mixed ⟨P.out.cell 8, V.out.cell 0, V.out.cell 1⟩ (fun hHeld => ?_)
  generalize hW2 : W1.drew = W2 at *
  clear hW2
  refine pickA (v := ?_) 0 (some 10) rfl rfl (by kernel_rfl) (by kernel_rfl) (by kernel_rfl) (by decide) (fun _ _ _ h => h) (by rfl) ?_ (by assumption) ?_
  rotate_left
  · intro w'
    go_simp
    try with_reducible rfl
  try simp only [Act.put, List.setIfInBounds_toArray, List.set_cons_zero, List.set_cons_succ]
  refine pickA (v := ?_) 1 (some 11) rfl rfl (by kernel_rfl) (by kernel_rfl) (by kernel_rfl) (by decide) (fun _ _ _ h => h) (by rfl) ?_ (by assumption) ?_
  rotate_left
  · intro w'
    go_simp
    try with_reducible rfl
  try simp only [Act.put, List.setIfInBounds_toArray, List.set_cons_zero, List.set_cons_succ]
  refine pickA (v := ?_) 2 (some 12) rfl rfl (by kernel_rfl) (by kernel_rfl) (by kernel_rfl) (by decide) (fun _ _ _ h => h) (by rfl) ?_ (by assumption) ?_
  rotate_left
  · intro w'
    go_simp
    try with_reducible rfl
  try simp only [Act.put, List.setIfInBounds_toArray, List.set_cons_zero, List.set_cons_succ]
  refine pickL (v := ?_) 3 (some 13) rfl rfl (by kernel_rfl) (by kernel_rfl) (by kernel_rfl) (by decide) (by kernel_rfl) (by kernel_rfl) (fun _ _ _ h => h) (by rfl) ?_ (by assumption) ?_
  rotate_left
  · intro w' hSw
    obtain ⟨q0, q1, q2⟩ := hSw
    go_simp
    try with_reducible rfl
  try simp only [Act.put, List.setIfInBounds_toArray, List.set_cons_zero, List.set_cons_succ]
  refine pickL (v := ?_) 4 (some 14) rfl rfl (by kernel_rfl) (by kernel_rfl) (by kernel_rfl) (by decide) (by kernel_rfl) (by kernel_rfl) (fun _ _ _ h => h) (by rfl) ?_ (by assumption) ?_
  rotate_left
  · intro w' hSw
    obtain ⟨q0, q1, q2⟩ := hSw
    go_simp
    try with_reducible rfl
  try simp only [Act.put, List.setIfInBounds_toArray, List.set_cons_zero, List.set_cons_succ]
  refine twoL (i := 5) (j := 9) (by kernel_rfl) rfl rfl (fun K hK => ?_) (fun K hK => ?_)
  · go_simp
    refine (get_some base lp lm s.me s.L _ (h0.out.lk.below B.out) (Nat.le_trans hB B.out.size) x y hv hm hy _ ho.out).mono ?_; rintro e w3 ⟨ga, rfl, hst, -, hb⟩
    obtain ⟨q, hq1, hq2⟩ := hst
    simp only [stA] at hq1
    have hq3 : Sl w3 q os.tail := hq2
    obtain ⟨qa, qc, hqs, -, -⟩ := hq3.shape
    clear hq3
    generalize os.tail.length = qn at hqs
    generalize decide (0 < os.length) = hb0 at hq1
    generalize (hd os).1 = h1 at hq1
    generalize (hd os).2 = h2 at hq1
    subst hqs
    subst hq1
    clear hq2
    replace P := hide (P.out.below hb)
    replace V := hide (V.out.below hb)
    replace A := hide (A.out.below hb)
    replace B := hide (B.out.trans (hb.mono B.out.size))
    clear hb
    have hS : (fun w' => w'.cell? ⟨p, 8, none⟩ = some (.pointer (some ⟨lp, 0, none⟩)) ∧ w'.cell? ⟨H, 0, none⟩ = some (.int .i64 x) ∧ w'.cell? ⟨H, 1, none⟩ = some (.int .u64 y)) w3 := ⟨P.out.cell 8, V.out.cell 0, V.out.cell 1⟩
    refine hK.out _ _ ?_ ?_
    · exact hS
    clear hK K
    try simp only [Act.put, List.setIfInBounds_toArray, List.set_cons_zero, List.set_cons_succ]
    clear hHeld
    have hHeld := hS
    clear hS
    refine pickA (v := ?_) 6 (some 9) rfl rfl (by kernel_rfl) (by kernel_rfl) (by kernel_rfl) (by decide) (fun _ _ _ h => h) (by rfl) ?_ (by assumption) ?_
    rotate_left
    · intro w'
      go_simp
      try with_reducible rfl
    try simp only [Act.put, List.setIfInBounds_toArray, List.set_cons_zero, List.set_cons_succ]
    refine pickA (v := ?_) 7 (some 16) rfl rfl (by kernel_rfl) (by kernel_rfl) (by kernel_rfl) (by decide) (fun _ _ _ h => h) (by rfl) ?_ (by assumption) ?_
    rotate_left
    · intro w'
      go_simp
      try with_reducible rfl
    try simp only [Act.put, List.setIfInBounds_toArray, List.set_cons_zero, List.set_cons_succ]
    refine pickA (v := ?_) 8 (some 17) rfl rfl (by kernel_rfl) (by kernel_rfl) (by kernel_rfl) (by decide) (fun _ _ _ h => h) (by rfl) ?_ (by assumption) ?_
    rotate_left
    · intro w'
      go_simp
      try with_reducible rfl
    try simp only [Act.put, List.setIfInBounds_toArray, List.set_cons_zero, List.set_cons_succ]
    refine oneL (i := 9) (by kernel_rfl) rfl (fun K hK => ?_)
    go_simp
    have ba := (Below.refl _ w3).alloc (Nat.le_refl _) (.cells #[.int .i64 0, .int .u64 0, .int .i64 0, .int .i64 0, .int .u64 0, .int .i64 0, .int .u64 0, .int .i64 0, .int .i64 0, .int .u64 0, .int .i64 0, .int .u64 0, .bool false, .int .i64 0, .int .i64 0, .slice none 0 0] 107)
    have G := hide (IsB.new w3 #[.int .i64 0, .int .u64 0, .int .i64 0, .int .i64 0, .int .u64 0, .int .i64 0, .int .u64 0, .int .i64 0, .int .i64 0, .int .u64 0, .int .i64 0, .int .u64 0, .bool false, .int .i64 0, .int .i64 0, .slice none 0 0] 107)
    have hGs : w.heap.size ≤ w3.heap.size := B.out.size
    have hAG : H + 1 < w3.heap.size := A.out.lt
    replace P := hide (P.out.below ba)
    replace V := hide (V.out.below ba)
    replace A := hide (A.out.below ba)
    replace B := hide (B.out.trans (ba.mono B.out.size))
    clear ba
    have hS : (fun w' => w'.cell? ⟨p, 8, none⟩ = some (.pointer (some ⟨lp, 0, none⟩)) ∧ w'.cell? ⟨H, 0, none⟩ = some (.int .i64 x) ∧ w'.cell? ⟨H, 1, none⟩ = some (.int .u64 y)) (w3.alloc (.cells #[.int .i64 0, .int .u64 0, .int .i64 0, .int .i64 0, .int .u64 0, .int .i64 0, .int .u64 0, .int .i64 0, .int .i64 0, .int .u64 0, .int .i64 0, .int .u64 0, .bool false, .int .i64 0, .int .i64 0, .slice none 0 0] 107)) := ⟨P.out.cell 8, V.out.cell 0, V.out.cell 1⟩
    refine hK.out _ _ ?_ ?_
    · exact hS
    clear hK K
    try simp only [Act.put, List.setIfInBounds_toArray, List.set_cons_zero, List.set_cons_succ]
    clear hHeld
    have hHeld := hS
    clear hS
    generalize w3.alloc (.cells #[.int .i64 0, .int .u64 0, .int .i64 0, .int .i64 0, .int .u64 0, .int .i64 0, .int .u64 0, .int .i64 0, .int .i64 0, .int .u64 0, .int .i64 0, .int .u64 0, .bool false, .int .i64 0, .int .i64 0, .slice none 0 0] 107) = W6 at P V A B G hHeld ⊢
    generalize w3.heap.size = g at G hGs hAG ⊢
    have z0 : W6.frozen? ⟨g, 0, none⟩ = false := G.out.free 0
    have c0 : W6.cell? ⟨g, 0, none⟩ = some (.int .i64 0) := G.out.cell 0
    have z1 : W6.frozen? ⟨g, 1, none⟩ = false := G.out.free 1
    have c1 : W6.cell? ⟨g, 1, none⟩ = some (.int .u64 0) := G.out.cell 1
    have z2 : W6.frozen? ⟨g, 2, none⟩ = false := G.out.free 2
    have c2 : W6.cell? ⟨g, 2, none⟩ = some (.int .i64 0) := G.out.cell 2
    have z3 : W6.frozen? ⟨g, 3, none⟩ = false := G.out.free 3
    have c3 : W6.cell? ⟨g, 3, none⟩ = some (.int .i64 0) := G.out.cell 3
    have z4 : W6.frozen? ⟨g, 4, none⟩ = false := G.out.free 4
    have c4 : W6.cell? ⟨g, 4, none⟩ = some (.int .u64 0) := G.out.cell 4
    have z5 : W6.frozen? ⟨g, 5, none⟩ = false := G.out.free 5
    have c5 : W6.cell? ⟨g, 5, none⟩ = some (.int .i64 0) := G.out.cell 5
    have z6 : W6.frozen? ⟨g, 6, none⟩ = false := G.out.free 6
    have c6 : W6.cell? ⟨g, 6, none⟩ = some (.int .u64 0) := G.out.cell 6
    have z7 : W6.frozen? ⟨g, 7, none⟩ = false := G.out.free 7
    have c7 : W6.cell? ⟨g, 7, none⟩ = some (.int .i64 0) := G.out.cell 7
    have z8 : W6.frozen? ⟨g, 8, none⟩ = false := G.out.free 8
    have c8 : W6.cell? ⟨g, 8, none⟩ = some (.int .i64 0) := G.out.cell 8
    have z9 : W6.frozen? ⟨g, 9, none⟩ = false := G.out.free 9
    have c9 : W6.cell? ⟨g, 9, none⟩ = some (.int .u64 0) := G.out.cell 9
    have z10 : W6.frozen? ⟨g, 10, none⟩ = false := G.out.free 10
    have c10 : W6.cell? ⟨g, 10, none⟩ = some (.int .i64 0) := G.out.cell 10
    have z11 : W6.frozen? ⟨g, 11, none⟩ = false := G.out.free 11
    have c11 : W6.cell? ⟨g, 11, none⟩ = some (.int .u64 0) := G.out.cell 11
    have z12 : W6.frozen? ⟨g, 12, none⟩ = false := G.out.free 12
    have c12 : W6.cell? ⟨g, 12, none⟩ = some (.bool false) := G.out.cell 12
    have z13 : W6.frozen? ⟨g, 13, none⟩ = false := G.out.free 13
    have c13 : W6.cell? ⟨g, 13, none⟩ = some (.int .i64 0) := G.out.cell 13
    have z14 : W6.frozen? ⟨g, 14, none⟩ = false := G.out.free 14
    have c14 : W6.cell? ⟨g, 14, none⟩ = some (.int .i64 0) := G.out.cell 14
    have z15 : W6.frozen? ⟨g, 15, none⟩ = false := G.out.free 15
    have c15 : W6.cell? ⟨g, 15, none⟩ = some (.slice none 0 0) := G.out.cell 15
    have fl := G.out.lt
    refine oneL (i := 10) (by kernel_rfl) rfl (fun K hK => ?_)
    go_simp
    clear z0 c0 z1 c1 z2 c2 z3 c3 z4 c4 z5 c5 z6 c6 z7 c7 z8 c8 z9 c9 z10 c10 z11 c11 z12 c12 z13 c13 z14 c14 z15 c15
    have hW : ((((((((((((((((W6.setCell ⟨g, 0, none⟩ (.int .i64 x)).setCell ⟨g, 1, none⟩ (.int .u64 y)).setCell ⟨g, 2, none⟩ (.int .i64 x0)).setCell ⟨g, 3, none⟩ (.int .i64 x1)).setCell ⟨g, 4, none⟩ (.int .u64 x2)).setCell ⟨g, 5, none⟩ (.int .i64 x3)).setCell ⟨g, 6, none⟩ (.int .u64 x4)).setCell ⟨g, 7, none⟩ (.int .i64 y0)).setCell ⟨g, 8, none⟩ (.int .i64 y1)).setCell ⟨g, 9, none⟩ (.int .u64 y2)).setCell ⟨g, 10, none⟩ (.int .i64 y3)).setCell ⟨g, 11, none⟩ (.int .u64 y4)).setCell ⟨g, 12, none⟩ (.bool hb0)).setCell ⟨g, 13, none⟩ (.int .i64 h1)).setCell ⟨g, 14, none⟩ (.int .i64 h2)).setCell ⟨g, 15, none⟩ (.slice qa qn qc)) = putCells W6 g 0 [.int .i64 x, .int .u64 y, .int .i64 x0, .int .i64 x1, .int .u64 x2, .int .i64 x3, .int .u64 x4, .int .i64 y0, .int .i64 y1, .int .u64 y2, .int .i64 y3, .int .u64 y4, .bool hb0, .int .i64 h1, .int .i64 h2, .slice qa qn qc] := rfl
    rw [hW]
    clear hW
    have G9 := hide (putCells_is (cs := [.int .i64 0, .int .u64 0, .int .i64 0, .int .i64 0, .int .u64 0, .int .i64 0, .int .u64 0, .int .i64 0, .int .i64 0, .int .u64 0, .int .i64 0, .int .u64 0, .bool false, .int .i64 0, .int .i64 0, .slice none 0 0]) G.out [.int .i64 x, .int .u64 y, .int .i64 x0, .int .i64 x1, .int .u64 x2, .int .i64 x3, .int .u64 x4, .int .i64 y0, .int .i64 y1, .int .u64 y2, .int .i64 y3, .int .u64 y4, .bool hb0, .int .i64 h1, .int .i64 h2, .slice qa qn qc] rfl)
    have k9 := putCells_kp g [.int .i64 x, .int .u64 y, .int .i64 x0, .int .i64 x1, .int .u64 x2, .int .i64 x3, .int .u64 x4, .int .i64 y0, .int .i64 y1, .int .u64 y2, .int .i64 y3, .int .u64 y4, .bool hb0, .int .i64 h1, .int .i64 h2, .slice qa qn qc] W6 0
    have P9 := hide (P.out.kp k9 (by simp only [List.mem_cons, List.not_mem_nil, or_false]; exact P.out.ne_t G.out (by decide)))
    have V9 := hide (V.out.kp k9 (by simp only [List.mem_cons, List.not_mem_nil, or_false]; exact V.out.ne_t G.out (by decide)))
    have A9 := hide (A.out.kp k9 (by simp only [List.mem_cons, List.not_mem_nil, or_false]; exact A.out.ne_t G.out (by decide)))
    have B9 := hide (((Kp.of_below (S := []) B.out).trans k9 (fun j hj => by simp at hj; right; omega)).to_below (Nat.le_refl _) (by simp))
    clear k9 P V A B G
    generalize putCells W6 g 0 [.int .i64 x, .int .u64 y, .int .i64 x0, .int .i64 x1, .int .u64 x2, .int .i64 x3, .int .u64 x4, .int .i64 y0, .int .i64 y1, .int .u64 y2, .int .i64 y3, .int .u64 y4, .bool hb0, .int .i64 h1, .int .i64 h2, .slice qa qn qc] = W7 at G9 P9 V9 A9 B9 ⊢
    have hS : (fun w' => w'.cell? ⟨p, 8, none⟩ = some (.pointer (some ⟨lp, 0, none⟩)) ∧ w'.cell? ⟨H, 0, none⟩ = some (.int .i64 x) ∧ w'.cell? ⟨H, 1, none⟩ = some (.int .u64 y)) W7 := ⟨P9.out.cell 8, V9.out.cell 0, V9.out.cell 1⟩
    refine hK.out _ _ ?_ ?_
    · exact hS
    clear hK K
    try simp only [Act.put, List.setIfInBounds_toArray, List.set_cons_zero, List.set_cons_succ]
    clear hHeld
    have hHeld := hS
    clear hS
    refine pickA (v := ?_) 11 (some 8) rfl rfl (by kernel_rfl) (by kernel_rfl) (by kernel_rfl) (by decide) (fun _ _ _ h => h) (by rfl) ?_ (by assumption) ?_
    rotate_left
    · intro w'
      go_simp
      try with_reducible rfl
    try simp only [Act.put, List.setIfInBounds_toArray, List.set_cons_zero, List.set_cons_succ]
    refine doneL (by kernel_rfl) ?_ _
    clear hHeld
    replace P9 := hide (P9.out.below (Below.refl _ _).drew)
    replace G9 := hide (G9.out.below (Below.refl _ _).drew)
    replace A9 := hide (A9.out.below (Below.refl _ _).drew)
    replace B9 := hide B9.out.drew
    go_wp2
    refine regionL 12 (fun w' => w'.cell? ⟨p, 7, none⟩ = some (.bool s.mr) ∧ w'.cell? ⟨g, 2, none⟩ = some (.int .i64 x0) ∧ w'.cell? ⟨g, 3, none⟩ = some (.int .i64 x1) ∧ w'.cell? ⟨g, 4, none⟩ = some (.int .u64 x2) ∧ w'.cell? ⟨g, 5, none⟩ = some (.int .i64 x3) ∧ w'.cell? ⟨g, 6, none⟩ = some (.int .u64 x4) ∧ w'.cell? ⟨g, 7, none⟩ = some (.int .i64 y0) ∧ w'.cell? ⟨g, 8, none⟩ = some (.int .i64 y1) ∧ w'.cell? ⟨g, 9, none⟩ = some (.int .u64 y2) ∧ w'.cell? ⟨g, 10, none⟩ = some (.int .i64 y3) ∧ w'.cell? ⟨g, 11, none⟩ = some (.int .u64 y4)) mixed ⟨P9.out.cell 7, G9.out.cell 2, G9.out.cell 3, G9.out.cell 4, G9.out.cell 5, G9.out.cell 6, G9.out.cell 7, G9.out.cell 8, G9.out.cell 9, G9.out.cell 10, G9.out.cell 11⟩ (fun hHeld => ?_)
    refine pickA (v := ?_) 0 (some 21) rfl rfl (by kernel_rfl) (by kernel_rfl) (by kernel_rfl) (by decide) (fun _ _ _ h => h) (by rfl) ?_ (by assumption) ?_
    rotate_left
    · intro w'
      go_simp
      try with_reducible rfl
    try simp only [Act.put, List.setIfInBounds_toArray, List.set_cons_zero, List.set_cons_succ]
    refine pickA (v := ?_) 1 (some 22) rfl rfl (by kernel_rfl) (by kernel_rfl) (by kernel_rfl) (by decide) (fun _ _ _ h => h) (by rfl) ?_ (by assumption) ?_
    rotate_left
    · intro w'
      go_simp
      try with_reducible rfl
    try simp only [Act.put, List.setIfInBounds_toArray, List.set_cons_zero, List.set_cons_succ]
    refine pickA (v := ?_) 2 (some 23) rfl rfl (by kernel_rfl) (by kernel_rfl) (by kernel_rfl) (by decide) (fun _ _ _ h => h) (by rfl) ?_ (by assumption) ?_
    rotate_left
    · intro w'
      go_simp
      try with_reducible rfl
    try simp only [Act.put, List.setIfInBounds_toArray, List.set_cons_zero, List.set_cons_succ]
    refine pickL (v := ?_) 3 (some 24) rfl rfl (by kernel_rfl) (by kernel_rfl) (by kernel_rfl) (by decide) (by kernel_rfl) (by kernel_rfl) (fun _ _ _ h => h) (by rfl) ?_ (by assumption) ?_
    rotate_left
    · intro w' hSw
      obtain ⟨q0, q1, q2, q3, q4, q5, q6, q7, q8, q9, q10⟩ := hSw
      go_simp
      try with_reducible rfl
    try simp only [Act.put, List.setIfInBounds_toArray, List.set_cons_zero, List.set_cons_succ]
    refine pickA (v := ?_) 4 (some 25) rfl rfl (by kernel_rfl) (by kernel_rfl) (by kernel_rfl) (by decide) (fun _ _ _ h => h) (by rfl) ?_ (by assumption) ?_
    rotate_left
    · intro w'
      go_simp
      try with_reducible rfl
    try simp only [Act.put, List.setIfInBounds_toArray, List.set_cons_zero, List.set_cons_succ]
    refine pickL (v := ?_) 5 (some 26) rfl rfl (by kernel_rfl) (by kernel_rfl) (by kernel_rfl) (by decide) (by kernel_rfl) (by kernel_rfl) (fun _ _ _ h => h) (by rfl) ?_ (by assumption) ?_
    rotate_left
    · intro w' hSw
      obtain ⟨q0, q1, q2, q3, q4, q5, q6, q7, q8, q9, q10⟩ := hSw
      go_simp
      try with_reducible rfl
    try simp only [Act.put, List.setIfInBounds_toArray, List.set_cons_zero, List.set_cons_succ]
    refine pickA (v := ?_) 6 (some 27) rfl rfl (by kernel_rfl) (by kernel_rfl) (by kernel_rfl) (by decide) (fun _ _ _ h => h) (by rfl) ?_ (by assumption) ?_
    rotate_left
    · intro w'
      go_simp
      try with_reducible rfl
    try simp only [Act.put, List.setIfInBounds_toArray, List.set_cons_zero, List.set_cons_succ]
    refine pickL (v := ?_) 7 (some 28) rfl rfl (by kernel_rfl) (by kernel_rfl) (by kernel_rfl) (by decide) (by kernel_rfl) (by kernel_rfl) (fun _ _ _ h => h) (by rfl) ?_ (by assumption) ?_
    rotate_left
    · intro w' hSw
      obtain ⟨q0, q1, q2, q3, q4, q5, q6, q7, q8, q9, q10⟩ := hSw
      go_simp
      try with_reducible rfl
    try simp only [Act.put, List.setIfInBounds_toArray, List.set_cons_zero, List.set_cons_succ]
    refine pickA (v := ?_) 8 (some 29) rfl rfl (by kernel_rfl) (by kernel_rfl) (by kernel_rfl) (by decide) (fun _ _ _ h => h) (by rfl) ?_ (by assumption) ?_
    rotate_left
    · intro w'
      go_simp
      try with_reducible rfl
    try simp only [Act.put, List.setIfInBounds_toArray, List.set_cons_zero, List.set_cons_succ]
    refine oneL (i := 9) (by kernel_rfl) rfl (fun K hK => ?_)
    go_simp
    refine (bclone_any ba bc bl hbl hn _ (hr.below B9.out)).mono ?_; rintro e w8 ⟨ca, cc, rfl, hby, -, -, hb⟩
    have BY := hide hby
    clear hby
    replace P9 := hide (P9.out.below hb)
    replace G9 := hide (G9.out.below hb)
    replace A9 := hide (A9.out.below hb)
    replace B9 := hide (B9.out.trans (hb.mono B9.out.size))
    clear hb
    refine hK.out _ _ ?_ ?_
    · exact ⟨P9.out.cell 7, G9.out.cell 2, G9.out.cell 3, G9.out.cell 4, G9.out.cell 5, G9.out.cell 6, G9.out.cell 7, G9.out.cell 8, G9.out.cell 9, G9.out.cell 10, G9.out.cell 11⟩
    clear hK K
    try simp only [Act.put, List.setIfInBounds_toArray, List.set_cons_zero, List.set_cons_succ]
    clear hHeld
    have hHeld : (fun w' => w'.cell? ⟨p, 7, none⟩ = some (.bool s.mr) ∧ w'.cell? ⟨g, 2, none⟩ = some (.int .i64 x0) ∧ w'.cell? ⟨g, 3, none⟩ = some (.int .i64 x1) ∧ w'.cell? ⟨g, 4, none⟩ = some (.int .u64 x2) ∧ w'.cell? ⟨g, 5, none⟩ = some (.int .i64 x3) ∧ w'.cell? ⟨g, 6, none⟩ = some (.int .u64 x4) ∧ w'.cell? ⟨g, 7, none⟩ = some (.int .i64 y0) ∧ w'.cell? ⟨g, 8, none⟩ = some (.int .i64 y1) ∧ w'.cell? ⟨g, 9, none⟩ = some (.int .u64 y2) ∧ w'.cell? ⟨g, 10, none⟩ = some (.int .i64 y3) ∧ w'.cell? ⟨g, 11, none⟩ = some (.int .u64 y4)) w8 := ⟨P9.out.cell 7, G9.out.cell 2, G9.out.cell 3, G9.out.cell 4, G9.out.cell 5, G9.out.cell 6, G9.out.cell 7, G9.out.cell 8, G9.out.cell 9, G9.out.cell 10, G9.out.cell 11⟩
    refine pickA (v := ?_) 10 (some 31) rfl rfl (by kernel_rfl) (by kernel_rfl) (by kernel_rfl) (by decide) (fun _ _ _ h => h) (by rfl) ?_ (by assumption) ?_
    rotate_left
    · intro w'
      go_simp
      try with_reducible rfl
    try simp only [Act.put, List.setIfInBounds_toArray, List.set_cons_zero, List.set_cons_succ]
    refine oneL (i := 11) (by kernel_rfl) rfl (fun K hK => ?_)
    have z0 : w8.frozen? ⟨H + 1, 0, none⟩ = false := A9.out.free 0
    have c0 : w8.cell? ⟨H + 1, 0, none⟩ = some (.int .i64 0) := A9.out.cell 0
    have z1 : w8.frozen? ⟨H + 1, 1, none⟩ = false := A9.out.free 1
    have c1 : w8.cell? ⟨H + 1, 1, none⟩ = some (.bool false) := A9.out.cell 1
    have z2 : w8.frozen? ⟨H + 1, 2, none⟩ = false := A9.out.free 2
    have c2 : w8.cell? ⟨H + 1, 2, none⟩ = some (.int .i64 0) := A9.out.cell 2
    have z3 : w8.frozen? ⟨H + 1, 3, none⟩ = false := A9.out.free 3
    have c3 : w8.cell? ⟨H + 1, 3, none⟩ = some (.int .i64 0) := A9.out.cell 3
    have z4 : w8.frozen? ⟨H + 1, 4, none⟩ = false := A9.out.free 4
    have c4 : w8.cell? ⟨H + 1, 4, none⟩ = some (.int .u64 0) := A9.out.cell 4
    have z5 : w8.frozen? ⟨H + 1, 5, none⟩ = false := A9.out.free 5
    have c5 : w8.cell? ⟨H + 1, 5, none⟩ = some (.int .i64 0) := A9.out.cell 5
    have z6 : w8.frozen? ⟨H + 1, 6, none⟩ = false := A9.out.free 6
    have c6 : w8.cell? ⟨H + 1, 6, none⟩ = some (.int .u64 0) := A9.out.cell 6
    have z7 : w8.frozen? ⟨H + 1, 7, none⟩ = false := A9.out.free 7
    have c7 : w8.cell? ⟨H + 1, 7, none⟩ = some (.int .i64 0) := A9.out.cell 7
    have z8 : w8.frozen? ⟨H + 1, 8, none⟩ = false := A9.out.free 8
    have c8 : w8.cell? ⟨H + 1, 8, none⟩ = some (.int .i64 0) := A9.out.cell 8
    have z9 : w8.frozen? ⟨H + 1, 9, none⟩ = false := A9.out.free 9
    have c9 : w8.cell? ⟨H + 1, 9, none⟩ = some (.int .u64 0) := A9.out.cell 9
    have z10 : w8.frozen? ⟨H + 1, 10, none⟩ = false := A9.out.free 10
    have c10 : w8.cell? ⟨H + 1, 10, none⟩ = some (.int .i64 0) := A9.out.cell 10
    have z11 : w8.frozen? ⟨H + 1, 11, none⟩ = false := A9.out.free 11
    have c11 : w8.cell? ⟨H + 1, 11, none⟩ = some (.int .u64 0) := A9.out.cell 11
    have z12 : w8.frozen? ⟨H + 1, 12, none⟩ = false := A9.out.free 12
    have c12 : w8.cell? ⟨H + 1, 12, none⟩ = some (.slice none 0 0) := A9.out.cell 12
    have fl := A9.out.lt
    go_simp
    clear z0 c0 z1 c1 z2 c2 z3 c3 z4 c4 z5 c5 z6 c6 z7 c7 z8 c8 z9 c9 z10 c10 z11 c11 z12 c12
    have hW : (((((((((((((w8.setCell ⟨H + 1, 0, none⟩ (.int .i64 1)).setCell ⟨H + 1, 1, none⟩ (.bool s.mr)).setCell ⟨H + 1, 2, none⟩ (.int .i64 x0)).setCell ⟨H + 1, 3, none⟩ (.int .i64 x1)).setCell ⟨H + 1, 4, none⟩ (.int .u64 x2)).setCell ⟨H + 1, 5, none⟩ (.int .i64 x3)).setCell ⟨H + 1, 6, none⟩ (.int .u64 x4)).setCell ⟨H + 1, 7, none⟩ (.int .i64 y0)).setCell ⟨H + 1, 8, none⟩ (.int .i64 y1)).setCell ⟨H + 1, 9, none⟩ (.int .u64 y2)).setCell ⟨H + 1, 10, none⟩ (.int .i64 y3)).setCell ⟨H + 1, 11, none⟩ (.int .u64 y4)).setCell ⟨H + 1, 12, none⟩ (.slice ca bl.length cc)) = putCells w8 (H + 1) 0 [.int .i64 1, .bool s.mr, .int .i64 x0, .int .i64 x1, .int .u64 x2, .int .i64 x3, .int .u64 x4, .int .i64 y0, .int .i64 y1, .int .u64 y2, .int .i64 y3, .int .u64 y4, .slice ca bl.length cc] := rfl
    rw [hW]
    clear hW
    have F9 := hide (putCells_is (cs := [.int .i64 0, .bool false, .int .i64 0, .int .i64 0, .int .u64 0, .int .i64 0, .int .u64 0, .int .i64 0, .int .i64 0, .int .u64 0, .int .i64 0, .int .u64 0, .slice none 0 0]) A9.out [.int .i64 1, .bool s.mr, .int .i64 x0, .int .i64 x1, .int .u64 x2, .int .i64 x3, .int .u64 x4, .int .i64 y0, .int .i64 y1, .int .u64 y2, .int .i64 y3, .int .u64 y4, .slice ca bl.length cc] rfl)
    have k9 := putCells_kp (H + 1) [.int .i64 1, .bool s.mr, .int .i64 x0, .int .i64 x1, .int .u64 x2, .int .i64 x3, .int .u64 x4, .int .i64 y0, .int .i64 y1, .int .u64 y2, .int .i64 y3, .int .u64 y4, .slice ca bl.length cc] w8 0
    have BY9 := hide (BY.out.kp k9 (by intro k hk cur h0; simp only [List.mem_cons, List.not_mem_nil, or_false] at hk; subst hk; exact absurd (cells_inj A9.out h0) (by decide)))
    have P10 := hide (P9.out.kp k9 (by simp only [List.mem_cons, List.not_mem_nil, or_false]; exact P9.out.ne_t A9.out (by decide)))
    have G10 := hide (G9.out.kp k9 (by simp only [List.mem_cons, List.not_mem_nil, or_false]; exact G9.out.ne_t A9.out (by decide)))
    have B10 := hide (((Kp.of_below (S := []) B9.out).trans k9 (fun j hj => by simp at hj; right; rw [hj, hH.out]; omega)).to_below (Nat.le_refl _) (by simp))
    clear k9
    generalize putCells w8 (H + 1) 0 [.int .i64 1, .bool s.mr, .int .i64 x0, .int .i64 x1, .int .u64 x2, .int .i64 x3, .int .u64 x4, .int .i64 y0, .int .i64 y1, .int .u64 y2, .int .i64 y3, .int .u64 y4, .slice ca bl.length cc] = W9 at F9 BY9 P10 G10 B10 ⊢
    refine hK.out _ _ ?_ ?_
    · exact ⟨P10.out.cell 7, G10.out.cell 2, G10.out.cell 3, G10.out.cell 4, G10.out.cell 5, G10.out.cell 6, G10.out.cell 7, G10.out.cell 8, G10.out.cell 9, G10.out.cell 10, G10.out.cell 11⟩
    clear hK K
    try simp only [Act.put, List.setIfInBounds_toArray, List.set_cons_zero, List.set_cons_succ]
    clear hHeld
    have hHeld : (fun w' => w'.cell? ⟨p, 7, none⟩ = some (.bool s.mr) ∧ w'.cell? ⟨g, 2, none⟩ = some (.int .i64 x0) ∧ w'.cell? ⟨g, 3, none⟩ = some (.int .i64 x1) ∧ w'.cell? ⟨g, 4, none⟩ = some (.int .u64 x2) ∧ w'.cell? ⟨g, 5, none⟩ = some (.int .i64 x3) ∧ w'.cell? ⟨g, 6, none⟩ = some (.int .u64 x4) ∧ w'.cell? ⟨g, 7, none⟩ = some (.int .i64 y0) ∧ w'.cell? ⟨g, 8, none⟩ = some (.int .i64 y1) ∧ w'.cell? ⟨g, 9, none⟩ = some (.int .u64 y2) ∧ w'.cell? ⟨g, 10, none⟩ = some (.int .i64 y3) ∧ w'.cell? ⟨g, 11, none⟩ = some (.int .u64 y4)) W9 := ⟨P10.out.cell 7, G10.out.cell 2, G10.out.cell 3, G10.out.cell 4, G10.out.cell 5, G10.out.cell 6, G10.out.cell 7, G10.out.cell 8, G10.out.cell 9, G10.out.cell 10, G10.out.cell 11⟩
    refine doneL (by kernel_rfl) ?_ _
    clear hHeld
    go_wp2
    refine ret_an (p := 6) (b := H + 1) Tryd.results31 rfl rfl F9.out ?_
    exact ⟨ca, cc, rfl, BY9.out, B10.out⟩
  · go_simp
    have ba := (Below.refl _ W2).alloc (Nat.le_refl _) (.cells #[.int .i64 0, .int .u64 0, .int .i64 0, .int .i64 0, .int .u64 0, .int .i64 0, .int .u64 0, .int .i64 0, .int .i64 0, .int .u64 0, .int .i64 0, .int .u64 0, .bool false, .int .i64 0, .int .i64 0, .slice none 0 0] 107)
    have G := hide (IsB.new W2 #[.int .i64 0, .int .u64 0, .int .i64 0, .int .i64 0, .int .u64 0, .int .i64 0, .int .u64 0, .int .i64 0, .int .i64 0, .int .u64 0, .int .i64 0, .int .u64 0, .bool false, .int .i64 0, .int .i64 0, .slice none 0 0] 107)
    have hGs : w.heap.size ≤ W2.heap.size := B.out.size
    have hAG : H + 1 < W2.heap.size := A.out.lt
    replace P := hide (P.out.below ba)
    replace V := hide (V.out.below ba)
    replace A := hide (A.out.below ba)
    replace B := hide (B.out.trans (ba.mono B.out.size))
    clear ba
    have hS : (fun w' => w'.cell? ⟨p, 8, none⟩ = some (.pointer (some ⟨lp, 0, none⟩)) ∧ w'.cell? ⟨H, 0, none⟩ = some (.int .i64 x) ∧ w'.cell? ⟨H, 1, none⟩ = some (.int .u64 y)) (W2.alloc (.cells #[.int .i64 0, .int .u64 0, .int .i64 0, .int .i64 0, .int .u64 0, .int .i64 0, .int .u64 0, .int .i64 0, .int .i64 0, .int .u64 0, .int .i64 0, .int .u64 0, .bool false, .int .i64 0, .int .i64 0, .slice none 0 0] 107)) := ⟨P.out.cell 8, V.out.cell 0, V.out.cell 1⟩
    refine hK.out _ _ ?_ ?_
    · exact hS
    clear hK K
    try simp only [Act.put, List.setIfInBounds_toArray, List.set_cons_zero, List.set_cons_succ]
    clear hHeld
    have hHeld := hS
    clear hS
    generalize W2.alloc (.cells #[.int .i64 0, .int .u64 0, .int .i64 0, .int .i64 0, .int .u64 0, .int .i64 0, .int .u64 0, .int .i64 0, .int .i64 0, .int .u64 0, .int .i64 0, .int .u64 0, .bool false, .int .i64 0, .int .i64 0, .slice none 0 0] 107) = W5 at P V A B G hHeld ⊢
    generalize W2.heap.size = g at G hGs hAG ⊢
    refine oneL (i := 5) (by kernel_rfl) rfl (fun K hK => ?_)
    go_simp
    refine (get_some base lp lm s.me s.L _ (h0.out.lk.below B.out) (Nat.le_trans hB B.out.size) x y hv hm hy _ ho.out).mono ?_; rintro e w3 ⟨ga, rfl, hst, -, hb⟩
    obtain ⟨q, hq1, hq2⟩ := hst
    simp only [stA] at hq1
    have hq3 : Sl w3 q os.tail := hq2
    obtain ⟨qa, qc, hqs, -, -⟩ := hq3.shape
    clear hq3
    generalize os.tail.length = qn at hqs
    generalize decide (0 < os.length) = hb0 at hq1
    generalize (hd os).1 = h1 at hq1
    generalize (hd os).2 = h2 at hq1
    subst hqs
    subst hq1
    clear hq2
    replace G := hide (G.out.below hb)
    replace P := hide (P.out.below hb)
    replace V := hide (V.out.below hb)
    replace A := hide (A.out.below hb)
    replace B := hide (B.out.trans (hb.mono B.out.size))
    clear hb
    have hS : (fun w' => w'.cell? ⟨p, 8, none⟩ = some (.pointer (some ⟨lp, 0, none⟩)) ∧ w'.cell? ⟨H, 0, none⟩ = some (.int .i64 x) ∧ w'.cell? ⟨H, 1, none⟩ = some (.int .u64 y)) w3 := ⟨P.out.cell 8, V.out.cell 0, V.out.cell 1⟩
    refine hK.out _ _ ?_ ?_
    · exact hS
    clear hK K
    try simp only [Act.put, List.setIfInBounds_toArray, List.set_cons_zero, List.set_cons_succ]
    clear hHeld
    have hHeld := hS
    clear hS
    refine pickA (v := ?_) 6 (some 9) rfl rfl (by kernel_rfl) (by kernel_rfl) (by kernel_rfl) (by decide) (fun _ _ _ h => h) (by rfl) ?_ (by assumption) ?_
    rotate_left
    · intro w'
      go_simp
      try with_reducible rfl
    try simp only [Act.put, List.setIfInBounds_toArray, List.set_cons_zero, List.set_cons_succ]
    refine pickA (v := ?_) 7 (some 16) rfl rfl (by kernel_rfl) (by kernel_rfl) (by kernel_rfl) (by decide) (fun _ _ _ h => h) (by rfl) ?_ (by assumption) ?_
    rotate_left
    · intro w'
      go_simp
      try with_reducible rfl
    try simp only [Act.put, List.setIfInBounds_toArray, List.set_cons_zero, List.set_cons_succ]
    refine pickA (v := ?_) 8 (some 17) rfl rfl (by kernel_rfl) (by kernel_rfl) (by kernel_rfl) (by decide) (fun _ _ _ h => h) (by rfl) ?_ (by assumption) ?_
    rotate_left
    · intro w'
      go_simp
      try with_reducible rfl
    try simp only [Act.put, List.setIfInBounds_toArray, List.set_cons_zero, List.set_cons_succ]
    generalize w3 = W6 at *
    have z0 : W6.frozen? ⟨g, 0, none⟩ = false := G.out.free 0
    have c0 : W6.cell? ⟨g, 0, none⟩ = some (.int .i64 0) := G.out.cell 0
    have z1 : W6.frozen? ⟨g, 1, none⟩ = false := G.out.free 1
    have c1 : W6.cell? ⟨g, 1, none⟩ = some (.int .u64 0) := G.out.cell 1
    have z2 : W6.frozen? ⟨g, 2, none⟩ = false := G.out.free 2
    have c2 : W6.cell? ⟨g, 2, none⟩ = some (.int .i64 0) := G.out.cell 2
    have z3 : W6.frozen? ⟨g, 3, none⟩ = false := G.out.free 3
    have c3 : W6.cell? ⟨g, 3, none⟩ = some (.int .i64 0) := G.out.cell 3
    have z4 : W6.frozen? ⟨g, 4, none⟩ = false := G.out.free 4
    have c4 : W6.cell? ⟨g, 4, none⟩ = some (.int .u64 0) := G.out.cell 4
    have z5 : W6.frozen? ⟨g, 5, none⟩ = false := G.out.free 5
    have c5 : W6.cell? ⟨g, 5, none⟩ = some (.int .i64 0) := G.out.cell 5
    have z6 : W6.frozen? ⟨g, 6, none⟩ = false := G.out.free 6
    have c6 : W6.cell? ⟨g, 6, none⟩ = some (.int .u64 0) := G.out.cell 6
    have z7 : W6.frozen? ⟨g, 7, none⟩ = false := G.out.free 7
    have c7 : W6.cell? ⟨g, 7, none⟩ = some (.int .i64 0) := G.out.cell 7
    have z8 : W6.frozen? ⟨g, 8, none⟩ = false := G.out.free 8
    have c8 : W6.cell? ⟨g, 8, none⟩ = some (.int .i64 0) := G.out.cell 8
    have z9 : W6.frozen? ⟨g, 9, none⟩ = false := G.out.free 9
    have c9 : W6.cell? ⟨g, 9, none⟩ = some (.int .u64 0) := G.out.cell 9
    have z10 : W6.frozen? ⟨g, 10, none⟩ = false := G.out.free 10
    have c10 : W6.cell? ⟨g, 10, none⟩ = some (.int .i64 0) := G.out.cell 10
    have z11 : W6.frozen? ⟨g, 11, none⟩ = false := G.out.free 11
    have c11 : W6.cell? ⟨g, 11, none⟩ = some (.int .u64 0) := G.out.cell 11
    have z12 : W6.frozen? ⟨g, 12, none⟩ = false := G.out.free 12
    have c12 : W6.cell? ⟨g, 12, none⟩ = some (.bool false) := G.out.cell 12
    have z13 : W6.frozen? ⟨g, 13, none⟩ = false := G.out.free 13
    have c13 : W6.cell? ⟨g, 13, none⟩ = some (.int .i64 0) := G.out.cell 13
    have z14 : W6.frozen? ⟨g, 14, none⟩ = false := G.out.free 14
    have c14 : W6.cell? ⟨g, 14, none⟩ = some (.int .i64 0) := G.out.cell 14
    have z15 : W6.frozen? ⟨g, 15, none⟩ = false := G.out.free 15
    have c15 : W6.cell? ⟨g, 15, none⟩ = some (.slice none 0 0) := G.out.cell 15
    have fl := G.out.lt
    refine oneL (i := 10) (by kernel_rfl) rfl (fun K hK => ?_)
    go_simp
    clear z0 c0 z1 c1 z2 c2 z3 c3 z4 c4 z5 c5 z6 c6 z7 c7 z8 c8 z9 c9 z10 c10 z11 c11 z12 c12 z13 c13 z14 c14 z15 c15
    have hW : ((((((((((((((((W6.setCell ⟨g, 0, none⟩ (.int .i64 x)).setCell ⟨g, 1, none⟩ (.int .u64 y)).setCell ⟨g, 2, none⟩ (.int .i64 x0)).setCell ⟨g, 3, none⟩ (.int .i64 x1)).setCell ⟨g, 4, none⟩ (.int .u64 x2)).setCell ⟨g, 5, none⟩ (.int .i64 x3)).setCell ⟨g, 6, none⟩ (.int .u64 x4)).setCell ⟨g, 7, none⟩ (.int .i64 y0)).setCell ⟨g, 8, none⟩ (.int .i64 y1)).setCell ⟨g, 9, none⟩ (.int .u64 y2)).setCell ⟨g, 10, none⟩ (.int .i64 y3)).setCell ⟨g, 11, none⟩ (.int .u64 y4)).setCell ⟨g, 12, none⟩ (.bool hb0)).setCell ⟨g, 13, none⟩ (.int .i64 h1)).setCell ⟨g, 14, none⟩ (.int .i64 h2)).setCell ⟨g, 15, none⟩ (.slice qa qn qc)) = putCells W6 g 0 [.int .i64 x, .int .u64 y, .int .i64 x0, .int .i64 x1, .int .u64 x2, .int .i64 x3, .int .u64 x4, .int .i64 y0, .int .i64 y1, .int .u64 y2, .int .i64 y3, .int .u64 y4, .bool hb0, .int .i64 h1, .int .i64 h2, .slice qa qn qc] := rfl
    rw [hW]
    clear hW
    have G9 := hide (putCells_is (cs := [.int .i64 0, .int .u64 0, .int .i64 0, .int .i64 0, .int .u64 0, .int .i64 0, .int .u64 0, .int .i64 0, .int .i64 0, .int .u64 0, .int .i64 0, .int .u64 0, .bool false, .int .i64 0, .int .i64 0, .slice none 0 0]) G.out [.int .i64 x, .int .u64 y, .int .i64 x0, .int .i64 x1, .int .u64 x2, .int .i64 x3, .int .u64 x4, .int .i64 y0, .int .i64 y1, .int .u64 y2, .int .i64 y3, .int .u64 y4, .bool hb0, .int .i64 h1, .int .i64 h2, .slice qa qn qc] rfl)
    have k9 := putCells_kp g [.int .i64 x, .int .u64 y, .int .i64 x0, .int .i64 x1, .int .u64 x2, .int .i64 x3, .int .u64 x4, .int .i64 y0, .int .i64 y1, .int .u64 y2, .int .i64 y3, .int .u64 y4, .bool hb0, .int .i64 h1, .int .i64 h2, .slice qa qn qc] W6 0
    have P9 := hide (P.out.kp k9 (by simp only [List.mem_cons, List.not_mem_nil, or_false]; exact P.out.ne_t G.out (by decide)))
    have V9 := hide (V.out.kp k9 (by simp only [List.mem_cons, List.not_mem_nil, or_false]; exact V.out.ne_t G.out (by decide)))
    have A9 := hide (A.out.kp k9 (by simp only [List.mem_cons, List.not_mem_nil, or_false]; exact A.out.ne_t G.out (by decide)))
    have B9 := hide (((Kp.of_below (S := []) B.out).trans k9 (fun j hj => by simp at hj; right; omega)).to_below (Nat.le_refl _) (by simp))
    clear k9 P V A B G
    generalize putCells W6 g 0 [.int .i64 x, .int .u64 y, .int .i64 x0, .int .i64 x1, .int .u64 x2, .int .i64 x3, .int .u64 x4, .int .i64 y0, .int .i64 y1, .int .u64 y2, .int .i64 y3, .int .u64 y4, .bool hb0, .int .i64 h1, .int .i64 h2, .slice qa qn qc] = W7 at G9 P9 V9 A9 B9 ⊢
    have hS : (fun w' => w'.cell? ⟨p, 8, none⟩ = some (.pointer (some ⟨lp, 0, none⟩)) ∧ w'.cell? ⟨H, 0, none⟩ = some (.int .i64 x) ∧ w'.cell? ⟨H, 1, none⟩ = some (.int .u64 y)) W7 := ⟨P9.out.cell 8, V9.out.cell 0, V9.out.cell 1⟩
    refine hK.out _ _ ?_ ?_
    · exact hS
    clear hK K
    try simp only [Act.put, List.setIfInBounds_toArray, List.set_cons_zero, List.set_cons_succ]
    clear hHeld
    have hHeld := hS
    clear hS
    refine pickA (v := ?_) 11 (some 8) rfl rfl (by kernel_rfl) (by kernel_rfl) (by kernel_rfl) (by decide) (fun _ _ _ h => h) (by rfl) ?_ (by assumption) ?_
    rotate_left
    · intro w'
      go_simp
      try with_reducible rfl
    try simp only [Act.put, List.setIfInBounds_toArray, List.set_cons_zero, List.set_cons_succ]
    refine doneL (by kernel_rfl) ?_ _
    clear hHeld
    replace P9 := hide (P9.out.below (Below.refl _ _).drew)
    replace G9 := hide (G9.out.below (Below.refl _ _).drew)
    replace A9 := hide (A9.out.below (Below.refl _ _).drew)
    replace B9 := hide B9.out.drew
    go_wp2
    refine regionL 12 (fun w' => w'.cell? ⟨p, 7, none⟩ = some (.bool s.mr) ∧ w'.cell? ⟨g, 2, none⟩ = some (.int .i64 x0) ∧ w'.cell? ⟨g, 3, none⟩ = some (.int .i64 x1) ∧ w'.cell? ⟨g, 4, none⟩ = some (.int .u64 x2) ∧ w'.cell? ⟨g, 5, none⟩ = some (.int .i64 x3) ∧ w'.cell? ⟨g, 6, none⟩ = some (.int .u64 x4) ∧ w'.cell? ⟨g, 7, none⟩ = some (.int .i64 y0) ∧ w'.cell? ⟨g, 8, none⟩ = some (.int .i64 y1) ∧ w'.cell? ⟨g, 9, none⟩ = some (.int .u64 y2) ∧ w'.cell? ⟨g, 10, none⟩ = some (.int .i64 y3) ∧ w'.cell? ⟨g, 11, none⟩ = some (.int .u64 y4)) mixed ⟨P9.out.cell 7, G9.out.cell 2, G9.out.cell 3, G9.out.cell 4, G9.out.cell 5, G9.out.cell 6, G9.out.cell 7, G9.out.cell 8, G9.out.cell 9, G9.out.cell 10, G9.out.cell 11⟩ (fun hHeld => ?_)
    refine pickA (v := ?_) 0 (some 21) rfl rfl (by kernel_rfl) (by kernel_rfl) (by kernel_rfl) (by decide) (fun _ _ _ h => h) (by rfl) ?_ (by assumption) ?_
    rotate_left
    · intro w'
      go_simp
      try with_reducible rfl
    try simp only [Act.put, List.setIfInBounds_toArray, List.set_cons_zero, List.set_cons_succ]
    refine pickA (v := ?_) 1 (some 22) rfl rfl (by kernel_rfl) (by kernel_rfl) (by kernel_rfl) (by decide) (fun _ _ _ h => h) (by rfl) ?_ (by assumption) ?_
    rotate_left
    · intro w'
      go_simp
      try with_reducible rfl
    try simp only [Act.put, List.setIfInBounds_toArray, List.set_cons_zero, List.set_cons_succ]
    refine pickA (v := ?_) 2 (some 23) rfl rfl (by kernel_rfl) (by kernel_rfl) (by kernel_rfl) (by decide) (fun _ _ _ h => h) (by rfl) ?_ (by assumption) ?_
    rotate_left
    · intro w'
      go_simp
      try with_reducible rfl
    try simp only [Act.put, List.setIfInBounds_toArray, List.set_cons_zero, List.set_cons_succ]
    refine pickL (v := ?_) 3 (some 24) rfl rfl (by kernel_rfl) (by kernel_rfl) (by kernel_rfl) (by decide) (by kernel_rfl) (by kernel_rfl) (fun _ _ _ h => h) (by rfl) ?_ (by assumption) ?_
    rotate_left
    · intro w' hSw
      obtain ⟨q0, q1, q2, q3, q4, q5, q6, q7, q8, q9, q10⟩ := hSw
      go_simp
      try with_reducible rfl
    try simp only [Act.put, List.setIfInBounds_toArray, List.set_cons_zero, List.set_cons_succ]
    refine pickA (v := ?_) 4 (some 25) rfl rfl (by kernel_rfl) (by kernel_rfl) (by kernel_rfl) (by decide) (fun _ _ _ h => h) (by rfl) ?_ (by assumption) ?_
    rotate_left
    · intro w'
      go_simp
      try with_reducible rfl
    try simp only [Act.put, List.setIfInBounds_toArray, List.set_cons_zero, List.set_cons_succ]
    refine pickL (v := ?_) 5 (some 26) rfl rfl (by kernel_rfl) (by kernel_rfl) (by kernel_rfl) (by decide) (by kernel_rfl) (by kernel_rfl) (fun _ _ _ h => h) (by rfl) ?_ (by assumption) ?_
    rotate_left
    · intro w' hSw
      obtain ⟨q0, q1, q2, q3, q4, q5, q6, q7, q8, q9, q10⟩ := hSw
      go_simp
      try with_reducible rfl
    try simp only [Act.put, List.setIfInBounds_toArray, List.set_cons_zero, List.set_cons_succ]
    refine pickA (v := ?_) 6 (some 27) rfl rfl (by kernel_rfl) (by kernel_rfl) (by kernel_rfl) (by decide) (fun _ _ _ h => h) (by rfl) ?_ (by assumption) ?_
    rotate_left
    · intro w'
      go_simp
      try with_reducible rfl
    try simp only [Act.put, List.setIfInBounds_toArray, List.set_cons_zero, List.set_cons_succ]
    refine pickL (v := ?_) 7 (some 28) rfl rfl (by kernel_rfl) (by kernel_rfl) (by kernel_rfl) (by decide) (by kernel_rfl) (by kernel_rfl) (fun _ _ _ h => h) (by rfl) ?_ (by assumption) ?_
    rotate_left
    · intro w' hSw
      obtain ⟨q0, q1, q2, q3, q4, q5, q6, q7, q8, q9, q10⟩ := hSw
      go_simp
      try with_reducible rfl
    try simp only [Act.put, List.setIfInBounds_toArray, List.set_cons_zero, List.set_cons_succ]
    refine pickA (v := ?_) 8 (some 29) rfl rfl (by kernel_rfl) (by kernel_rfl) (by kernel_rfl) (by decide) (fun _ _ _ h => h) (by rfl) ?_ (by assumption) ?_
    rotate_left
    · intro w'
      go_simp
      try with_reducible rfl
    try simp only [Act.put, List.setIfInBounds_toArray, List.set_cons_zero, List.set_cons_succ]
    refine oneL (i := 9) (by kernel_rfl) rfl (fun K hK => ?_)
    go_simp
    refine (bclone_any ba bc bl hbl hn _ (hr.below B9.out)).mono ?_; rintro e w8 ⟨ca, cc, rfl, hby, -, -, hb⟩
    have BY := hide hby
    clear hby
    replace P9 := hide (P9.out.below hb)
    replace G9 := hide (G9.out.below hb)
    replace A9 := hide (A9.out.below hb)
    replace B9 := hide (B9.out.trans (hb.mono B9.out.size))
    clear hb
    refine hK.out _ _ ?_ ?_
    · exact ⟨P9.out.cell 7, G9.out.cell 2, G9.out.cell 3, G9.out.cell 4, G9.out.cell 5, G9.out.cell 6, G9.out.cell 7, G9.out.cell 8, G9.out.cell 9, G9.out.cell 10, G9.out.cell 11⟩
    clear hK K
    try simp only [Act.put, List.setIfInBounds_toArray, List.set_cons_zero, List.set_cons_succ]
    clear hHeld
    have hHeld : (fun w' => w'.cell? ⟨p, 7, none⟩ = some (.bool s.mr) ∧ w'.cell? ⟨g, 2, none⟩ = some (.int .i64 x0) ∧ w'.cell? ⟨g, 3, none⟩ = some (.int .i64 x1) ∧ w'.cell? ⟨g, 4, none⟩ = some (.int .u64 x2) ∧ w'.cell? ⟨g, 5, none⟩ = some (.int .i64 x3) ∧ w'.cell? ⟨g, 6, none⟩ = some (.int .u64 x4) ∧ w'.cell? ⟨g, 7, none⟩ = some (.int .i64 y0) ∧ w'.cell? ⟨g, 8, none⟩ = some (.int .i64 y1) ∧ w'.cell? ⟨g, 9, none⟩ = some (.int .u64 y2) ∧ w'.cell? ⟨g, 10, none⟩ = some (.int .i64 y3) ∧ w'.cell? ⟨g, 11, none⟩ = some (.int .u64 y4)) w8 := ⟨P9.out.cell 7, G9.out.cell 2, G9.out.cell 3, G9.out.cell 4, G9.out.cell 5, G9.out.cell 6, G9.out.cell 7, G9.out.cell 8, G9.out.cell 9, G9.out.cell 10, G9.out.cell 11⟩
    refine pickA (v := ?_) 10 (some 31) rfl rfl (by kernel_rfl) (by kernel_rfl) (by kernel_rfl) (by decide) (fun _ _ _ h => h) (by rfl) ?_ (by assumption) ?_
    rotate_left
    · intro w'
      go_simp
      try with_reducible rfl
    try simp only [Act.put, List.setIfInBounds_toArray, List.set_cons_zero, List.set_cons_succ]
    refine oneL (i := 11) (by kernel_rfl) rfl (fun K hK => ?_)
    have z0 : w8.frozen? ⟨H + 1, 0, none⟩ = false := A9.out.free 0
    have c0 : w8.cell? ⟨H + 1, 0, none⟩ = some (.int .i64 0) := A9.out.cell 0
    have z1 : w8.frozen? ⟨H + 1, 1, none⟩ = false := A9.out.free 1
    have c1 : w8.cell? ⟨H + 1, 1, none⟩ = some (.bool false) := A9.out.cell 1
    have z2 : w8.frozen? ⟨H + 1, 2, none⟩ = false := A9.out.free 2
    have c2 : w8.cell? ⟨H + 1, 2, none⟩ = some (.int .i64 0) := A9.out.cell 2
    have z3 : w8.frozen? ⟨H + 1, 3, none⟩ = false := A9.out.free 3
    have c3 : w8.cell? ⟨H + 1, 3, none⟩ = some (.int .i64 0) := A9.out.cell 3
    have z4 : w8.frozen? ⟨H + 1, 4, none⟩ = false := A9.out.free 4
    have c4 : w8.cell? ⟨H + 1, 4, none⟩ = some (.int .u64 0) := A9.out.cell 4
    have z5 : w8.frozen? ⟨H + 1, 5, none⟩ = false := A9.out.free 5
    have c5 : w8.cell? ⟨H + 1, 5, none⟩ = some (.int .i64 0) := A9.out.cell 5
    have z6 : w8.frozen? ⟨H + 1, 6, none⟩ = false := A9.out.free 6
    have c6 : w8.cell? ⟨H + 1, 6, none⟩ = some (.int .u64 0) := A9.out.cell 6
    have z7 : w8.frozen? ⟨H + 1, 7, none⟩ = false := A9.out.free 7
    have c7 : w8.cell? ⟨H + 1, 7, none⟩ = some (.int .i64 0) := A9.out.cell 7
    have z8 : w8.frozen? ⟨H + 1, 8, none⟩ = false := A9.out.free 8
    have c8 : w8.cell? ⟨H + 1, 8, none⟩ = some (.int .i64 0) := A9.out.cell 8
    have z9 : w8.frozen? ⟨H + 1, 9, none⟩ = false := A9.out.free 9
    have c9 : w8.cell? ⟨H + 1, 9, none⟩ = some (.int .u64 0) := A9.out.cell 9
    have z10 : w8.frozen? ⟨H + 1, 10, none⟩ = false := A9.out.free 10
    have c10 : w8.cell? ⟨H + 1, 10, none⟩ = some (.int .i64 0) := A9.out.cell 10
    have z11 : w8.frozen? ⟨H + 1, 11, none⟩ = false := A9.out.free 11
    have c11 : w8.cell? ⟨H + 1, 11, none⟩ = some (.int .u64 0) := A9.out.cell 11
    have z12 : w8.frozen? ⟨H + 1, 12, none⟩ = false := A9.out.free 12
    have c12 : w8.cell? ⟨H + 1, 12, none⟩ = some (.slice none 0 0) := A9.out.cell 12
    have fl := A9.out.lt
    go_simp
    clear z0 c0 z1 c1 z2 c2 z3 c3 z4 c4 z5 c5 z6 c6 z7 c7 z8 c8 z9 c9 z10 c10 z11 c11 z12 c12
    have hW : (((((((((((((w8.setCell ⟨H + 1, 0, none⟩ (.int .i64 1)).setCell ⟨H + 1, 1, none⟩ (.bool s.mr)).setCell ⟨H + 1, 2, none⟩ (.int .i64 x0)).setCell ⟨H + 1, 3, none⟩ (.int .i64 x1)).setCell ⟨H + 1, 4, none⟩ (.int .u64 x2)).setCell ⟨H + 1, 5, none⟩ (.int .i64 x3)).setCell ⟨H + 1, 6, none⟩ (.int .u64 x4)).setCell ⟨H + 1, 7, none⟩ (.int .i64 y0)).setCell ⟨H + 1, 8, none⟩ (.int .i64 y1)).setCell ⟨H + 1, 9, none⟩ (.int .u64 y2)).setCell ⟨H + 1, 10, none⟩ (.int .i64 y3)).setCell ⟨H + 1, 11, none⟩ (.int .u64 y4)).setCell ⟨H + 1, 12, none⟩ (.slice ca bl.length cc)) = putCells w8 (H + 1) 0 [.int .i64 1, .bool s.mr, .int .i64 x0, .int .i64 x1, .int .u64 x2, .int .i64 x3, .int .u64 x4, .int .i64 y0, .int .i64 y1, .int .u64 y2, .int .i64 y3, .int .u64 y4, .slice ca bl.length cc] := rfl
    rw [hW]
    clear hW
    have F9 := hide (putCells_is (cs := [.int .i64 0, .bool false, .int .i64 0, .int .i64 0, .int .u64 0, .int .i64 0, .int .u64 0, .int .i64 0, .int .i64 0, .int .u64 0, .int .i64 0, .int .u64 0, .slice none 0 0]) A9.out [.int .i64 1, .bool s.mr, .int .i64 x0, .int .i64 x1, .int .u64 x2, .int .i64 x3, .int .u64 x4, .int .i64 y0, .int .i64 y1, .int .u64 y2, .int .i64 y3, .int .u64 y4, .slice ca bl.length cc] rfl)
    have k9 := putCells_kp (H + 1) [.int .i64 1, .bool s.mr, .int .i64 x0, .int .i64 x1, .int .u64 x2, .int .i64 x3, .int .u64 x4, .int .i64 y0, .int .i64 y1, .int .u64 y2, .int .i64 y3, .int .u64 y4, .slice ca bl.length cc] w8 0
    have BY9 := hide (BY.out.kp k9 (by intro k hk cur h0; simp only [List.mem_cons, List.not_mem_nil, or_false] at hk; subst hk; exact absurd (cells_inj A9.out h0) (by decide)))
    have P10 := hide (P9.out.kp k9 (by simp only [List.mem_cons, List.not_mem_nil, or_false]; exact P9.out.ne_t A9.out (by decide)))
    have G10 := hide (G9.out.kp k9 (by simp only [List.mem_cons, List.not_mem_nil, or_false]; exact G9.out.ne_t A9.out (by decide)))
    have B10 := hide (((Kp.of_below (S := []) B9.out).trans k9 (fun j hj => by simp at hj; right; rw [hj, hH.out]; omega)).to_below (Nat.le_refl _) (by simp))
    clear k9
    generalize putCells w8 (H + 1) 0 [.int .i64 1, .bool s.mr, .int .i64 x0, .int .i64 x1, .int .u64 x2, .int .i64 x3, .int .u64 x4, .int .i64 y0, .int .i64 y1, .int .u64 y2, .int .i64 y3, .int .u64 y4, .slice ca bl.length cc] = W9 at F9 BY9 P10 G10 B10 ⊢
    refine hK.out _ _ ?_ ?_
    · exact ⟨P10.out.cell 7, G10.out.cell 2, G10.out.cell 3, G10.out.cell 4, G10.out.cell 5, G10.out.cell 6, G10.out.cell 7, G10.out.cell 8, G10.out.cell 9, G10.out.cell 10, G10.out.cell 11⟩
    clear hK K
    try simp only [Act.put, List.setIfInBounds_toArray, List.set_cons_zero, List.set_cons_succ]
    clear hHeld
    have hHeld : (fun w' => w'.cell? ⟨p, 7, none⟩ = some (.bool s.mr) ∧ w'.cell? ⟨g, 2, none⟩ = some (.int .i64 x0) ∧ w'.cell? ⟨g, 3, none⟩ = some (.int .i64 x1) ∧ w'.cell? ⟨g, 4, none⟩ = some (.int .u64 x2) ∧ w'.cell? ⟨g, 5, none⟩ = some (.int .i64 x3) ∧ w'.cell? ⟨g, 6, none⟩ = some (.int .u64 x4) ∧ w'.cell? ⟨g, 7, none⟩ = some (.int .i64 y0) ∧ w'.cell? ⟨g, 8, none⟩ = some (.int .i64 y1) ∧ w'.cell? ⟨g, 9, none⟩ = some (.int .u64 y2) ∧ w'.cell? ⟨g, 10, none⟩ = some (.int .i64 y3) ∧ w'.cell? ⟨g, 11, none⟩ = some (.int .u64 y4)) W9 := ⟨P10.out.cell 7, G10.out.cell 2, G10.out.cell 3, G10.out.cell 4, G10.out.cell 5, G10.out.cell 6, G10.out.cell 7, G10.out.cell 8, G10.out.cell 9, G10.out.cell 10, G10.out.cell 11⟩
    refine doneL (by kernel_rfl) ?_ _
    clear hHeld
    go_wp2
    refine ret_an (p := 6) (b := H + 1) Tryd.results31 rfl rfl F9.out ?_
    exact ⟨ca, cc, rfl, BY9.out, B10.out⟩

set_option maxHeartbeats 8000000 in
set_option maxRecDepth 100000 in
theorem rec_none (base p lp lm km : Nat) (va : Option Addr) (vc : Nat) (ma : Option Addr) (mc : Nat) (s : PS) (w : World) (h : PAt w base p lp lm km va vc ma mc s) (x y : Int) (hv : okV (x, y)) (hm : okMe s.me) (hy : 0 ≤ y) (ho : findC s.me s.L (x, y) = none) (bv : Value) : Calls Tryd.prog 31 #[.pointer (some ⟨p, 0, none⟩), .agg #[.int .i64 x, .int .u64 y], bv] w fun e w' => e = .returned (.agg #[.int .i64 2, .bool false, .int .i64 0, .int .i64 0, .int .u64 0, .int .i64 0, .int .u64 0, .int .i64 0, .int .i64 0, .int .u64 0, .int .i64 0, .int .u64 0, .slice none 0 0]) ∧ Below w.heap.size w w' := by
  have mixed : Tryd.prog.follows .mixedOrders = true := by kernel_rfl
  have b2 : Below w.heap.size w ((w.alloc (.cells #[.int .i64 x, .int .u64 y] 27)).alloc (.cells #[.int .i64 0, .bool false, .int .i64 0, .int .i64 0, .int .u64 0, .int .i64 0, .int .u64 0, .int .i64 0, .int .i64 0, .int .u64 0, .int .i64 0, .int .u64 0, .slice none 0 0] 61)) := ((Below.refl _ w).alloc (Nat.le_refl _) _).alloc (by simp) _
  have P := hide (h.blk.below b2)
  have V := hide ((IsB.new w #[.int .i64 x, .int .u64 y] 27).alloc (.cells #[.int .i64 0, .bool false, .int .i64 0, .int .i64 0, .int .u64 0, .int .i64 0, .int .u64 0, .int .i64 0, .int .i64 0, .int .u64 0, .int .i64 0, .int .u64 0, .slice none 0 0] 61))
  have A0 := IsB.new (w.alloc (.cells #[.int .i64 x, .int .u64 y] 27)) #[.int .i64 0, .bool false, .int .i64 0, .int .i64 0, .int .u64 0, .int .i64 0, .int .u64 0, .int .i64 0, .int .i64 0, .int .u64 0, .int .i64 0, .int .u64 0, .slice none 0 0] 61
  simp only [World.size_alloc] at A0
  have A := hide A0
  have B := hide b2
  have h0 := hide h
  clear h b2 A0
  have ho := hide ho
  go_enter Tryd.func31, Tryd.ntmps31
  go_wp2_with fail
  generalize (w.alloc (.cells #[.int .i64 x, .int .u64 y] 27)).alloc (.cells #[.int .i64 0, .bool false, .int .i64 0, .int .i64 0, .int .u64 0, .int .i64 0, .int .u64 0, .int .i64 0, .int .i64 0, .int .u64 0, .int .i64 0, .int .u64 0, .slice none 0 0] 61) = W1 at P V A B ⊢
  generalize hH : w.heap.size = H at V A ⊢
  replace hH := hide hH
  replace P := hide (P.out.below (Below.refl _ W1).drew)
  replace V := hide (V.out.below (Below.refl _ W1).drew)
  replace A := hide (A.out.below (Below.refl _ W1).drew)
  replace B := hide (B.out.trans ((Below.refl _ W1).drew.mono B.out.size))
  refine regionL 12 (fun w' => w'.cell? ⟨p, 8, none⟩ = some (.pointer (some ⟨lp, 0, none⟩)) ∧ w'.cell? ⟨H, 0, none⟩ = some (.int .i64 x) ∧ w'.cell? ⟨H, 1, none⟩ = some (.int .u64 y)) mixed ⟨P.out.cell 8, V.out.cell 0, V.out.cell 1⟩ (fun hHeld => ?_)
  generalize hW2 : W1.drew = W2 at *
  clear hW2
  refine pickA (v := ?_) 0 (some 10) rfl rfl (by kernel_rfl) (by kernel_rfl) (by kernel_rfl) (by decide) (fun _ _ _ h => h) (by rfl) ?_ (by assumption) ?_
  rotate_left
  · intro w'
    go_simp
    try with_reducible rfl
  try simp only [Act.put, List.setIfInBounds_toArray, List.set_cons_zero, List.set_cons_succ]
  refine pickA (v := ?_) 1 (some 11) rfl rfl (by kernel_rfl) (by kernel_rfl) (by kernel_rfl) (by decide) (fun _ _ _ h => h) (by rfl) ?_ (by assumption) ?_
  rotate_left
  · intro w'
    go_simp
    try with_reducible rfl
  try simp only [Act.put, List.setIfInBounds_toArray, List.set_cons_zero, List.set_cons_succ]
  refine pickA (v := ?_) 2 (some 12) rfl rfl (by kernel_rfl) (by kernel_rfl) (by kernel_rfl) (by decide) (fun _ _ _ h => h) (by rfl) ?_ (by assumption) ?_
  rotate_left
  · intro w'
    go_simp
    try with_reducible rfl
  try simp only [Act.put, List.setIfInBounds_toArray, List.set_cons_zero, List.set_cons_succ]
  refine pickL (v := ?_) 3 (some 13) rfl rfl (by kernel_rfl) (by kernel_rfl) (by kernel_rfl) (by decide) (by kernel_rfl) (by kernel_rfl) (fun _ _ _ h => h) (by rfl) ?_ (by assumption) ?_
  rotate_left
  · intro w' hSw
    obtain ⟨q0, q1, q2⟩ := hSw
    go_simp
    try with_reducible rfl
  try simp only [Act.put, List.setIfInBounds_toArray, List.set_cons_zero, List.set_cons_succ]
  refine pickL (v := ?_) 4 (some 14) rfl rfl (by kernel_rfl) (by kernel_rfl) (by kernel_rfl) (by decide) (by kernel_rfl) (by kernel_rfl) (fun _ _ _ h => h) (by rfl) ?_ (by assumption) ?_
  rotate_left
  · intro w' hSw
    obtain ⟨q0, q1, q2⟩ := hSw
    go_simp
    try with_reducible rfl
  try simp only [Act.put, List.setIfInBounds_toArray, List.set_cons_zero, List.set_cons_succ]
  refine twoL (i := 5) (j := 9) (by kernel_rfl) rfl rfl (fun K hK => ?_) (fun K hK => ?_)
  · go_simp
    refine (get_none base lp lm s.me s.L _ (h0.out.lk.below B.out) x y hv hm hy ho.out).mono ?_; rintro e w3 ⟨rfl, hb⟩
    replace P := hide (P.out.below hb)
    replace V := hide (V.out.below hb)
    replace A := hide (A.out.below hb)
    replace B := hide (B.out.trans (hb.mono B.out.size))
    clear hb
    have hS : (fun w' => w'.cell? ⟨p, 8, none⟩ = some (.pointer (some ⟨lp, 0, none⟩)) ∧ w'.cell? ⟨H, 0, none⟩ = some (.int .i64 x) ∧ w'.cell? ⟨H, 1, none⟩ = some (.int .u64 y)) w3 := ⟨P.out.cell 8, V.out.cell 0, V.out.cell 1⟩
    refine hK.out _ _ ?_ ?_
    · exact hS
    clear hK K
    try simp only [Act.put, List.setIfInBounds_toArray, List.set_cons_zero, List.set_cons_succ]
    clear hHeld
    have hHeld := hS
    clear hS
    refine pickA (v := ?_) 6 (some 9) rfl rfl (by kernel_rfl) (by kernel_rfl) (by kernel_rfl) (by decide) (fun _ _ _ h => h) (by rfl) ?_ (by assumption) ?_
    rotate_left
    · intro w'
      go_simp
      try with_reducible rfl
    try simp only [Act.put, List.setIfInBounds_toArray, List.set_cons_zero, List.set_cons_succ]
    refine pickA (v := ?_) 7 (some 16) rfl rfl (by kernel_rfl) (by kernel_rfl) (by kernel_rfl) (by decide) (fun _ _ _ h => h) (by rfl) ?_ (by assumption) ?_
    rotate_left
    · intro w'
      go_simp
      try with_reducible rfl
    try simp only [Act.put, List.setIfInBounds_toArray, List.set_cons_zero, List.set_cons_succ]
    refine pickA (v := ?_) 8 (some 17) rfl rfl (by kernel_rfl) (by kernel_rfl) (by kernel_rfl) (by decide) (fun _ _ _ h => h) (by rfl) ?_ (by assumption) ?_
    rotate_left
    · intro w'
      go_simp
      try with_reducible rfl
    try simp only [Act.put, List.setIfInBounds_toArray, List.set_cons_zero, List.set_cons_succ]
    refine oneL (i := 9) (by kernel_rfl) rfl (fun K hK => ?_)
    go_simp
    have ba := (Below.refl _ w3).alloc (Nat.le_refl _) (.cells #[.int .i64 0, .int .u64 0, .int .i64 0, .int .i64 0, .int .u64 0, .int .i64 0, .int .u64 0, .int .i64 0, .int .i64 0, .int .u64 0, .int .i64 0, .int .u64 0, .bool false, .int .i64 0, .int .i64 0, .slice none 0 0] 107)
    have G := hide (IsB.new w3 #[.int .i64 0, .int .u64 0, .int .i64 0, .int .i64 0, .int .u64 0, .int .i64 0, .int .u64 0, .int .i64 0, .int .i64 0, .int .u64 0, .int .i64 0, .int .u64 0, .bool false, .int .i64 0, .int .i64 0, .slice none 0 0] 107)
    have hGs : w.heap.size ≤ w3.heap.size := B.out.size
    have hAG : H + 1 < w3.heap.size := A.out.lt
    replace P := hide (P.out.below ba)
    replace V := hide (V.out.below ba)
    replace A := hide (A.out.below ba)
    replace B := hide (B.out.trans (ba.mono B.out.size))
    clear ba
    have hS : (fun w' => w'.cell? ⟨p, 8, none⟩ = some (.pointer (some ⟨lp, 0, none⟩)) ∧ w'.cell? ⟨H, 0, none⟩ = some (.int .i64 x) ∧ w'.cell? ⟨H, 1, none⟩ = some (.int .u64 y)) (w3.alloc (.cells #[.int .i64 0, .int .u64 0, .int .i64 0, .int .i64 0, .int .u64 0, .int .i64 0, .int .u64 0, .int .i64 0, .int .i64 0, .int .u64 0, .int .i64 0, .int .u64 0, .bool false, .int .i64 0, .int .i64 0, .slice none 0 0] 107)) := ⟨P.out.cell 8, V.out.cell 0, V.out.cell 1⟩
    refine hK.out _ _ ?_ ?_
    · exact hS
    clear hK K
    try simp only [Act.put, List.setIfInBounds_toArray, List.set_cons_zero, List.set_cons_succ]
    clear hHeld
    have hHeld := hS
    clear hS
    generalize w3.alloc (.cells #[.int .i64 0, .int .u64 0, .int .i64 0, .int .i64 0, .int .u64 0, .int .i64 0, .int .u64 0, .int .i64 0, .int .i64 0, .int .u64 0, .int .i64 0, .int .u64 0, .bool false, .int .i64 0, .int .i64 0, .slice none 0 0] 107) = W6 at P V A B G hHeld ⊢
    generalize w3.heap.size = g at G hGs hAG ⊢
    have z0 : W6.frozen? ⟨g, 0, none⟩ = false := G.out.free 0
    have c0 : W6.cell? ⟨g, 0, none⟩ = some (.int .i64 0) := G.out.cell 0
    have z1 : W6.frozen? ⟨g, 1, none⟩ = false := G.out.free 1
    have c1 : W6.cell? ⟨g, 1, none⟩ = some (.int .u64 0) := G.out.cell 1
    have z2 : W6.frozen? ⟨g, 2, none⟩ = false := G.out.free 2
    have c2 : W6.cell? ⟨g, 2, none⟩ = some (.int .i64 0) := G.out.cell 2
    have z3 : W6.frozen? ⟨g, 3, none⟩ = false := G.out.free 3
    have c3 : W6.cell? ⟨g, 3, none⟩ = some (.int .i64 0) := G.out.cell 3
    have z4 : W6.frozen? ⟨g, 4, none⟩ = false := G.out.free 4
    have c4 : W6.cell? ⟨g, 4, none⟩ = some (.int .u64 0) := G.out.cell 4
    have z5 : W6.frozen? ⟨g, 5, none⟩ = false := G.out.free 5
    have c5 : W6.cell? ⟨g, 5, none⟩ = some (.int .i64 0) := G.out.cell 5
    have z6 : W6.frozen? ⟨g, 6, none⟩ = false := G.out.free 6
    have c6 : W6.cell? ⟨g, 6, none⟩ = some (.int .u64 0) := G.out.cell 6
    have z7 : W6.frozen? ⟨g, 7, none⟩ = false := G.out.free 7
    have c7 : W6.cell? ⟨g, 7, none⟩ = some (.int .i64 0) := G.out.cell 7
    have z8 : W6.frozen? ⟨g, 8, none⟩ = false := G.out.free 8
    have c8 : W6.cell? ⟨g, 8, none⟩ = some (.int .i64 0) := G.out.cell 8
    have z9 : W6.frozen? ⟨g, 9, none⟩ = false := G.out.free 9
    have c9 : W6.cell? ⟨g, 9, none⟩ = some (.int .u64 0) := G.out.cell 9
    have z10 : W6.frozen? ⟨g, 10, none⟩ = false := G.out.free 10
    have c10 : W6.cell? ⟨g, 10, none⟩ = some (.int .i64 0) := G.out.cell 10
    have z11 : W6.frozen? ⟨g, 11, none⟩ = false := G.out.free 11
    have c11 : W6.cell? ⟨g, 11, none⟩ = some (.int .u64 0) := G.out.cell 11
    have z12 : W6.frozen? ⟨g, 12, none⟩ = false := G.out.free 12
    have c12 : W6.cell? ⟨g, 12, none⟩ = some (.bool false) := G.out.cell 12
    have z13 : W6.frozen? ⟨g, 13, none⟩ = false := G.out.free 13
    have c13 : W6.cell? ⟨g, 13, none⟩ = some (.int .i64 0) := G.out.cell 13
    have z14 : W6.frozen? ⟨g, 14, none⟩ = false := G.out.free 14
    have c14 : W6.cell? ⟨g, 14, none⟩ = some (.int .i64 0) := G.out.cell 14
    have z15 : W6.frozen? ⟨g, 15, none⟩ = false := G.out.free 15
    have c15 : W6.cell? ⟨g, 15, none⟩ = some (.slice none 0 0) := G.out.cell 15
    have fl := G.out.lt
    refine oneL (i := 10) (by kernel_rfl) rfl (fun K hK => ?_)
    go_simp
    clear z0 c0 z1 c1 z2 c2 z3 c3 z4 c4 z5 c5 z6 c6 z7 c7 z8 c8 z9 c9 z10 c10 z11 c11 z12 c12 z13 c13 z14 c14 z15 c15
    have hW : ((((((((((((((((W6.setCell ⟨g, 0, none⟩ (.int .i64 0)).setCell ⟨g, 1, none⟩ (.int .u64 0)).setCell ⟨g, 2, none⟩ (.int .i64 0)).setCell ⟨g, 3, none⟩ (.int .i64 0)).setCell ⟨g, 4, none⟩ (.int .u64 0)).setCell ⟨g, 5, none⟩ (.int .i64 0)).setCell ⟨g, 6, none⟩ (.int .u64 0)).setCell ⟨g, 7, none⟩ (.int .i64 0)).setCell ⟨g, 8, none⟩ (.int .i64 0)).setCell ⟨g, 9, none⟩ (.int .u64 0)).setCell ⟨g, 10, none⟩ (.int .i64 0)).setCell ⟨g, 11, none⟩ (.int .u64 0)).setCell ⟨g, 12, none⟩ (.bool false)).setCell ⟨g, 13, none⟩ (.int .i64 0)).setCell ⟨g, 14, none⟩ (.int .i64 0)).setCell ⟨g, 15, none⟩ (.slice none 0 0)) = putCells W6 g 0 [.int .i64 0, .int .u64 0, .int .i64 0, .int .i64 0, .int .u64 0, .int .i64 0, .int .u64 0, .int .i64 0, .int .i64 0, .int .u64 0, .int .i64 0, .int .u64 0, .bool false, .int .i64 0, .int .i64 0, .slice none 0 0] := rfl
    rw [hW]
    clear hW
    have G9 := hide (putCells_is (cs := [.int .i64 0, .int .u64 0, .int .i64 0, .int .i64 0, .int .u64 0, .int .i64 0, .int .u64 0, .int .i64 0, .int .i64 0, .int .u64 0, .int .i64 0, .int .u64 0, .bool false, .int .i64 0, .int .i64 0, .slice none 0 0]) G.out [.int .i64 0, .int .u64 0, .int .i64 0, .int .i64 0, .int .u64 0, .int .i64 0, .int .u64 0, .int .i64 0, .int .i64 0, .int .u64 0, .int .i64 0, .int .u64 0, .bool false, .int .i64 0, .int .i64 0, .slice none 0 0] rfl)
    have k9 := putCells_kp g [.int .i64 0, .int .u64 0, .int .i64 0, .int .i64 0, .int .u64 0, .int .i64 0, .int .u64 0, .int .i64 0, .int .i64 0, .int .u64 0, .int .i64 0, .int .u64 0, .bool false, .int .i64 0, .int .i64 0, .slice none 0 0] W6 0
    have P9 := hide (P.out.kp k9 (by simp only [List.mem_cons, List.not_mem_nil, or_false]; exact P.out.ne_t G.out (by decide)))
    have V9 := hide (V.out.kp k9 (by simp only [List.mem_cons, List.not_mem_nil, or_false]; exact V.out.ne_t G.out (by decide)))
    have A9 := hide (A.out.kp k9 (by simp only [List.mem_cons, List.not_mem_nil, or_false]; exact A.out.ne_t G.out (by decide)))
    have B9 := hide (((Kp.of_below (S := []) B.out).trans k9 (fun j hj => by simp at hj; right; omega)).to_below (Nat.le_refl _) (by simp))
    clear k9 P V A B G
    generalize putCells W6 g 0 [.int .i64 0, .int .u64 0, .int .i64 0, .int .i64 0, .int .u64 0, .int .i64 0, .int .u64 0, .int .i64 0, .int .i64 0, .int .u64 0, .int .i64 0, .int .u64 0, .bool false, .int .i64 0, .int .i64 0, .slice none 0 0] = W7 at G9 P9 V9 A9 B9 ⊢
    have hS : (fun w' => w'.cell? ⟨p, 8, none⟩ = some (.pointer (some ⟨lp, 0, none⟩)) ∧ w'.cell? ⟨H, 0, none⟩ = some (.int .i64 x) ∧ w'.cell? ⟨H, 1, none⟩ = some (.int .u64 y)) W7 := ⟨P9.out.cell 8, V9.out.cell 0, V9.out.cell 1⟩
    refine hK.out _ _ ?_ ?_
    · exact hS
    clear hK K
    try simp only [Act.put, List.setIfInBounds_toArray, List.set_cons_zero, List.set_cons_succ]
    clear hHeld
    have hHeld := hS
    clear hS
    refine pickA (v := ?_) 11 (some 8) rfl rfl (by kernel_rfl) (by kernel_rfl) (by kernel_rfl) (by decide) (fun _ _ _ h => h) (by rfl) ?_ (by assumption) ?_
    rotate_left
    · intro w'
      go_simp
      try with_reducible rfl
    try simp only [Act.put, List.setIfInBounds_toArray, List.set_cons_zero, List.set_cons_succ]
    refine doneL (by kernel_rfl) ?_ _
    clear hHeld
    go_wp2_with fail
    refine (plain_any 2 _).mono ?_; rintro e w8 ⟨rfl, hb⟩
    replace A9 := hide (A9.out.below hb)
    replace B9 := hide (B9.out.trans (hb.mono B9.out.size))
    clear hb
    have z0 : w8.frozen? ⟨H + 1, 0, none⟩ = false := A9.out.free 0
    have c0 : w8.cell? ⟨H + 1, 0, none⟩ = some (.int .i64 0) := A9.out.cell 0
    have z1 : w8.frozen? ⟨H + 1, 1, none⟩ = false := A9.out.free 1
    have c1 : w8.cell? ⟨H + 1, 1, none⟩ = some (.bool false) := A9.out.cell 1
    have z2 : w8.frozen? ⟨H + 1, 2, none⟩ = false := A9.out.free 2
    have c2 : w8.cell? ⟨H + 1, 2, none⟩ = some (.int .i64 0) := A9.out.cell 2
    have z3 : w8.frozen? ⟨H + 1, 3, none⟩ = false := A9.out.free 3
    have c3 : w8.cell? ⟨H + 1, 3, none⟩ = some (.int .i64 0) := A9.out.cell 3
    have z4 : w8.frozen? ⟨H + 1, 4, none⟩ = false := A9.out.free 4
    have c4 : w8.cell? ⟨H + 1, 4, none⟩ = some (.int .u64 0) := A9.out.cell 4
    have z5 : w8.frozen? ⟨H + 1, 5, none⟩ = false := A9.out.free 5
    have c5 : w8.cell? ⟨H + 1, 5, none⟩ = some (.int .i64 0) := A9.out.cell 5
    have z6 : w8.frozen? ⟨H + 1, 6, none⟩ = false := A9.out.free 6
    have c6 : w8.cell? ⟨H + 1, 6, none⟩ = some (.int .u64 0) := A9.out.cell 6
    have z7 : w8.frozen? ⟨H + 1, 7, none⟩ = false := A9.out.free 7
    have c7 : w8.cell? ⟨H + 1, 7, none⟩ = some (.int .i64 0) := A9.out.cell 7
    have z8 : w8.frozen? ⟨H + 1, 8, none⟩ = false := A9.out.free 8
    have c8 : w8.cell? ⟨H + 1, 8, none⟩ = some (.int .i64 0) := A9.out.cell 8
    have z9 : w8.frozen? ⟨H + 1, 9, none⟩ = false := A9.out.free 9
    have c9 : w8.cell? ⟨H + 1, 9, none⟩ = some (.int .u64 0) := A9.out.cell 9
    have z10 : w8.frozen? ⟨H + 1, 10, none⟩ = false := A9.out.free 10
    have c10 : w8.cell? ⟨H + 1, 10, none⟩ = some (.int .i64 0) := A9.out.cell 10
    have z11 : w8.frozen? ⟨H + 1, 11, none⟩ = false := A9.out.free 11
    have c11 : w8.cell? ⟨H + 1, 11, none⟩ = some (.int .u64 0) := A9.out.cell 11
    have z12 : w8.frozen? ⟨H + 1, 12, none⟩ = false := A9.out.free 12
    have c12 : w8.cell? ⟨H + 1, 12, none⟩ = some (.slice none 0 0) := A9.out.cell 12
    have fl := A9.out.lt
    go_wp2
    clear z0 c0 z1 c1 z2 c2 z3 c3 z4 c4 z5 c5 z6 c6 z7 c7 z8 c8 z9 c9 z10 c10 z11 c11 z12 c12
    have hW : (((((((((((((w8.setCell ⟨H + 1, 0, none⟩ (.int .i64 2)).setCell ⟨H + 1, 1, none⟩ (.bool false)).setCell ⟨H + 1, 2, none⟩ (.int .i64 0)).setCell ⟨H + 1, 3, none⟩ (.int .i64 0)).setCell ⟨H + 1, 4, none⟩ (.int .u64 0)).setCell ⟨H + 1, 5, none⟩ (.int .i64 0)).setCell ⟨H + 1, 6, none⟩ (.int .u64 0)).setCell ⟨H + 1, 7, none⟩ (.int .i64 0)).setCell ⟨H + 1, 8, none⟩ (.int .i64 0)).setCell ⟨H + 1, 9, none⟩ (.int .u64 0)).setCell ⟨H + 1, 10, none⟩ (.int .i64 0)).setCell ⟨H + 1, 11, none⟩ (.int .u64 0)).setCell ⟨H + 1, 12, none⟩ (.slice none 0 0)) = putCells w8 (H + 1) 0 [.int .i64 2, .bool false, .int .i64 0, .int .i64 0, .int .u64 0, .int .i64 0, .int .u64 0, .int .i64 0, .int .i64 0, .int .u64 0, .int .i64 0, .int .u64 0, .slice none 0 0] := rfl
    rw [hW]
    clear hW
    have F9 := putCells_is (cs := [.int .i64 0, .bool false, .int .i64 0, .int .i64 0, .int .u64 0, .int .i64 0, .int .u64 0, .int .i64 0, .int .i64 0, .int .u64 0, .int .i64 0, .int .u64 0, .slice none 0 0]) A9.out [.int .i64 2, .bool false, .int .i64 0, .int .i64 0, .int .u64 0, .int .i64 0, .int .u64 0, .int .i64 0, .int .i64 0, .int .u64 0, .int .i64 0, .int .u64 0, .slice none 0 0] rfl
    have k9 := putCells_kp (H + 1) [.int .i64 2, .bool false, .int .i64 0, .int .i64 0, .int .u64 0, .int .i64 0, .int .u64 0, .int .i64 0, .int .i64 0, .int .u64 0, .int .i64 0, .int .u64 0, .slice none 0 0] w8 0
    refine ret_an (p := 6) (b := H + 1) Tryd.results31 rfl rfl F9 ?_
    exact ⟨rfl, ((Kp.of_below (S := []) B9.out).trans k9 (fun j hj => by simp at hj; right; rw [hj, hH.out]; omega)).to_below (Nat.le_refl _) (by simp)⟩
  · go_simp
    have ba := (Below.refl _ W2).alloc (Nat.le_refl _) (.cells #[.int .i64 0, .int .u64 0, .int .i64 0, .int .i64 0, .int .u64 0, .int .i64 0, .int .u64 0, .int .i64 0, .int .i64 0, .int .u64 0, .int .i64 0, .int .u64 0, .bool false, .int .i64 0, .int .i64 0, .slice none 0 0] 107)
    have G := hide (IsB.new W2 #[.int .i64 0, .int .u64 0, .int .i64 0, .int .i64 0, .int .u64 0, .int .i64 0, .int .u64 0, .int .i64 0, .int .i64 0, .int .u64 0, .int .i64 0, .int .u64 0, .bool false, .int .i64 0, .int .i64 0, .slice none 0 0] 107)
    have hGs : w.heap.size ≤ W2.heap.size := B.out.size
    have hAG : H + 1 < W2.heap.size := A.out.lt
    replace P := hide (P.out.below ba)
    replace V := hide (V.out.below ba)
    replace A := hide (A.out.below ba)
    replace B := hide (B.out.trans (ba.mono B.out.size))
    clear ba
    have hS : (fun w' => w'.cell? ⟨p, 8, none⟩ = some (.pointer (some ⟨lp, 0, none⟩)) ∧ w'.cell? ⟨H, 0, none⟩ = some (.int .i64 x) ∧ w'.cell? ⟨H, 1, none⟩ = some (.int .u64 y)) (W2.alloc (.cells #[.int .i64 0, .int .u64 0, .int .i64 0, .int .i64 0, .int .u64 0, .int .i64 0, .int .u64 0, .int .i64 0, .int .i64 0, .int .u64 0, .int .i64 0, .int .u64 0, .bool false, .int .i64 0, .int .i64 0, .slice none 0 0] 107)) := ⟨P.out.cell 8, V.out.cell 0, V.out.cell 1⟩
    refine hK.out _ _ ?_ ?_
    · exact hS
    clear hK K
    try simp only [Act.put, List.setIfInBounds_toArray, List.set_cons_zero, List.set_cons_succ]
    clear hHeld
    have hHeld := hS
    clear hS
    generalize W2.alloc (.cells #[.int .i64 0, .int .u64 0, .int .i64 0, .int .i64 0, .int .u64 0, .int .i64 0, .int .u64 0, .int .i64 0, .int .i64 0, .int .u64 0, .int .i64 0, .int .u64 0, .bool false, .int .i64 0, .int .i64 0, .slice none 0 0] 107) = W5 at P V A B G hHeld ⊢
    generalize W2.heap.size = g at G hGs hAG ⊢
    refine oneL (i := 5) (by kernel_rfl) rfl (fun K hK => ?_)
    go_simp
    refine (get_none base lp lm s.me s.L _ (h0.out.lk.below B.out) x y hv hm hy ho.out).mono ?_; rintro e w3 ⟨rfl, hb⟩
    replace G := hide (G.out.below hb)
    replace P := hide (P.out.below hb)
    replace V := hide (V.out.below hb)
    replace A := hide (A.out.below hb)
    replace B := hide (B.out.trans (hb.mono B.out.size))
    clear hb
    have hS : (fun w' => w'.cell? ⟨p, 8, none⟩ = some (.pointer (some ⟨lp, 0, none⟩)) ∧ w'.cell? ⟨H, 0, none⟩ = some (.int .i64 x) ∧ w'.cell? ⟨H, 1, none⟩ = some (.int .u64 y)) w3 := ⟨P.out.cell 8, V.out.cell 0, V.out.cell 1⟩
    refine hK.out _ _ ?_ ?_
    · exact hS
    clear hK K
    try simp only [Act.put, List.setIfInBounds_toArray, List.set_cons_zero, List.set_cons_succ]
    clear hHeld
    have hHeld := hS
    clear hS
    refine pickA (v := ?_) 6 (some 9) rfl rfl (by kernel_rfl) (by kernel_rfl) (by kernel_rfl) (by decide) (fun _ _ _ h => h) (by rfl) ?_ (by assumption) ?_
    rotate_left
    · intro w'
      go_simp
      try with_reducible rfl
    try simp only [Act.put, List.setIfInBounds_toArray, List.set_cons_zero, List.set_cons_succ]
    refine pickA (v := ?_) 7 (some 16) rfl rfl (by kernel_rfl) (by kernel_rfl) (by kernel_rfl) (by decide) (fun _ _ _ h => h) (by rfl) ?_ (by assumption) ?_
    rotate_left
    · intro w'
      go_simp
      try with_reducible rfl
    try simp only [Act.put, List.setIfInBounds_toArray, List.set_cons_zero, List.set_cons_succ]
    refine pickA (v := ?_) 8 (some 17) rfl rfl (by kernel_rfl) (by kernel_rfl) (by kernel_rfl) (by decide) (fun _ _ _ h => h) (by rfl) ?_ (by assumption) ?_
    rotate_left
    · intro w'
      go_simp
      try with_reducible rfl
    try simp only [Act.put, List.setIfInBounds_toArray, List.set_cons_zero, List.set_cons_succ]
    generalize w3 = W6 at *
    have z0 : W6.frozen? ⟨g, 0, none⟩ = false := G.out.free 0
    have c0 : W6.cell? ⟨g, 0, none⟩ = some (.int .i64 0) := G.out.cell 0
    have z1 : W6.frozen? ⟨g, 1, none⟩ = false := G.out.free 1
    have c1 : W6.cell? ⟨g, 1, none⟩ = some (.int .u64 0) := G.out.cell 1
    have z2 : W6.frozen? ⟨g, 2, none⟩ = false := G.out.free 2
    have c2 : W6.cell? ⟨g, 2, none⟩ = some (.int .i64 0) := G.out.cell 2
    have z3 : W6.frozen? ⟨g, 3, none⟩ = false := G.out.free 3
    have c3 : W6.cell? ⟨g, 3, none⟩ = some (.int .i64 0) := G.out.cell 3
    have z4 : W6.frozen? ⟨g, 4, none⟩ = false := G.out.free 4
    have c4 : W6.cell? ⟨g, 4, none⟩ = some (.int .u64 0) := G.out.cell 4
    have z5 : W6.frozen? ⟨g, 5, none⟩ = false := G.out.free 5
    have c5 : W6.cell? ⟨g, 5, none⟩ = some (.int .i64 0) := G.out.cell 5
    have z6 : W6.frozen? ⟨g, 6, none⟩ = false := G.out.free 6
    have c6 : W6.cell? ⟨g, 6, none⟩ = some (.int .u64 0) := G.out.cell 6
    have z7 : W6.frozen? ⟨g, 7, none⟩ = false := G.out.free 7
    have c7 : W6.cell? ⟨g, 7, none⟩ = some (.int .i64 0) := G.out.cell 7
    have z8 : W6.frozen? ⟨g, 8, none⟩ = false := G.out.free 8
    have c8 : W6.cell? ⟨g, 8, none⟩ = some (.int .i64 0) := G.out.cell 8
    have z9 : W6.frozen? ⟨g, 9, none⟩ = false := G.out.free 9
    have c9 : W6.cell? ⟨g, 9, none⟩ = some (.int .u64 0) := G.out.cell 9
    have z10 : W6.frozen? ⟨g, 10, none⟩ = false := G.out.free 10
    have c10 : W6.cell? ⟨g, 10, none⟩ = some (.int .i64 0) := G.out.cell 10
    have z11 : W6.frozen? ⟨g, 11, none⟩ = false := G.out.free 11
    have c11 : W6.cell? ⟨g, 11, none⟩ = some (.int .u64 0) := G.out.cell 11
    have z12 : W6.frozen? ⟨g, 12, none⟩ = false := G.out.free 12
    have c12 : W6.cell? ⟨g, 12, none⟩ = some (.bool false) := G.out.cell 12
    have z13 : W6.frozen? ⟨g, 13, none⟩ = false := G.out.free 13
    have c13 : W6.cell? ⟨g, 13, none⟩ = some (.int .i64 0) := G.out.cell 13
    have z14 : W6.frozen? ⟨g, 14, none⟩ = false := G.out.free 14
    have c14 : W6.cell? ⟨g, 14, none⟩ = some (.int .i64 0) := G.out.cell 14
    have z15 : W6.frozen? ⟨g, 15, none⟩ = false := G.out.free 15
    have c15 : W6.cell? ⟨g, 15, none⟩ = some (.slice none 0 0) := G.out.cell 15
    have fl := G.out.lt
    refine oneL (i := 10) (by kernel_rfl) rfl (fun K hK => ?_)
    go_simp
    clear z0 c0 z1 c1 z2 c2 z3 c3 z4 c4 z5 c5 z6 c6 z7 c7 z8 c8 z9 c9 z10 c10 z11 c11 z12 c12 z13 c13 z14 c14 z15 c15
    have hW : ((((((((((((((((W6.setCell ⟨g, 0, none⟩ (.int .i64 0)).setCell ⟨g, 1, none⟩ (.int .u64 0)).setCell ⟨g, 2, none⟩ (.int .i64 0)).setCell ⟨g, 3, none⟩ (.int .i64 0)).setCell ⟨g, 4, none⟩ (.int .u64 0)).setCell ⟨g, 5, none⟩ (.int .i64 0)).setCell ⟨g, 6, none⟩ (.int .u64 0)).setCell ⟨g, 7, none⟩ (.int .i64 0)).setCell ⟨g, 8, none⟩ (.int .i64 0)).setCell ⟨g, 9, none⟩ (.int .u64 0)).setCell ⟨g, 10, none⟩ (.int .i64 0)).setCell ⟨g, 11, none⟩ (.int .u64 0)).setCell ⟨g, 12, none⟩ (.bool false)).setCell ⟨g, 13, none⟩ (.int .i64 0)).setCell ⟨g, 14, none⟩ (.int .i64 0)).setCell ⟨g, 15, none⟩ (.slice none 0 0)) = putCells W6 g 0 [.int .i64 0, .int .u64 0, .int .i64 0, .int .i64 0, .int .u64 0, .int .i64 0, .int .u64 0, .int .i64 0, .int .i64 0, .int .u64 0, .int .i64 0, .int .u64 0, .bool false, .int .i64 0, .int .i64 0, .slice none 0 0] := rfl
    rw [hW]
    clear hW
    have G9 := hide (putCells_is (cs := [.int .i64 0, .int .u64 0, .int .i64 0, .int .i64 0, .int .u64 0, .int .i64 0, .int .u64 0, .int .i64 0, .int .i64 0, .int .u64 0, .int .i64 0, .int .u64 0, .bool false, .int .i64 0, .int .i64 0, .slice none 0 0]) G.out [.int .i64 0, .int .u64 0, .int .i64 0, .int .i64 0, .int .u64 0, .int .i64 0, .int .u64 0, .int .i64 0, .int .i64 0, .int .u64 0, .int .i64 0, .int .u64 0, .bool false, .int .i64 0, .int .i64 0, .slice none 0 0] rfl)
    have k9 := putCells_kp g [.int .i64 0, .int .u64 0, .int .i64 0, .int .i64 0, .int .u64 0, .int .i64 0, .int .u64 0, .int .i64 0, .int .i64 0, .int .u64 0, .int .i64 0, .int .u64 0, .bool false, .int .i64 0, .int .i64 0, .slice none 0 0] W6 0
    have P9 := hide (P.out.kp k9 (by simp only [List.mem_cons, List.not_mem_nil, or_false]; exact P.out.ne_t G.out (by decide)))
    have V9 := hide (V.out.kp k9 (by simp only [List.mem_cons, List.not_mem_nil, or_false]; exact V.out.ne_t G.out (by decide)))
    have A9 := hide (A.out.kp k9 (by simp only [List.mem_cons, List.not_mem_nil, or_false]; exact A.out.ne_t G.out (by decide)))
    have B9 := hide (((Kp.of_below (S := []) B.out).trans k9 (fun j hj => by simp at hj; right; omega)).to_below (Nat.le_refl _) (by simp))
    clear k9 P V A B G
    generalize putCells W6 g 0 [.int .i64 0, .int .u64 0, .int .i64 0, .int .i64 0, .int .u64 0, .int .i64 0, .int .u64 0, .int .i64 0, .int .i64 0, .int .u64 0, .int .i64 0, .int .u64 0, .bool false, .int .i64 0, .int .i64 0, .slice none 0 0] = W7 at G9 P9 V9 A9 B9 ⊢
    have hS : (fun w' => w'.cell? ⟨p, 8, none⟩ = some (.pointer (some ⟨lp, 0, none⟩)) ∧ w'.cell? ⟨H, 0, none⟩ = some (.int .i64 x) ∧ w'.cell? ⟨H, 1, none⟩ = some (.int .u64 y)) W7 := ⟨P9.out.cell 8, V9.out.cell 0, V9.out.cell 1⟩
    refine hK.out _ _ ?_ ?_
    · exact hS
    clear hK K
    try simp only [Act.put, List.setIfInBounds_toArray, List.set_cons_zero, List.set_cons_succ]
    clear hHeld
    have hHeld := hS
    clear hS
    refine pickA (v := ?_) 11 (some 8) rfl rfl (by kernel_rfl) (by kernel_rfl) (by kernel_rfl) (by decide) (fun _ _ _ h => h) (by rfl) ?_ (by assumption) ?_
    rotate_left
    · intro w'
      go_simp
      try with_reducible rfl
    try simp only [Act.put, List.setIfInBounds_toArray, List.set_cons_zero, List.set_cons_succ]
    refine doneL (by kernel_rfl) ?_ _
    clear hHeld
    go_wp2_with fail
    refine (plain_any 2 _).mono ?_; rintro e w8 ⟨rfl, hb⟩
    replace A9 := hide (A9.out.below hb)
    replace B9 := hide (B9.out.trans (hb.mono B9.out.size))
    clear hb
    have z0 : w8.frozen? ⟨H + 1, 0, none⟩ = false := A9.out.free 0
    have c0 : w8.cell? ⟨H + 1, 0, none⟩ = some (.int .i64 0) := A9.out.cell 0
    have z1 : w8.frozen? ⟨H + 1, 1, none⟩ = false := A9.out.free 1
    have c1 : w8.cell? ⟨H + 1, 1, none⟩ = some (.bool false) := A9.out.cell 1
    have z2 : w8.frozen? ⟨H + 1, 2, none⟩ = false := A9.out.free 2
    have c2 : w8.cell? ⟨H + 1, 2, none⟩ = some (.int .i64 0) := A9.out.cell 2
    have z3 : w8.frozen? ⟨H + 1, 3, none⟩ = false := A9.out.free 3
    have c3 : w8.cell? ⟨H + 1, 3, none⟩ = some (.int .i64 0) := A9.out.cell 3
    have z4 : w8.frozen? ⟨H + 1, 4, none⟩ = false := A9.out.free 4
    have c4 : w8.cell? ⟨H + 1, 4, none⟩ = some (.int .u64 0) := A9.out.cell 4
    have z5 : w8.frozen? ⟨H + 1, 5, none⟩ = false := A9.out.free 5
    have c5 : w8.cell? ⟨H + 1, 5, none⟩ = some (.int .i64 0) := A9.out.cell 5
    have z6 : w8.frozen? ⟨H + 1, 6, none⟩ = false := A9.out.free 6
    have c6 : w8.cell? ⟨H + 1, 6, none⟩ = some (.int .u64 0) := A9.out.cell 6
    have z7 : w8.frozen? ⟨H + 1, 7, none⟩ = false := A9.out.free 7
    have c7 : w8.cell? ⟨H + 1, 7, none⟩ = some (.int .i64 0) := A9.out.cell 7
    have z8 : w8.frozen? ⟨H + 1, 8, none⟩ = false := A9.out.free 8
    have c8 : w8.cell? ⟨H + 1, 8, none⟩ = some (.int .i64 0) := A9.out.cell 8
    have z9 : w8.frozen? ⟨H + 1, 9, none⟩ = false := A9.out.free 9
    have c9 : w8.cell? ⟨H + 1, 9, none⟩ = some (.int .u64 0) := A9.out.cell 9
    have z10 : w8.frozen? ⟨H + 1, 10, none⟩ = false := A9.out.free 10
    have c10 : w8.cell? ⟨H + 1, 10, none⟩ = some (.int .i64 0) := A9.out.cell 10
    have z11 : w8.frozen? ⟨H + 1, 11, none⟩ = false := A9.out.free 11
    have c11 : w8.cell? ⟨H + 1, 11, none⟩ = some (.int .u64 0) := A9.out.cell 11
    have z12 : w8.frozen? ⟨H + 1, 12, none⟩ = false := A9.out.free 12
    have c12 : w8.cell? ⟨H + 1, 12, none⟩ = some (.slice none 0 0) := A9.out.cell 12
    have fl := A9.out.lt
    go_wp2
    clear z0 c0 z1 c1 z2 c2 z3 c3 z4 c4 z5 c5 z6 c6 z7 c7 z8 c8 z9 c9 z10 c10 z11 c11 z12 c12
    have hW : (((((((((((((w8.setCell ⟨H + 1, 0, none⟩ (.int .i64 2)).setCell ⟨H + 1, 1, none⟩ (.bool false)).setCell ⟨H + 1, 2, none⟩ (.int .i64 0)).setCell ⟨H + 1, 3, none⟩ (.int .i64 0)).setCell ⟨H + 1, 4, none⟩ (.int .u64 0)).setCell ⟨H + 1, 5, none⟩ (.int .i64 0)).setCell ⟨H + 1, 6, none⟩ (.int .u64 0)).setCell ⟨H + 1, 7, none⟩ (.int .i64 0)).setCell ⟨H + 1, 8, none⟩ (.int .i64 0)).setCell ⟨H + 1, 9, none⟩ (.int .u64 0)).setCell ⟨H + 1, 10, none⟩ (.int .i64 0)).setCell ⟨H + 1, 11, none⟩ (.int .u64 0)).setCell ⟨H + 1, 12, none⟩ (.slice none 0 0)) = putCells w8 (H + 1) 0 [.int .i64 2, .bool false, .int .i64 0, .int .i64 0, .int .u64 0, .int .i64 0, .int .u64 0, .int .i64 0, .int .i64 0, .int .u64 0, .int .i64 0, .int .u64 0, .slice none 0 0] := rfl
    rw [hW]
    clear hW
    have F9 := putCells_is (cs := [.int .i64 0, .bool false, .int .i64 0, .int .i64 0, .int .u64 0, .int .i64 0, .int .u64 0, .int .i64 0, .int .i64 0, .int .u64 0, .int .i64 0, .int .u64 0, .slice none 0 0]) A9.out [.int .i64 2, .bool false, .int .i64 0, .int .i64 0, .int .u64 0, .int .i64 0, .int .u64 0, .int .i64 0, .int .i64 0, .int .u64 0, .int .i64 0, .int .u64 0, .slice none 0 0] rfl
    have k9 := putCells_kp (H + 1) [.int .i64 2, .bool false, .int .i64 0, .int .i64 0, .int .u64 0, .int .i64 0, .int .u64 0, .int .i64 0, .int .i64 0, .int .u64 0, .int .i64 0, .int .u64 0, .slice none 0 0] w8 0
    refine ret_an (p := 6) (b := H + 1) Tryd.results31 rfl rfl F9 ?_
    exact ⟨rfl, ((Kp.of_below (S := []) B9.out).trans k9 (fun j hj => by simp at hj; right; rw [hj, hH.out]; omega)).to_below (Nat.le_refl _) (by simp)⟩

end Go.Proofs.YtdogdinkopocaaaDoor
