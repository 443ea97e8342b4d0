/- The law ModelDoes. -/
import Derived.Test.YtfnpapaibgbjpaaYO
import Derived.Test.YtfnpapaibgbjpaaZU
namespace Go.Proofs.Ytfnpapaibgbjpaa
open Go.RowKit Go.Maps

set_option maxHeartbeats 1000000 in
theorem few_at (v : Value) (l : List It) (w : World) (h : Sl w v l) : ∃ a' c', Sl w (.slice a' (l.take 200).length c') (l.take 200) ∧ ∀ W, Calls Try.prog 9 #[v] W fun e w' => e = .returned (.slice a' (l.take 200).length c') ∧ w' = W := by
  obtain ⟨va, vc, rfl, h1, h2⟩ := h.shape
  have h2 : vc ≤ 9223372036854775807 := by unfold maxLen at h2; omega
  by_cases hn : l.length ≤ 200
  · have HS : l.take 200 = l := List.take_of_length_le hn
    rw [HS]
    refine ⟨va, vc, h, fun W => ?_⟩
    have hd : decide ((200 : Int) < (l.length : Int)) = false := by simp; omega
    clear h HS
    generalize l.length = n at *
    go_enter Try.func9, Try.ntmps9
    go_wp2
    go_ret
    exact ⟨rfl, rfl⟩
  · have hln : (l.take 200).length = 200 := by rw [List.length_take]; omega
    have HS := h.cut 200 (by omega)
    rw [hln]
    refine ⟨va, vc, HS, fun W => ?_⟩
    have hd : decide ((200 : Int) < (l.length : Int)) = true := by simp; omega
    clear h HS hln
    generalize l.length = n at *
    have hc : 200 ≤ vc := by omega
    go_enter Try.func9, Try.ntmps9
    go_wp2
    go_ret
    exact ⟨rfl, rfl⟩
set_option maxHeartbeats 1000000 in
theorem fewX_at (a : Option Addr) (c : Nat) (l : List It) (w : World) (h : SlX w a c l) : ∃ a' c', SlX w a' c' (l.take 200) ∧ ∀ W, Calls Try.prog 9 #[.slice a l.length c] W fun e w' => e = .returned (.slice a' (l.take 200).length c') ∧ w' = W := by
  rcases h with h | rfl
  · obtain ⟨a', c', h1, h2⟩ := few_at _ l w h
    exact ⟨a', c', Or.inl h1, h2⟩
  · refine ⟨a, c, SlX.nil _ _ _, fun W => ?_⟩
    go_enter Try.func9, Try.ntmps9
    go_wp2
    go_ret
    exact ⟨rfl, rfl⟩

set_option maxHeartbeats 3200000 in
set_option maxRecDepth 100000 in
theorem does_any (v : Value) (l0 : List It) (hkm0 : ∀ it ∈ l0, it.k ≤ 18446744073709551615) (kd key high : Int) (ca : Option Addr) (cc : Nat) (cb : List UInt8) (e2 k2 : Int) (f2 : Bool) (va2 : Option Addr) (vc2 : Nat) (vb2 : List UInt8) (ia0 : Option Addr) (ic0 : Nat) (il0 : List It) (p0 p1 p2 p3 p4 r0 r1 r2 r3 r4 : Int) (w : World) (h : Sl w v l0) (hrd : RdC w (⟨kd, key, high, ca, cc, cb⟩ : Ca)) (h2 : Rd8 w va2 vb2) (n2 : va2 = none → vc2 = 0) (s2 : SlX w ia0 ic0 il0) :
    Calls Try.prog 4 #[v, .agg #[.int .i64 kd, .int .u64 key, .int .u64 high, .slice ca cb.length cc], .agg #[.int .i64 e2, .int .u64 k2, .slice va2 vb2.length vc2, .slice ia0 il0.length ic0, .int .i64 p0, .int .i64 p1, .int .u64 p2, .int .i64 p3, .int .u64 p4, .int .i64 r0, .int .i64 r1, .int .u64 r2, .int .i64 r3, .int .u64 r4, .bool f2]] w fun E w' => E = .returned (.bool true) ∧ Below w.heap.size w w' := by
  have mixed : Try.prog.follows .mixedOrders = true := by kernel_rfl
  obtain ⟨va1, vc1, hS1, hF1⟩ := few_at v l0 w h
  obtain ⟨ia2, ic2, hX2, hF2⟩ := fewX_at ia0 ic0 il0 w s2
  have hkm : ∀ it ∈ l0.take 200, it.k ≤ 18446744073709551615 := fun it hi => hkm0 it (List.mem_of_mem_take hi)
  have hl : (l0.take 200).length ≤ 200 := by rw [List.length_take]; omega
  generalize l0.take 200 = l at *
  generalize il0.take 200 = il2 at *
  have SL := hide hS1
  have SX := hide hX2
  have F1 := hide hF1
  have F2 := hide hF2
  have HKM := hide hkm
  have HRd := hide hrd
  have RD2 := hide h2
  have N2 := hide n2
  have b2 := ((Below.refl w.heap.size w).alloc (Nat.le_refl _) (.cells #[.int .i64 kd, .int .u64 key, .int .u64 high, .slice ca cb.length cc] 27)).alloc (by simp) (.cells #[.int .i64 e2, .int .u64 k2, .slice va2 vb2.length vc2, .slice ia0 il0.length ic0, .int .i64 p0, .int .i64 p1, .int .u64 p2, .int .i64 p3, .int .u64 p4, .int .i64 r0, .int .i64 r1, .int .u64 r2, .int .i64 r3, .int .u64 r4, .bool f2] 46)
  have Vb : Hid (IsB ((w.alloc (.cells #[.int .i64 kd, .int .u64 key, .int .u64 high, .slice ca cb.length cc] 27)).alloc (.cells #[.int .i64 e2, .int .u64 k2, .slice va2 vb2.length vc2, .slice ia0 il0.length ic0, .int .i64 p0, .int .i64 p1, .int .u64 p2, .int .i64 p3, .int .u64 p4, .int .i64 r0, .int .i64 r1, .int .u64 r2, .int .i64 r3, .int .u64 r4, .bool f2] 46)) w.heap.size #[.int .i64 kd, .int .u64 key, .int .u64 high, .slice ca cb.length cc] 27) := (IsB.new w #[.int .i64 kd, .int .u64 key, .int .u64 high, .slice ca cb.length cc] _).below ((Below.refl _ _).alloc (Nat.le_refl _) _)
  have Wb : Hid (IsB ((w.alloc (.cells #[.int .i64 kd, .int .u64 key, .int .u64 high, .slice ca cb.length cc] 27)).alloc (.cells #[.int .i64 e2, .int .u64 k2, .slice va2 vb2.length vc2, .slice ia0 il0.length ic0, .int .i64 p0, .int .i64 p1, .int .u64 p2, .int .i64 p3, .int .u64 p4, .int .i64 r0, .int .i64 r1, .int .u64 r2, .int .i64 r3, .int .u64 r4, .bool f2] 46)) (w.heap.size + 1) #[.int .i64 e2, .int .u64 k2, .slice va2 vb2.length vc2, .slice ia0 il0.length ic0, .int .i64 p0, .int .i64 p1, .int .u64 p2, .int .i64 p3, .int .u64 p4, .int .i64 r0, .int .i64 r1, .int .u64 r2, .int .i64 r3, .int .u64 r4, .bool f2] 46) := by
    have := IsB.new (w.alloc (.cells #[.int .i64 kd, .int .u64 key, .int .u64 high, .slice ca cb.length cc] 27)) #[.int .i64 e2, .int .u64 k2, .slice va2 vb2.length vc2, .slice ia0 il0.length ic0, .int .i64 p0, .int .i64 p1, .int .u64 p2, .int .i64 p3, .int .u64 p4, .int .i64 r0, .int .i64 r1, .int .u64 r2, .int .i64 r3, .int .u64 r4, .bool f2] 46
    rwa [World.size_alloc] at this
  have B2 := hide b2
  clear h hrd h2 n2 s2 b2 hS1 hX2 hF1 hF2 hkm hkm0
  go_enter Try.func4, Try.ntmps4
  go_wp2_with fail
  generalize ((w.alloc (.cells #[.int .i64 kd, .int .u64 key, .int .u64 high, .slice ca cb.length cc] 27)).alloc (.cells #[.int .i64 e2, .int .u64 k2, .slice va2 vb2.length vc2, .slice ia0 il0.length ic0, .int .i64 p0, .int .i64 p1, .int .u64 p2, .int .i64 p3, .int .u64 p4, .int .i64 r0, .int .i64 r1, .int .u64 r2, .int .i64 r3, .int .u64 r4, .bool f2] 46)) = W2 at *
  generalize hH : w.heap.size = H at Vb Wb ⊢
  replace hH := hide hH
  replace Vb := hide (Vb.out.below ((Below.refl _ _).drew))
  replace Wb := hide (Wb.out.below ((Below.refl _ _).drew))
  replace B2 := hide B2.out.drew
  refine regionL 7 (fun w' => IsB w' (H + 1) #[.int .i64 e2, .int .u64 k2, .slice va2 vb2.length vc2, .slice ia0 il0.length ic0, .int .i64 p0, .int .i64 p1, .int .u64 p2, .int .i64 p3, .int .u64 p4, .int .i64 r0, .int .i64 r1, .int .u64 r2, .int .i64 r3, .int .u64 r4, .bool f2] 46) mixed Wb.out (fun hHeld => ?_)
  generalize W2.drew = WD at *
  refine pickA (v := ?_) 0 (some 13) rfl rfl (by kernel_rfl) (by kernel_rfl) (by kernel_rfl) (by decide) (fun _ _ _ h => h) (by rfl) ?_ (by assumption) ?_
  rotate_left
  · intro w'
    go_simp
    try with_reducible rfl
  try simp only [Act.put, List.setIfInBounds_toArray, List.set_cons_zero, List.set_cons_succ]
  refine pickA (v := ?_) 2 (some 15) rfl rfl (by kernel_rfl) (by kernel_rfl) (by kernel_rfl) (by decide) (fun _ _ _ h => h) (by rfl) ?_ (by assumption) ?_
  rotate_left
  · intro w'
    go_simp
    try with_reducible rfl
  try simp only [Act.put, List.setIfInBounds_toArray, List.set_cons_zero, List.set_cons_succ]
  refine pickL (v := .slice ia0 il0.length ic0) 3 (some 16) rfl rfl (by kernel_rfl) (by kernel_rfl) (by kernel_rfl) (by decide) (by kernel_rfl) (by kernel_rfl) (fun _ _ _ h => h) (by rfl) ?_ (by assumption) ?_
  · intro w' hSw
    have q1 := hSw
    have y3 := q1.cell 3
    simp at y3
    go_simp
  try simp only [Act.put, List.setIfInBounds_toArray, List.set_cons_zero, List.set_cons_succ]
  refine oneL (i := 1) (by kernel_rfl) rfl (fun K hK => ?_)
  go_simp
  refine (F1.out _).mono ?_
  intro e w3 hE
  obtain ⟨rfl, hw3⟩ := hE
  rw [hw3]
  clear hw3 w3
  refine hK.out _ _ ?_ ?_
  · exact Wb.out
  clear hK K
  try simp only [Act.put, List.setIfInBounds_toArray, List.set_cons_zero, List.set_cons_succ]
  refine oneL (i := 4) (by kernel_rfl) rfl (fun K hK => ?_)
  go_simp
  refine (F2.out _).mono ?_
  intro e w3 hE
  obtain ⟨rfl, hw3⟩ := hE
  rw [hw3]
  clear hw3 w3
  refine hK.out _ _ ?_ ?_
  · exact Wb.out
  clear hK K
  try simp only [Act.put, List.setIfInBounds_toArray, List.set_cons_zero, List.set_cons_succ]
  refine pickA (v := ?_) 5 (some 0) rfl rfl (by kernel_rfl) (by kernel_rfl) (by kernel_rfl) (by decide) (fun _ _ _ h => h) (by rfl) ?_ (by assumption) ?_
  rotate_left
  · intro w'
    go_simp
    try with_reducible rfl
  try simp only [Act.put, List.setIfInBounds_toArray, List.set_cons_zero]
  refine pickA (v := ?_) 6 (some 18) rfl rfl (by kernel_rfl) (by kernel_rfl) (by kernel_rfl) (by decide) (fun _ _ _ h => h) (by rfl) ?_ (by assumption) ?_
  rotate_left
  · intro w'
    go_simp
    try with_reducible rfl
  try simp only [Act.put, List.setIfInBounds_toArray, List.set_cons_zero, List.set_cons_succ]
  refine lateL (i := 7) (by kernel_rfl) rfl (by decide) (by kernel_rfl) (fun K hK => ?_)
  have y3 := Wb.out.cell 3
  have y4 := Wb.out.free 3
  simp at y3
  go_simp
  refine hK.out _ _ ?_
  clear hK K
  try simp only [Act.put, List.setIfInBounds_toArray, List.set_cons_zero, List.set_cons_succ]
  refine doneL (by kernel_rfl) ?_ _
  clear hHeld
  have V3 : Hid (IsB (WD.setCell ⟨H + 1, 3, none⟩ (.slice ia2 il2.length ic2)) H #[.int .i64 kd, .int .u64 key, .int .u64 high, .slice ca cb.length cc] 27) := Vb.out.setOther (by simp) _
  have P3 : Hid (IsB (WD.setCell ⟨H + 1, 3, none⟩ (.slice ia2 il2.length ic2)) (H + 1) #[.int .i64 e2, .int .u64 k2, .slice va2 vb2.length vc2, .slice ia2 il2.length ic2, .int .i64 p0, .int .i64 p1, .int .u64 p2, .int .i64 p3, .int .u64 p4, .int .i64 r0, .int .i64 r1, .int .u64 r2, .int .i64 r3, .int .u64 r4, .bool f2] 46) := by
    have := Wb.out.set 3 (.slice ia2 il2.length ic2)
    simp at this
    exact this
  have B3 : Hid (Below w.heap.size w (WD.setCell ⟨H + 1, 3, none⟩ (.slice ia2 il2.length ic2))) := B2.out.setCell (by simp; have := hH.out; omega) _
  generalize WD.setCell ⟨H + 1, 3, none⟩ (.slice ia2 il2.length ic2) = W3 at *
  clear Vb Wb B2 F1 F2
  have c0 := V3.out.cell 0
  have c1 := V3.out.cell 1
  have c2 := V3.out.cell 2
  have c3 := V3.out.cell 3
  simp at c0 c1 c2 c3
  have DO := do_any (.slice va1 l.length vc1) l (by omega) kd key high ca cc cb W3 (SL.out.below B3.out) (HRd.out.below B3.out)
  replace DO := hide DO
  go_wp2_with fail
  refine DO.out.mono ?_
  rintro e w4 ⟨vx, mx, x, E, rfl, hOx, hRx, hdx, -, hb⟩
  have OX := hide hOx.sl
  have RX := hide hRx.rd
  have HDX := hide hdx
  replace V3 := hide (V3.out.below hb)
  replace P3 := hide (P3.out.below hb)
  replace B3 := hide (B3.out.trans (hb.mono B3.out.size))
  clear hb hOx hRx hdx DO c0 c1 c2 c3
  obtain ⟨xe, xk, xva, xvc, xvb, xia, xic, xil, xf⟩ := x
  simp only [Rs.cells]
  have b5 := (Below.refl w4.heap.size w4).alloc (Nat.le_refl _) (.cells #[.int .i64 xe, .int .u64 xk, .slice xva xvb.length xvc, .slice xia xil.length xic, .int .i64 0, .int .i64 0, .int .u64 0, .int .i64 0, .int .u64 0, .int .i64 0, .int .i64 0, .int .u64 0, .int .i64 0, .int .u64 0, .bool xf] 46)
  have Xb := hide (IsB.new w4 #[.int .i64 xe, .int .u64 xk, .slice xva xvb.length xvc, .slice xia xil.length xic, .int .i64 0, .int .i64 0, .int .u64 0, .int .i64 0, .int .u64 0, .int .i64 0, .int .i64 0, .int .u64 0, .int .i64 0, .int .u64 0, .bool xf] 46)
  replace V3 := hide (V3.out.below b5)
  replace P3 := hide (P3.out.below b5)
  replace OX := hide (OX.out.below b5)
  replace RX := hide (RX.out.below b5)
  replace B3 := hide (B3.out.trans (b5.mono B3.out.size))
  have c0 := V3.out.cell 0
  have c1 := V3.out.cell 1
  have c2 := V3.out.cell 2
  have c3 := V3.out.cell 3
  simp at c0 c1 c2 c3
  have DO := hide (rdo_any (.slice va1 l.length vc1) l (by omega) HKM.out kd key high ca cc cb _ (SL.out.below B3.out) (HRd.out.below B3.out))
  clear b5
  go_wp2_with fail
  generalize w4.alloc (.cells #[.int .i64 xe, .int .u64 xk, .slice xva xvb.length xvc, .slice xia xil.length xic, .int .i64 0, .int .i64 0, .int .u64 0, .int .i64 0, .int .u64 0, .int .i64 0, .int .i64 0, .int .u64 0, .int .i64 0, .int .u64 0, .bool xf] 46) = W4 at *
  generalize w4.heap.size = XB at Xb ⊢
  refine DO.out.mono ?_
  rintro e w5 ⟨vy, my, y, E2, rfl, hdr, hdy, hb⟩
  have OY : Hid (Sl w5 vy my) := by
    rcases hdr.row with ⟨rfl, rfl⟩ | ⟨hr, -⟩
    · exact (SL.out.below B3.out).below hb
    · refine hr.sl (fun it hi => ?_)
      rcases hdr.mem it hi with hm | rfl
      · exact ((SL.out.below B3.out).2 it hm).below hb
      · exact ⟨((HRd.out.below B3.out).below hb).1, (HRd.out).2⟩
  have RY : Hid (RsRd w5 y) := hdr.res.rdd (SL.out.below B3.out).2 hb
  have heq := HDX.out.trans hdy.symm
  simp only [Prod.mk.injEq] at heq
  obtain ⟨hm, hr, rfl⟩ := heq
  replace V3 := hide (V3.out.below hb)
  replace P3 := hide (P3.out.below hb)
  replace Xb := hide (Xb.out.below hb)
  replace OX := hide (OX.out.below hb)
  replace RX := hide (RX.out.below hb)
  replace B3 := hide (B3.out.trans (hb.mono B3.out.size))
  clear hb hdr DO c0 c1 c2 c3 hdy
  obtain ⟨ye, yk, yva, yvc, yvb, yia, yic, yil, yf⟩ := y
  simp only [Rs.cells]
  have b6 := (Below.refl w5.heap.size w5).alloc (Nat.le_refl _) (.cells #[.int .i64 ye, .int .u64 yk, .slice yva yvb.length yvc, .slice yia yil.length yic, .int .i64 0, .int .i64 0, .int .u64 0, .int .i64 0, .int .u64 0, .int .i64 0, .int .i64 0, .int .u64 0, .int .i64 0, .int .u64 0, .bool yf] 46)
  have Yb := hide (IsB.new w5 #[.int .i64 ye, .int .u64 yk, .slice yva yvb.length yvc, .slice yia yil.length yic, .int .i64 0, .int .i64 0, .int .u64 0, .int .i64 0, .int .u64 0, .int .i64 0, .int .i64 0, .int .u64 0, .int .i64 0, .int .u64 0, .bool yf] 46)
  replace V3 := hide (V3.out.below b6)
  replace P3 := hide (P3.out.below b6)
  replace Xb := hide (Xb.out.below b6)
  replace OX := hide (OX.out.below b6)
  replace RX := hide (RX.out.below b6)
  replace OY := hide (OY.out.below b6)
  replace RY := hide (RY.out.below b6)
  replace B3 := hide (B3.out.trans (b6.mono B3.out.size))
  clear b6
  go_wp2_with fail
  generalize w5.alloc (.cells #[.int .i64 ye, .int .u64 yk, .slice yva yvb.length yvc, .slice yia yil.length yic, .int .i64 0, .int .i64 0, .int .u64 0, .int .i64 0, .int .u64 0, .int .i64 0, .int .i64 0, .int .u64 0, .int .i64 0, .int .u64 0, .bool yf] 46) = W6 at *
  generalize w5.heap.size = YB at Yb ⊢
  have SLW := hide (SL.out.below B3.out)
  have SXW := hide (SX.out.below B3.out)
  have HRW := hide (HRd.out.below B3.out)
  have RDW := hide (RD2.out.below B3.out)
  have hlx : xil.length ≤ 200 := by
    have h9 := doE_len l (⟨kd, key, high, ca, cc, cb⟩ : Ca)
    rw [← HDX.out] at h9
    simp [Rs.val] at h9
    omega
  have hmx : mx.length ≤ 100000 := by
    have h8 := congrArg (fun z => z.1.length) HDX.out
    simp at h8
    have h7 : (doE l (⟨kd, key, high, ca, cc, cb⟩ : Ca)).1.length ≤ l.length + 1 := by
      unfold doE
      split
      · split
        · exact wrote_len _ l
        · simp
      · simp
    omega
  have C2 : Hid (∀ W, Below W6.heap.size W6 W → Calls Try.prog 19 #[vx, vy] W fun e w' => e = .returned (.bool true) ∧ Below W.heap.size W w') := fun W hb => by
    have t := rsame_any vx vy mx my hmx W (OX.out.below hb) (OY.out.below hb)
    rw [show sameL mx my = true by unfold sameL; rw [beq_iff_eq]; exact hm] at t
    exact t
  have C6 : Hid (∀ W, Below W6.heap.size W6 W → Calls Try.prog 23 #[.agg #[.int .i64 xe, .int .u64 xk, .slice xva xvb.length xvc, .slice xia xil.length xic, .int .i64 0, .int .i64 0, .int .u64 0, .int .i64 0, .int .u64 0, .int .i64 0, .int .i64 0, .int .u64 0, .int .i64 0, .int .u64 0, .bool xf], .agg #[.int .i64 ye, .int .u64 yk, .slice yva yvb.length yvc, .slice yia yil.length yic, .int .i64 0, .int .i64 0, .int .u64 0, .int .i64 0, .int .u64 0, .int .i64 0, .int .i64 0, .int .u64 0, .int .i64 0, .int .u64 0, .bool yf]] W fun e w' => e = .returned (.bool true) ∧ Below W.heap.size W w') := fun W hb => sameRd (⟨xe, xk, xva, xvc, xvb, xia, xic, xil, xf⟩ : Rs) (⟨ye, yk, yva, yvc, yvb, yia, yic, yil, yf⟩ : Rs) hr (by simp only []; omega) W (RX.out.below hb) (RY.out.below hb)
  obtain ⟨TL, hTL⟩ : ∃ z, tlE l (⟨kd, key, high, ca, cc, cb⟩ : Ca) e2 k2 f2 vb2 il2 (p0, p1, p2, p3, p4) (r0, r1, r2, r3, r4) = z := ⟨_, rfl⟩
  have C17 : Hid (∀ W, Below W6.heap.size W6 W → Calls Try.prog 24 #[.slice va1 l.length vc1, .agg #[.int .i64 kd, .int .u64 key, .int .u64 high, .slice ca cb.length cc], .agg #[.int .i64 e2, .int .u64 k2, .slice va2 vb2.length vc2, .slice ia2 il2.length ic2, .int .i64 p0, .int .i64 p1, .int .u64 p2, .int .i64 p3, .int .u64 p4, .int .i64 r0, .int .i64 r1, .int .u64 r2, .int .i64 r3, .int .u64 r4, .bool f2]] W fun e w' => e = .returned (.bool TL) ∧ Below W.heap.size W w') := fun W hb => by
    rw [← hTL]
    exact tells_any _ l (by omega) kd key high ca cc cb e2 k2 f2 va2 vc2 vb2 ia2 ic2 il2 p0 p1 p2 p3 p4 r0 r1 r2 r3 r4 W (SLW.out.below hb) (HRW.out.below hb) (RDW.out.below hb) N2.out (SXW.out.below hb)
  have C21 : Hid (∀ W, Below W6.heap.size W6 W → Calls Try.prog 25 #[.slice va1 l.length vc1, .agg #[.int .i64 kd, .int .u64 key, .int .u64 high, .slice ca cb.length cc], .agg #[.int .i64 e2, .int .u64 k2, .slice va2 vb2.length vc2, .slice ia2 il2.length ic2, .int .i64 p0, .int .i64 p1, .int .u64 p2, .int .i64 p3, .int .u64 p4, .int .i64 r0, .int .i64 r1, .int .u64 r2, .int .i64 r3, .int .u64 r4, .bool f2]] W fun e w' => e = .returned (.bool TL) ∧ Below W.heap.size W w') := fun W hb => by
    rw [← hTL]
    exact rtells_any _ l (by omega) HKM.out kd key high ca cc cb e2 k2 f2 va2 vc2 vb2 ia2 ic2 il2 p0 p1 p2 p3 p4 r0 r1 r2 r3 r4 W (SLW.out.below hb) (HRW.out.below hb) (RDW.out.below hb) N2.out (SXW.out.below hb)
  obtain ⟨SR, hSR⟩ : ∃ z, srE xe xk e2 k2 xf f2 xvb vb2 xil il2 (p0, p1, p2, p3, p4) (r0, r1, r2, r3, r4) = z := ⟨_, rfl⟩
  have C37 : Hid (∀ W, Below W6.heap.size W6 W → Calls Try.prog 26 #[.agg #[.int .i64 xe, .int .u64 xk, .slice xva xvb.length xvc, .slice xia xil.length xic, .int .i64 0, .int .i64 0, .int .u64 0, .int .i64 0, .int .u64 0, .int .i64 0, .int .i64 0, .int .u64 0, .int .i64 0, .int .u64 0, .bool xf], .agg #[.int .i64 e2, .int .u64 k2, .slice va2 vb2.length vc2, .slice ia2 il2.length ic2, .int .i64 p0, .int .i64 p1, .int .u64 p2, .int .i64 p3, .int .u64 p4, .int .i64 r0, .int .i64 r1, .int .u64 r2, .int .i64 r3, .int .u64 r4, .bool f2]] W fun e w' => e = .returned (.bool SR) ∧ Below W.heap.size W w') := fun W hb => by
    rw [← hSR]
    exact msr_any xe xk e2 k2 xf f2 xva va2 xvc vc2 xvb vb2 xia ia2 xic ic2 xil il2 p0 p1 p2 p3 p4 r0 r1 r2 r3 r4 W (RX.out.below hb).rd RX.out.vn (RDW.out.below hb) N2.out (RX.out.below hb).it (SXW.out.below hb) (by omega)
  have C40 : Hid (∀ W, Below W6.heap.size W6 W → Calls Try.prog 23 #[.agg #[.int .i64 xe, .int .u64 xk, .slice xva xvb.length xvc, .slice xia xil.length xic, .int .i64 0, .int .i64 0, .int .u64 0, .int .i64 0, .int .u64 0, .int .i64 0, .int .i64 0, .int .u64 0, .int .i64 0, .int .u64 0, .bool xf], .agg #[.int .i64 e2, .int .u64 k2, .slice va2 vb2.length vc2, .slice ia2 il2.length ic2, .int .i64 p0, .int .i64 p1, .int .u64 p2, .int .i64 p3, .int .u64 p4, .int .i64 r0, .int .i64 r1, .int .u64 r2, .int .i64 r3, .int .u64 r4, .bool f2]] W fun e w' => e = .returned (.bool SR) ∧ Below W.heap.size W w') := fun W hb => by
    rw [← hSR]
    exact rsr_any xe xk e2 k2 xf f2 xva va2 xvc vc2 xvb vb2 xia ia2 xic ic2 xil il2 p0 p1 p2 p3 p4 r0 r1 r2 r3 r4 W (RX.out.below hb).rd RX.out.vn (RDW.out.below hb) N2.out (RX.out.below hb).it (SXW.out.below hb) (by omega)
  have hS : Hid (∀ W, Below W6.heap.size W6 W → IsB W H #[.int .i64 kd, .int .u64 key, .int .u64 high, .slice ca cb.length cc] 27 ∧ IsB W (H + 1) #[.int .i64 e2, .int .u64 k2, .slice va2 vb2.length vc2, .slice ia2 il2.length ic2, .int .i64 p0, .int .i64 p1, .int .u64 p2, .int .i64 p3, .int .u64 p4, .int .i64 r0, .int .i64 r1, .int .u64 r2, .int .i64 r3, .int .u64 r4, .bool f2] 46 ∧ IsB W XB #[.int .i64 xe, .int .u64 xk, .slice xva xvb.length xvc, .slice xia xil.length xic, .int .i64 0, .int .i64 0, .int .u64 0, .int .i64 0, .int .u64 0, .int .i64 0, .int .i64 0, .int .u64 0, .int .i64 0, .int .u64 0, .bool xf] 46 ∧ IsB W YB #[.int .i64 ye, .int .u64 yk, .slice yva yvb.length yvc, .slice yia yil.length yic, .int .i64 0, .int .i64 0, .int .u64 0, .int .i64 0, .int .u64 0, .int .i64 0, .int .i64 0, .int .u64 0, .int .i64 0, .int .u64 0, .bool yf] 46) := fun W hb => ⟨V3.out.below hb, P3.out.below hb, Xb.out.below hb, Yb.out.below hb⟩
  have C31 : Hid (E = 0 → ∀ W, Below W6.heap.size W6 W → Calls Try.prog 24 #[.slice va1 l.length vc1, .agg #[.int .i64 kd, .int .u64 key, .int .u64 high, .slice ca cb.length cc], .agg #[.int .i64 xe, .int .u64 xk, .slice xva xvb.length xvc, .slice xia xil.length xic, .int .i64 0, .int .i64 0, .int .u64 0, .int .i64 0, .int .u64 0, .int .i64 0, .int .i64 0, .int .u64 0, .int .i64 0, .int .u64 0, .bool xf]] W fun e w' => e = .returned (.bool true) ∧ Below W.heap.size W w') := fun hE W hb => by
    have t := tells_any _ l (by omega) kd key high ca cc cb xe xk xf xva xvc xvb xia xic xil 0 0 0 0 0 0 0 0 0 0 W (SLW.out.below hb) (HRW.out.below hb) (RX.out.below hb).rd RX.out.vn (Or.inl (RX.out.below hb).it)
    have ht : tlE l (⟨kd, key, high, ca, cc, cb⟩ : Ca) xe xk xf xvb xil (0, 0, 0, 0, 0) (0, 0, 0, 0, 0) = true := by
      unfold tlE
      rw [← HDX.out]
      show ((E == 0) && srR (Rs.val (⟨xe, xk, xva, xvc, xvb, xia, xic, xil, xf⟩ : Rs)) xe xk xf xvb xil (0, 0, 0, 0, 0) (0, 0, 0, 0, 0)) = true
      rw [hE, srR_self (⟨xe, xk, xva, xvc, xvb, xia, xic, xil, xf⟩ : Rs)]
      rfl
    rw [ht] at t
    exact t
  have AW : Hid (∀ W, Calls Try.prog 20 #[] W fun e w' => e = .returned (.bool true) ∧ Below W.heap.size W w') := fun W => awake_any W
  clear hm hr hlx hmx hTL hSR RX RY OX OY HDX HKM SL SX HRd RD2 N2 SLW SXW HRW RDW V3 P3 Xb Yb
  have BW := hide ((Below.refl W6.heap.size W6).drew)
  by_cases hE : E = 0
  · subst hE
    refine regionL 47 (fun w' => IsB w' H #[.int .i64 kd, .int .u64 key, .int .u64 high, .slice ca cb.length cc] 27 ∧ IsB w' (H + 1) #[.int .i64 e2, .int .u64 k2, .slice va2 vb2.length vc2, .slice ia2 il2.length ic2, .int .i64 p0, .int .i64 p1, .int .u64 p2, .int .i64 p3, .int .u64 p4, .int .i64 r0, .int .i64 r1, .int .u64 r2, .int .i64 r3, .int .u64 r4, .bool f2] 46 ∧ IsB w' XB #[.int .i64 xe, .int .u64 xk, .slice xva xvb.length xvc, .slice xia xil.length xic, .int .i64 0, .int .i64 0, .int .u64 0, .int .i64 0, .int .u64 0, .int .i64 0, .int .i64 0, .int .u64 0, .int .i64 0, .int .u64 0, .bool xf] 46 ∧ IsB w' YB #[.int .i64 ye, .int .u64 yk, .slice yva yvb.length yvc, .slice yia yil.length yic, .int .i64 0, .int .i64 0, .int .u64 0, .int .i64 0, .int .u64 0, .int .i64 0, .int .i64 0, .int .u64 0, .int .i64 0, .int .u64 0, .bool yf] 46) mixed (hS.out _ BW.out) (fun hHeld => ?_)
    refine pickA (v := ?_) 0 (some 33) rfl rfl (by kernel_rfl) (by kernel_rfl) (by kernel_rfl) (by decide) (fun _ _ _ h => h) (by rfl) ?_ (by assumption) ?_
    rotate_left
    · intro w'
      go_simp
      try with_reducible rfl
    try simp only [Act.put, List.setIfInBounds_toArray, List.set_cons_zero, List.set_cons_succ]
    refine pickA (v := ?_) 1 (some 34) rfl rfl (by kernel_rfl) (by kernel_rfl) (by kernel_rfl) (by decide) (fun _ _ _ h => h) (by rfl) ?_ (by assumption) ?_
    rotate_left
    · intro w'
      go_simp
      try with_reducible rfl
    try simp only [Act.put, List.setIfInBounds_toArray, List.set_cons_zero, List.set_cons_succ]
    refine oneL (i := 2) (by kernel_rfl) rfl (fun K hK => ?_)
    go_simp
    refine (C2.out _ BW.out).mono ?_
    rintro e w10 ⟨rfl, hb⟩
    replace BW := hide (BW.out.trans (hb.mono BW.out.size))
    clear hb
    refine hK.out _ _ ?_ ?_
    · exact hS.out _ BW.out
    clear hK K
    try simp only [Act.put, List.setIfInBounds_toArray, List.set_cons_zero, List.set_cons_succ]
    clear hHeld
    have hHeld : (fun w' => IsB w' H #[.int .i64 kd, .int .u64 key, .int .u64 high, .slice ca cb.length cc] 27 ∧ IsB w' (H + 1) #[.int .i64 e2, .int .u64 k2, .slice va2 vb2.length vc2, .slice ia2 il2.length ic2, .int .i64 p0, .int .i64 p1, .int .u64 p2, .int .i64 p3, .int .u64 p4, .int .i64 r0, .int .i64 r1, .int .u64 r2, .int .i64 r3, .int .u64 r4, .bool f2] 46 ∧ IsB w' XB #[.int .i64 xe, .int .u64 xk, .slice xva xvb.length xvc, .slice xia xil.length xic, .int .i64 0, .int .i64 0, .int .u64 0, .int .i64 0, .int .u64 0, .int .i64 0, .int .i64 0, .int .u64 0, .int .i64 0, .int .u64 0, .bool xf] 46 ∧ IsB w' YB #[.int .i64 ye, .int .u64 yk, .slice yva yvb.length yvc, .slice yia yil.length yic, .int .i64 0, .int .i64 0, .int .u64 0, .int .i64 0, .int .u64 0, .int .i64 0, .int .i64 0, .int .u64 0, .int .i64 0, .int .u64 0, .bool yf] 46) w10 := hS.out _ BW.out
    refine pickA (v := ?_) 3 (some 36) rfl rfl (by kernel_rfl) (by kernel_rfl) (by kernel_rfl) (by decide) (fun _ _ _ h => h) (by rfl) ?_ (by assumption) ?_
    rotate_left
    · intro w'
      go_simp
      try with_reducible rfl
    try simp only [Act.put, List.setIfInBounds_toArray, List.set_cons_zero, List.set_cons_succ]
    refine pickL (v := .agg #[.int .i64 xe, .int .u64 xk, .slice xva xvb.length xvc, .slice xia xil.length xic, .int .i64 0, .int .i64 0, .int .u64 0, .int .i64 0, .int .u64 0, .int .i64 0, .int .i64 0, .int .u64 0, .int .i64 0, .int .u64 0, .bool xf]) 4 (some 37) rfl rfl (by kernel_rfl) (by kernel_rfl) (by kernel_rfl) (by decide) (by kernel_rfl) (by kernel_rfl) (fun _ _ _ h => h) (by rfl) ?_ (by assumption) ?_
    · intro w' hSw
      obtain ⟨q0, q1, q2, q3⟩ := hSw
      exact exec_load rfl rfl (load_res q2 rfl)
    try simp only [Act.put, List.setIfInBounds_toArray, List.set_cons_zero, List.set_cons_succ]
    refine pickL (v := .agg #[.int .i64 ye, .int .u64 yk, .slice yva yvb.length yvc, .slice yia yil.length yic, .int .i64 0, .int .i64 0, .int .u64 0, .int .i64 0, .int .u64 0, .int .i64 0, .int .i64 0, .int .u64 0, .int .i64 0, .int .u64 0, .bool yf]) 5 (some 38) rfl rfl (by kernel_rfl) (by kernel_rfl) (by kernel_rfl) (by decide) (by kernel_rfl) (by kernel_rfl) (fun _ _ _ h => h) (by rfl) ?_ (by assumption) ?_
    · intro w' hSw
      obtain ⟨q0, q1, q2, q3⟩ := hSw
      exact exec_load rfl rfl (load_res q3 rfl)
    try simp only [Act.put, List.setIfInBounds_toArray, List.set_cons_zero, List.set_cons_succ]
    refine oneL (i := 6) (by kernel_rfl) rfl (fun K hK => ?_)
    go_simp
    refine (C6.out _ BW.out).mono ?_
    rintro e w11 ⟨rfl, hb⟩
    replace BW := hide (BW.out.trans (hb.mono BW.out.size))
    clear hb
    refine hK.out _ _ ?_ ?_
    · exact hS.out _ BW.out
    clear hK K
    try simp only [Act.put, List.setIfInBounds_toArray, List.set_cons_zero, List.set_cons_succ]
    clear hHeld
    have hHeld : (fun w' => IsB w' H #[.int .i64 kd, .int .u64 key, .int .u64 high, .slice ca cb.length cc] 27 ∧ IsB w' (H + 1) #[.int .i64 e2, .int .u64 k2, .slice va2 vb2.length vc2, .slice ia2 il2.length ic2, .int .i64 p0, .int .i64 p1, .int .u64 p2, .int .i64 p3, .int .u64 p4, .int .i64 r0, .int .i64 r1, .int .u64 r2, .int .i64 r3, .int .u64 r4, .bool f2] 46 ∧ IsB w' XB #[.int .i64 xe, .int .u64 xk, .slice xva xvb.length xvc, .slice xia xil.length xic, .int .i64 0, .int .i64 0, .int .u64 0, .int .i64 0, .int .u64 0, .int .i64 0, .int .i64 0, .int .u64 0, .int .i64 0, .int .u64 0, .bool xf] 46 ∧ IsB w' YB #[.int .i64 ye, .int .u64 yk, .slice yva yvb.length yvc, .slice yia yil.length yic, .int .i64 0, .int .i64 0, .int .u64 0, .int .i64 0, .int .u64 0, .int .i64 0, .int .i64 0, .int .u64 0, .int .i64 0, .int .u64 0, .bool yf] 46) w11 := hS.out _ BW.out
    refine pickA (v := ?_) 7 (some 40) rfl rfl (by kernel_rfl) (by kernel_rfl) (by kernel_rfl) (by decide) (fun _ _ _ h => h) (by rfl) ?_ (by assumption) ?_
    rotate_left
    · intro w'
      go_simp
      try with_reducible rfl
    try simp only [Act.put, List.setIfInBounds_toArray, List.set_cons_zero, List.set_cons_succ]
    refine pickA (v := ?_) 8 (some 41) rfl rfl (by kernel_rfl) (by kernel_rfl) (by kernel_rfl) (by decide) (fun _ _ _ h => h) (by rfl) ?_ (by assumption) ?_
    rotate_left
    · intro w'
      go_simp
      try with_reducible rfl
    try simp only [Act.put, List.setIfInBounds_toArray, List.set_cons_zero, List.set_cons_succ]
    refine pickA (v := ?_) 9 (some 42) rfl rfl (by kernel_rfl) (by kernel_rfl) (by kernel_rfl) (by decide) (fun _ _ _ h => h) (by rfl) ?_ (by assumption) ?_
    rotate_left
    · intro w'
      go_simp
      try with_reducible rfl
    try simp only [Act.put, List.setIfInBounds_toArray, List.set_cons_zero, List.set_cons_succ]
    refine pickA (v := ?_) 10 (some 43) rfl rfl (by kernel_rfl) (by kernel_rfl) (by kernel_rfl) (by decide) (fun _ _ _ h => h) (by rfl) ?_ (by assumption) ?_
    rotate_left
    · intro w'
      go_simp
      try with_reducible rfl
    try simp only [Act.put, List.setIfInBounds_toArray, List.set_cons_zero, List.set_cons_succ]
    refine pickA (v := ?_) 11 (some 44) rfl rfl (by kernel_rfl) (by kernel_rfl) (by kernel_rfl) (by decide) (fun _ _ _ h => h) (by rfl) ?_ (by assumption) ?_
    rotate_left
    · intro w'
      go_simp
      try with_reducible rfl
    try simp only [Act.put, List.setIfInBounds_toArray, List.set_cons_zero, List.set_cons_succ]
    refine pickA (v := ?_) 12 (some 45) rfl rfl (by kernel_rfl) (by kernel_rfl) (by kernel_rfl) (by decide) (fun _ _ _ h => h) (by rfl) ?_ (by assumption) ?_
    rotate_left
    · intro w'
      go_simp
      try with_reducible rfl
    try simp only [Act.put, List.setIfInBounds_toArray, List.set_cons_zero, List.set_cons_succ]
    refine pickA (v := ?_) 13 (some 46) rfl rfl (by kernel_rfl) (by kernel_rfl) (by kernel_rfl) (by decide) (fun _ _ _ h => h) (by rfl) ?_ (by assumption) ?_
    rotate_left
    · intro w'
      go_simp
      try with_reducible rfl
    try simp only [Act.put, List.setIfInBounds_toArray, List.set_cons_zero, List.set_cons_succ]
    refine pickA (v := ?_) 14 (some 47) rfl rfl (by kernel_rfl) (by kernel_rfl) (by kernel_rfl) (by decide) (fun _ _ _ h => h) (by rfl) ?_ (by assumption) ?_
    rotate_left
    · intro w'
      go_simp
      try with_reducible rfl
    try simp only [Act.put, List.setIfInBounds_toArray, List.set_cons_zero, List.set_cons_succ]
    refine pickL (v := .agg #[.int .i64 kd, .int .u64 key, .int .u64 high, .slice ca cb.length cc]) 15 (some 48) rfl rfl (by kernel_rfl) (by kernel_rfl) (by kernel_rfl) (by decide) (by kernel_rfl) (by kernel_rfl) (fun _ _ _ h => h) (by rfl) ?_ (by assumption) ?_
    · intro w' hSw
      obtain ⟨q0, q1, q2, q3⟩ := hSw
      exact exec_load rfl rfl (load_call q0 rfl)
    try simp only [Act.put, List.setIfInBounds_toArray, List.set_cons_zero, List.set_cons_succ]
    refine pickL (v := .agg #[.int .i64 e2, .int .u64 k2, .slice va2 vb2.length vc2, .slice ia2 il2.length ic2, .int .i64 p0, .int .i64 p1, .int .u64 p2, .int .i64 p3, .int .u64 p4, .int .i64 r0, .int .i64 r1, .int .u64 r2, .int .i64 r3, .int .u64 r4, .bool f2]) 16 (some 49) rfl rfl (by kernel_rfl) (by kernel_rfl) (by kernel_rfl) (by decide) (by kernel_rfl) (by kernel_rfl) (fun _ _ _ h => h) (by rfl) ?_ (by assumption) ?_
    · intro w' hSw
      obtain ⟨q0, q1, q2, q3⟩ := hSw
      exact exec_load rfl rfl (load_res q1 rfl)
    try simp only [Act.put, List.setIfInBounds_toArray, List.set_cons_zero, List.set_cons_succ]
    refine pickA (v := ?_) 18 (some 51) rfl rfl (by kernel_rfl) (by kernel_rfl) (by kernel_rfl) (by decide) (fun _ _ _ h => h) (by rfl) ?_ (by assumption) ?_
    rotate_left
    · intro w'
      go_simp
      try with_reducible rfl
    try simp only [Act.put, List.setIfInBounds_toArray, List.set_cons_zero, List.set_cons_succ]
    refine pickL (v := .agg #[.int .i64 kd, .int .u64 key, .int .u64 high, .slice ca cb.length cc]) 19 (some 52) rfl rfl (by kernel_rfl) (by kernel_rfl) (by kernel_rfl) (by decide) (by kernel_rfl) (by kernel_rfl) (fun _ _ _ h => h) (by rfl) ?_ (by assumption) ?_
    · intro w' hSw
      obtain ⟨q0, q1, q2, q3⟩ := hSw
      exact exec_load rfl rfl (load_call q0 rfl)
    try simp only [Act.put, List.setIfInBounds_toArray, List.set_cons_zero, List.set_cons_succ]
    refine pickL (v := .agg #[.int .i64 e2, .int .u64 k2, .slice va2 vb2.length vc2, .slice ia2 il2.length ic2, .int .i64 p0, .int .i64 p1, .int .u64 p2, .int .i64 p3, .int .u64 p4, .int .i64 r0, .int .i64 r1, .int .u64 r2, .int .i64 r3, .int .u64 r4, .bool f2]) 20 (some 53) rfl rfl (by kernel_rfl) (by kernel_rfl) (by kernel_rfl) (by decide) (by kernel_rfl) (by kernel_rfl) (fun _ _ _ h => h) (by rfl) ?_ (by assumption) ?_
    · intro w' hSw
      obtain ⟨q0, q1, q2, q3⟩ := hSw
      exact exec_load rfl rfl (load_res q1 rfl)
    try simp only [Act.put, List.setIfInBounds_toArray, List.set_cons_zero, List.set_cons_succ]
    refine oneL (i := 17) (by kernel_rfl) rfl (fun K hK => ?_)
    go_simp
    refine (C17.out _ BW.out).mono ?_
    rintro e w12 ⟨rfl, hb⟩
    replace BW := hide (BW.out.trans (hb.mono BW.out.size))
    clear hb
    refine hK.out _ _ ?_ ?_
    · exact hS.out _ BW.out
    clear hK K
    try simp only [Act.put, List.setIfInBounds_toArray, List.set_cons_zero, List.set_cons_succ]
    clear hHeld
    have hHeld : (fun w' => IsB w' H #[.int .i64 kd, .int .u64 key, .int .u64 high, .slice ca cb.length cc] 27 ∧ IsB w' (H + 1) #[.int .i64 e2, .int .u64 k2, .slice va2 vb2.length vc2, .slice ia2 il2.length ic2, .int .i64 p0, .int .i64 p1, .int .u64 p2, .int .i64 p3, .int .u64 p4, .int .i64 r0, .int .i64 r1, .int .u64 r2, .int .i64 r3, .int .u64 r4, .bool f2] 46 ∧ IsB w' XB #[.int .i64 xe, .int .u64 xk, .slice xva xvb.length xvc, .slice xia xil.length xic, .int .i64 0, .int .i64 0, .int .u64 0, .int .i64 0, .int .u64 0, .int .i64 0, .int .i64 0, .int .u64 0, .int .i64 0, .int .u64 0, .bool xf] 46 ∧ IsB w' YB #[.int .i64 ye, .int .u64 yk, .slice yva yvb.length yvc, .slice yia yil.length yic, .int .i64 0, .int .i64 0, .int .u64 0, .int .i64 0, .int .u64 0, .int .i64 0, .int .i64 0, .int .u64 0, .int .i64 0, .int .u64 0, .bool yf] 46) w12 := hS.out _ BW.out
    refine oneL (i := 21) (by kernel_rfl) rfl (fun K hK => ?_)
    go_simp
    refine (C21.out _ BW.out).mono ?_
    rintro e w13 ⟨rfl, hb⟩
    replace BW := hide (BW.out.trans (hb.mono BW.out.size))
    clear hb
    refine hK.out _ _ ?_ ?_
    · exact hS.out _ BW.out
    clear hK K
    try simp only [Act.put, List.setIfInBounds_toArray, List.set_cons_zero, List.set_cons_succ]
    clear hHeld
    have hHeld : (fun w' => IsB w' H #[.int .i64 kd, .int .u64 key, .int .u64 high, .slice ca cb.length cc] 27 ∧ IsB w' (H + 1) #[.int .i64 e2, .int .u64 k2, .slice va2 vb2.length vc2, .slice ia2 il2.length ic2, .int .i64 p0, .int .i64 p1, .int .u64 p2, .int .i64 p3, .int .u64 p4, .int .i64 r0, .int .i64 r1, .int .u64 r2, .int .i64 r3, .int .u64 r4, .bool f2] 46 ∧ IsB w' XB #[.int .i64 xe, .int .u64 xk, .slice xva xvb.length xvc, .slice xia xil.length xic, .int .i64 0, .int .i64 0, .int .u64 0, .int .i64 0, .int .u64 0, .int .i64 0, .int .i64 0, .int .u64 0, .int .i64 0, .int .u64 0, .bool xf] 46 ∧ IsB w' YB #[.int .i64 ye, .int .u64 yk, .slice yva yvb.length yvc, .slice yia yil.length yic, .int .i64 0, .int .i64 0, .int .u64 0, .int .i64 0, .int .u64 0, .int .i64 0, .int .i64 0, .int .u64 0, .int .i64 0, .int .u64 0, .bool yf] 46) w13 := hS.out _ BW.out
    refine pickA (v := ?_) 22 (some 55) rfl rfl (by kernel_rfl) (by kernel_rfl) (by kernel_rfl) (by decide) (fun _ _ _ h => h) (by rfl) ?_ (by assumption) ?_
    rotate_left
    · intro w'
      go_simp
      try with_reducible rfl
    try simp only [Act.put, List.setIfInBounds_toArray, List.set_cons_zero, List.set_cons_succ]
    refine pickA (v := ?_) 23 (some 56) rfl rfl (by kernel_rfl) (by kernel_rfl) (by kernel_rfl) (by decide) (fun _ _ _ h => h) (by rfl) ?_ (by assumption) ?_
    rotate_left
    · intro w'
      go_simp
      try with_reducible rfl
    try simp only [Act.put, List.setIfInBounds_toArray, List.set_cons_zero, List.set_cons_succ]
    refine pickA (v := ?_) 24 (some 57) rfl rfl (by kernel_rfl) (by kernel_rfl) (by kernel_rfl) (by decide) (fun _ _ _ h => h) (by rfl) ?_ (by assumption) ?_
    rotate_left
    · intro w'
      go_simp
      try with_reducible rfl
    try simp only [Act.put, List.setIfInBounds_toArray, List.set_cons_zero, List.set_cons_succ]
    refine pickA (v := ?_) 25 (some 58) rfl rfl (by kernel_rfl) (by kernel_rfl) (by kernel_rfl) (by decide) (fun _ _ _ h => h) (by rfl) ?_ (by assumption) ?_
    rotate_left
    · intro w'
      go_simp
      try with_reducible rfl
    try simp only [Act.put, List.setIfInBounds_toArray, List.set_cons_zero, List.set_cons_succ]
    refine pickA (v := ?_) 26 (some 59) rfl rfl (by kernel_rfl) (by kernel_rfl) (by kernel_rfl) (by decide) (fun _ _ _ h => h) (by rfl) ?_ (by assumption) ?_
    rotate_left
    · intro w'
      go_simp
      try with_reducible rfl
    try simp only [Act.put, List.setIfInBounds_toArray, List.set_cons_zero, List.set_cons_succ]
    refine pickA (v := ?_) 27 (some 60) rfl rfl (by kernel_rfl) (by kernel_rfl) (by kernel_rfl) (by decide) (fun _ _ _ h => h) (by rfl) ?_ (by assumption) ?_
    rotate_left
    · intro w'
      go_simp
      try with_reducible rfl
    try simp only [Act.put, List.setIfInBounds_toArray, List.set_cons_zero, List.set_cons_succ]
    refine pickA (v := ?_) 28 (some 61) rfl rfl (by kernel_rfl) (by kernel_rfl) (by kernel_rfl) (by decide) (fun _ _ _ h => h) (by rfl) ?_ (by assumption) ?_
    rotate_left
    · intro w'
      go_simp
      try with_reducible rfl
    try simp only [Act.put, List.setIfInBounds_toArray, List.set_cons_zero, List.set_cons_succ]
    refine pickL (v := .agg #[.int .i64 kd, .int .u64 key, .int .u64 high, .slice ca cb.length cc]) 29 (some 62) rfl rfl (by kernel_rfl) (by kernel_rfl) (by kernel_rfl) (by decide) (by kernel_rfl) (by kernel_rfl) (fun _ _ _ h => h) (by rfl) ?_ (by assumption) ?_
    · intro w' hSw
      obtain ⟨q0, q1, q2, q3⟩ := hSw
      exact exec_load rfl rfl (load_call q0 rfl)
    try simp only [Act.put, List.setIfInBounds_toArray, List.set_cons_zero, List.set_cons_succ]
    refine pickL (v := .agg #[.int .i64 xe, .int .u64 xk, .slice xva xvb.length xvc, .slice xia xil.length xic, .int .i64 0, .int .i64 0, .int .u64 0, .int .i64 0, .int .u64 0, .int .i64 0, .int .i64 0, .int .u64 0, .int .i64 0, .int .u64 0, .bool xf]) 30 (some 63) rfl rfl (by kernel_rfl) (by kernel_rfl) (by kernel_rfl) (by decide) (by kernel_rfl) (by kernel_rfl) (fun _ _ _ h => h) (by rfl) ?_ (by assumption) ?_
    · intro w' hSw
      obtain ⟨q0, q1, q2, q3⟩ := hSw
      exact exec_load rfl rfl (load_res q2 rfl)
    try simp only [Act.put, List.setIfInBounds_toArray, List.set_cons_zero, List.set_cons_succ]
    refine oneL (i := 31) (by kernel_rfl) rfl (fun K hK => ?_)
    go_simp
    refine (C31.out rfl _ BW.out).mono ?_
    rintro e w14 ⟨rfl, hb⟩
    replace BW := hide (BW.out.trans (hb.mono BW.out.size))
    clear hb
    refine hK.out _ _ ?_ ?_
    · exact hS.out _ BW.out
    clear hK K
    try simp only [Act.put, List.setIfInBounds_toArray, List.set_cons_zero, List.set_cons_succ]
    clear hHeld
    have hHeld : (fun w' => IsB w' H #[.int .i64 kd, .int .u64 key, .int .u64 high, .slice ca cb.length cc] 27 ∧ IsB w' (H + 1) #[.int .i64 e2, .int .u64 k2, .slice va2 vb2.length vc2, .slice ia2 il2.length ic2, .int .i64 p0, .int .i64 p1, .int .u64 p2, .int .i64 p3, .int .u64 p4, .int .i64 r0, .int .i64 r1, .int .u64 r2, .int .i64 r3, .int .u64 r4, .bool f2] 46 ∧ IsB w' XB #[.int .i64 xe, .int .u64 xk, .slice xva xvb.length xvc, .slice xia xil.length xic, .int .i64 0, .int .i64 0, .int .u64 0, .int .i64 0, .int .u64 0, .int .i64 0, .int .i64 0, .int .u64 0, .int .i64 0, .int .u64 0, .bool xf] 46 ∧ IsB w' YB #[.int .i64 ye, .int .u64 yk, .slice yva yvb.length yvc, .slice yia yil.length yic, .int .i64 0, .int .i64 0, .int .u64 0, .int .i64 0, .int .u64 0, .int .i64 0, .int .i64 0, .int .u64 0, .int .i64 0, .int .u64 0, .bool yf] 46) w14 := hS.out _ BW.out
    refine pickA (v := ?_) 32 (some 65) rfl rfl (by kernel_rfl) (by kernel_rfl) (by kernel_rfl) (by decide) (fun _ _ _ h => h) (by rfl) ?_ (by assumption) ?_
    rotate_left
    · intro w'
      go_simp
      try with_reducible rfl
    try simp only [Act.put, List.setIfInBounds_toArray, List.set_cons_zero, List.set_cons_succ]
    refine pickA (v := ?_) 33 (some 66) rfl rfl (by kernel_rfl) (by kernel_rfl) (by kernel_rfl) (by decide) (fun _ _ _ h => h) (by rfl) ?_ (by assumption) ?_
    rotate_left
    · intro w'
      go_simp
      try with_reducible rfl
    try simp only [Act.put, List.setIfInBounds_toArray, List.set_cons_zero, List.set_cons_succ]
    refine pickA (v := ?_) 34 (some 67) rfl rfl (by kernel_rfl) (by kernel_rfl) (by kernel_rfl) (by decide) (fun _ _ _ h => h) (by rfl) ?_ (by assumption) ?_
    rotate_left
    · intro w'
      go_simp
      try with_reducible rfl
    try simp only [Act.put, List.setIfInBounds_toArray, List.set_cons_zero, List.set_cons_succ]
    refine pickL (v := .agg #[.int .i64 xe, .int .u64 xk, .slice xva xvb.length xvc, .slice xia xil.length xic, .int .i64 0, .int .i64 0, .int .u64 0, .int .i64 0, .int .u64 0, .int .i64 0, .int .i64 0, .int .u64 0, .int .i64 0, .int .u64 0, .bool xf]) 35 (some 68) rfl rfl (by kernel_rfl) (by kernel_rfl) (by kernel_rfl) (by decide) (by kernel_rfl) (by kernel_rfl) (fun _ _ _ h => h) (by rfl) ?_ (by assumption) ?_
    · intro w' hSw
      obtain ⟨q0, q1, q2, q3⟩ := hSw
      exact exec_load rfl rfl (load_res q2 rfl)
    try simp only [Act.put, List.setIfInBounds_toArray, List.set_cons_zero, List.set_cons_succ]
    refine pickL (v := .agg #[.int .i64 e2, .int .u64 k2, .slice va2 vb2.length vc2, .slice ia2 il2.length ic2, .int .i64 p0, .int .i64 p1, .int .u64 p2, .int .i64 p3, .int .u64 p4, .int .i64 r0, .int .i64 r1, .int .u64 r2, .int .i64 r3, .int .u64 r4, .bool f2]) 36 (some 69) rfl rfl (by kernel_rfl) (by kernel_rfl) (by kernel_rfl) (by decide) (by kernel_rfl) (by kernel_rfl) (fun _ _ _ h => h) (by rfl) ?_ (by assumption) ?_
    · intro w' hSw
      obtain ⟨q0, q1, q2, q3⟩ := hSw
      exact exec_load rfl rfl (load_res q1 rfl)
    try simp only [Act.put, List.setIfInBounds_toArray, List.set_cons_zero, List.set_cons_succ]
    refine pickL (v := .agg #[.int .i64 xe, .int .u64 xk, .slice xva xvb.length xvc, .slice xia xil.length xic, .int .i64 0, .int .i64 0, .int .u64 0, .int .i64 0, .int .u64 0, .int .i64 0, .int .i64 0, .int .u64 0, .int .i64 0, .int .u64 0, .bool xf]) 38 (some 71) rfl rfl (by kernel_rfl) (by kernel_rfl) (by kernel_rfl) (by decide) (by kernel_rfl) (by kernel_rfl) (fun _ _ _ h => h) (by rfl) ?_ (by assumption) ?_
    · intro w' hSw
      obtain ⟨q0, q1, q2, q3⟩ := hSw
      exact exec_load rfl rfl (load_res q2 rfl)
    try simp only [Act.put, List.setIfInBounds_toArray, List.set_cons_zero, List.set_cons_succ]
    refine pickL (v := .agg #[.int .i64 e2, .int .u64 k2, .slice va2 vb2.length vc2, .slice ia2 il2.length ic2, .int .i64 p0, .int .i64 p1, .int .u64 p2, .int .i64 p3, .int .u64 p4, .int .i64 r0, .int .i64 r1, .int .u64 r2, .int .i64 r3, .int .u64 r4, .bool f2]) 39 (some 72) rfl rfl (by kernel_rfl) (by kernel_rfl) (by kernel_rfl) (by decide) (by kernel_rfl) (by kernel_rfl) (fun _ _ _ h => h) (by rfl) ?_ (by assumption) ?_
    · intro w' hSw
      obtain ⟨q0, q1, q2, q3⟩ := hSw
      exact exec_load rfl rfl (load_res q1 rfl)
    try simp only [Act.put, List.setIfInBounds_toArray, List.set_cons_zero, List.set_cons_succ]
    refine oneL (i := 37) (by kernel_rfl) rfl (fun K hK => ?_)
    go_simp
    refine (C37.out _ BW.out).mono ?_
    rintro e w15 ⟨rfl, hb⟩
    replace BW := hide (BW.out.trans (hb.mono BW.out.size))
    clear hb
    refine hK.out _ _ ?_ ?_
    · exact hS.out _ BW.out
    clear hK K
    try simp only [Act.put, List.setIfInBounds_toArray, List.set_cons_zero, List.set_cons_succ]
    clear hHeld
    have hHeld : (fun w' => IsB w' H #[.int .i64 kd, .int .u64 key, .int .u64 high, .slice ca cb.length cc] 27 ∧ IsB w' (H + 1) #[.int .i64 e2, .int .u64 k2, .slice va2 vb2.length vc2, .slice ia2 il2.length ic2, .int .i64 p0, .int .i64 p1, .int .u64 p2, .int .i64 p3, .int .u64 p4, .int .i64 r0, .int .i64 r1, .int .u64 r2, .int .i64 r3, .int .u64 r4, .bool f2] 46 ∧ IsB w' XB #[.int .i64 xe, .int .u64 xk, .slice xva xvb.length xvc, .slice xia xil.length xic, .int .i64 0, .int .i64 0, .int .u64 0, .int .i64 0, .int .u64 0, .int .i64 0, .int .i64 0, .int .u64 0, .int .i64 0, .int .u64 0, .bool xf] 46 ∧ IsB w' YB #[.int .i64 ye, .int .u64 yk, .slice yva yvb.length yvc, .slice yia yil.length yic, .int .i64 0, .int .i64 0, .int .u64 0, .int .i64 0, .int .u64 0, .int .i64 0, .int .i64 0, .int .u64 0, .int .i64 0, .int .u64 0, .bool yf] 46) w15 := hS.out _ BW.out
    refine oneL (i := 40) (by kernel_rfl) rfl (fun K hK => ?_)
    go_simp
    refine (C40.out _ BW.out).mono ?_
    rintro e w16 ⟨rfl, hb⟩
    replace BW := hide (BW.out.trans (hb.mono BW.out.size))
    clear hb
    refine hK.out _ _ ?_ ?_
    · exact hS.out _ BW.out
    clear hK K
    try simp only [Act.put, List.setIfInBounds_toArray, List.set_cons_zero, List.set_cons_succ]
    clear hHeld
    have hHeld : (fun w' => IsB w' H #[.int .i64 kd, .int .u64 key, .int .u64 high, .slice ca cb.length cc] 27 ∧ IsB w' (H + 1) #[.int .i64 e2, .int .u64 k2, .slice va2 vb2.length vc2, .slice ia2 il2.length ic2, .int .i64 p0, .int .i64 p1, .int .u64 p2, .int .i64 p3, .int .u64 p4, .int .i64 r0, .int .i64 r1, .int .u64 r2, .int .i64 r3, .int .u64 r4, .bool f2] 46 ∧ IsB w' XB #[.int .i64 xe, .int .u64 xk, .slice xva xvb.length xvc, .slice xia xil.length xic, .int .i64 0, .int .i64 0, .int .u64 0, .int .i64 0, .int .u64 0, .int .i64 0, .int .i64 0, .int .u64 0, .int .i64 0, .int .u64 0, .bool xf] 46 ∧ IsB w' YB #[.int .i64 ye, .int .u64 yk, .slice yva yvb.length yvc, .slice yia yil.length yic, .int .i64 0, .int .i64 0, .int .u64 0, .int .i64 0, .int .u64 0, .int .i64 0, .int .i64 0, .int .u64 0, .int .i64 0, .int .u64 0, .bool yf] 46) w16 := hS.out _ BW.out
    refine pickA (v := ?_) 41 (some 74) rfl rfl (by kernel_rfl) (by kernel_rfl) (by kernel_rfl) (by decide) (fun _ _ _ h => h) (by rfl) ?_ (by assumption) ?_
    rotate_left
    · intro w'
      go_simp
      try with_reducible rfl
    try simp only [Act.put, List.setIfInBounds_toArray, List.set_cons_zero, List.set_cons_succ]
    refine pickA (v := ?_) 42 (some 75) rfl rfl (by kernel_rfl) (by kernel_rfl) (by kernel_rfl) (by decide) (fun _ _ _ h => h) (by rfl) ?_ (by assumption) ?_
    rotate_left
    · intro w'
      go_simp
      try with_reducible rfl
    try simp only [Act.put, List.setIfInBounds_toArray, List.set_cons_zero, List.set_cons_succ]
    refine pickA (v := ?_) 43 (some 76) rfl rfl (by kernel_rfl) (by kernel_rfl) (by kernel_rfl) (by decide) (fun _ _ _ h => h) (by rfl) ?_ (by assumption) ?_
    rotate_left
    · intro w'
      go_simp
      try with_reducible rfl
    try simp only [Act.put, List.setIfInBounds_toArray, List.set_cons_zero, List.set_cons_succ]
    refine oneL (i := 44) (by kernel_rfl) rfl (fun K hK => ?_)
    go_simp
    refine (AW.out _).mono ?_
    rintro e w17 ⟨rfl, hb⟩
    replace BW := hide (BW.out.trans (hb.mono BW.out.size))
    clear hb
    refine hK.out _ _ ?_ ?_
    · exact hS.out _ BW.out
    clear hK K
    try simp only [Act.put, List.setIfInBounds_toArray, List.set_cons_zero, List.set_cons_succ]
    clear hHeld
    have hHeld : (fun w' => IsB w' H #[.int .i64 kd, .int .u64 key, .int .u64 high, .slice ca cb.length cc] 27 ∧ IsB w' (H + 1) #[.int .i64 e2, .int .u64 k2, .slice va2 vb2.length vc2, .slice ia2 il2.length ic2, .int .i64 p0, .int .i64 p1, .int .u64 p2, .int .i64 p3, .int .u64 p4, .int .i64 r0, .int .i64 r1, .int .u64 r2, .int .i64 r3, .int .u64 r4, .bool f2] 46 ∧ IsB w' XB #[.int .i64 xe, .int .u64 xk, .slice xva xvb.length xvc, .slice xia xil.length xic, .int .i64 0, .int .i64 0, .int .u64 0, .int .i64 0, .int .u64 0, .int .i64 0, .int .i64 0, .int .u64 0, .int .i64 0, .int .u64 0, .bool xf] 46 ∧ IsB w' YB #[.int .i64 ye, .int .u64 yk, .slice yva yvb.length yvc, .slice yia yil.length yic, .int .i64 0, .int .i64 0, .int .u64 0, .int .i64 0, .int .u64 0, .int .i64 0, .int .i64 0, .int .u64 0, .int .i64 0, .int .u64 0, .bool yf] 46) w17 := hS.out _ BW.out
    refine pickA (v := ?_) 45 (some 78) rfl rfl (by kernel_rfl) (by kernel_rfl) (by kernel_rfl) (by decide) (fun _ _ _ h => h) (by rfl) ?_ (by assumption) ?_
    rotate_left
    · intro w'
      go_simp
      try with_reducible rfl
    try simp only [Act.put, List.setIfInBounds_toArray, List.set_cons_zero, List.set_cons_succ]
    refine pickA (v := ?_) 46 (some 6) rfl rfl (by kernel_rfl) (by kernel_rfl) (by kernel_rfl) (by decide) (fun _ _ _ h => h) (by rfl) ?_ (by assumption) ?_
    rotate_left
    · intro w'
      go_simp
      try with_reducible rfl
    try simp only [Act.put, List.setIfInBounds_toArray, List.set_cons_zero, List.set_cons_succ]
    refine doneL (by kernel_rfl) ?_ _
    clear hHeld
    go_wp2
    go_ret
    exact ⟨rfl, B3.out.trans (BW.out.mono B3.out.size)⟩
  · have hEb : (E == 0) = false := by simpa using hE
    refine regionL 47 (fun w' => IsB w' H #[.int .i64 kd, .int .u64 key, .int .u64 high, .slice ca cb.length cc] 27 ∧ IsB w' (H + 1) #[.int .i64 e2, .int .u64 k2, .slice va2 vb2.length vc2, .slice ia2 il2.length ic2, .int .i64 p0, .int .i64 p1, .int .u64 p2, .int .i64 p3, .int .u64 p4, .int .i64 r0, .int .i64 r1, .int .u64 r2, .int .i64 r3, .int .u64 r4, .bool f2] 46 ∧ IsB w' XB #[.int .i64 xe, .int .u64 xk, .slice xva xvb.length xvc, .slice xia xil.length xic, .int .i64 0, .int .i64 0, .int .u64 0, .int .i64 0, .int .u64 0, .int .i64 0, .int .i64 0, .int .u64 0, .int .i64 0, .int .u64 0, .bool xf] 46 ∧ IsB w' YB #[.int .i64 ye, .int .u64 yk, .slice yva yvb.length yvc, .slice yia yil.length yic, .int .i64 0, .int .i64 0, .int .u64 0, .int .i64 0, .int .u64 0, .int .i64 0, .int .i64 0, .int .u64 0, .int .i64 0, .int .u64 0, .bool yf] 46) mixed (hS.out _ BW.out) (fun hHeld => ?_)
    refine pickA (v := ?_) 0 (some 33) rfl rfl (by kernel_rfl) (by kernel_rfl) (by kernel_rfl) (by decide) (fun _ _ _ h => h) (by rfl) ?_ (by assumption) ?_
    rotate_left
    · intro w'
      go_simp
      try with_reducible rfl
    try simp only [Act.put, List.setIfInBounds_toArray, List.set_cons_zero, List.set_cons_succ]
    refine pickA (v := ?_) 1 (some 34) rfl rfl (by kernel_rfl) (by kernel_rfl) (by kernel_rfl) (by decide) (fun _ _ _ h => h) (by rfl) ?_ (by assumption) ?_
    rotate_left
    · intro w'
      go_simp
      try with_reducible rfl
    try simp only [Act.put, List.setIfInBounds_toArray, List.set_cons_zero, List.set_cons_succ]
    refine oneL (i := 2) (by kernel_rfl) rfl (fun K hK => ?_)
    go_simp
    refine (C2.out _ BW.out).mono ?_
    rintro e w10 ⟨rfl, hb⟩
    replace BW := hide (BW.out.trans (hb.mono BW.out.size))
    clear hb
    refine hK.out _ _ ?_ ?_
    · exact hS.out _ BW.out
    clear hK K
    try simp only [Act.put, List.setIfInBounds_toArray, List.set_cons_zero, List.set_cons_succ]
    clear hHeld
    have hHeld : (fun w' => IsB w' H #[.int .i64 kd, .int .u64 key, .int .u64 high, .slice ca cb.length cc] 27 ∧ IsB w' (H + 1) #[.int .i64 e2, .int .u64 k2, .slice va2 vb2.length vc2, .slice ia2 il2.length ic2, .int .i64 p0, .int .i64 p1, .int .u64 p2, .int .i64 p3, .int .u64 p4, .int .i64 r0, .int .i64 r1, .int .u64 r2, .int .i64 r3, .int .u64 r4, .bool f2] 46 ∧ IsB w' XB #[.int .i64 xe, .int .u64 xk, .slice xva xvb.length xvc, .slice xia xil.length xic, .int .i64 0, .int .i64 0, .int .u64 0, .int .i64 0, .int .u64 0, .int .i64 0, .int .i64 0, .int .u64 0, .int .i64 0, .int .u64 0, .bool xf] 46 ∧ IsB w' YB #[.int .i64 ye, .int .u64 yk, .slice yva yvb.length yvc, .slice yia yil.length yic, .int .i64 0, .int .i64 0, .int .u64 0, .int .i64 0, .int .u64 0, .int .i64 0, .int .i64 0, .int .u64 0, .int .i64 0, .int .u64 0, .bool yf] 46) w10 := hS.out _ BW.out
    refine pickA (v := ?_) 3 (some 36) rfl rfl (by kernel_rfl) (by kernel_rfl) (by kernel_rfl) (by decide) (fun _ _ _ h => h) (by rfl) ?_ (by assumption) ?_
    rotate_left
    · intro w'
      go_simp
      try with_reducible rfl
    try simp only [Act.put, List.setIfInBounds_toArray, List.set_cons_zero, List.set_cons_succ]
    refine pickL (v := .agg #[.int .i64 xe, .int .u64 xk, .slice xva xvb.length xvc, .slice xia xil.length xic, .int .i64 0, .int .i64 0, .int .u64 0, .int .i64 0, .int .u64 0, .int .i64 0, .int .i64 0, .int .u64 0, .int .i64 0, .int .u64 0, .bool xf]) 4 (some 37) rfl rfl (by kernel_rfl) (by kernel_rfl) (by kernel_rfl) (by decide) (by kernel_rfl) (by kernel_rfl) (fun _ _ _ h => h) (by rfl) ?_ (by assumption) ?_
    · intro w' hSw
      obtain ⟨q0, q1, q2, q3⟩ := hSw
      exact exec_load rfl rfl (load_res q2 rfl)
    try simp only [Act.put, List.setIfInBounds_toArray, List.set_cons_zero, List.set_cons_succ]
    refine pickL (v := .agg #[.int .i64 ye, .int .u64 yk, .slice yva yvb.length yvc, .slice yia yil.length yic, .int .i64 0, .int .i64 0, .int .u64 0, .int .i64 0, .int .u64 0, .int .i64 0, .int .i64 0, .int .u64 0, .int .i64 0, .int .u64 0, .bool yf]) 5 (some 38) rfl rfl (by kernel_rfl) (by kernel_rfl) (by kernel_rfl) (by decide) (by kernel_rfl) (by kernel_rfl) (fun _ _ _ h => h) (by rfl) ?_ (by assumption) ?_
    · intro w' hSw
      obtain ⟨q0, q1, q2, q3⟩ := hSw
      exact exec_load rfl rfl (load_res q3 rfl)
    try simp only [Act.put, List.setIfInBounds_toArray, List.set_cons_zero, List.set_cons_succ]
    refine oneL (i := 6) (by kernel_rfl) rfl (fun K hK => ?_)
    go_simp
    refine (C6.out _ BW.out).mono ?_
    rintro e w11 ⟨rfl, hb⟩
    replace BW := hide (BW.out.trans (hb.mono BW.out.size))
    clear hb
    refine hK.out _ _ ?_ ?_
    · exact hS.out _ BW.out
    clear hK K
    try simp only [Act.put, List.setIfInBounds_toArray, List.set_cons_zero, List.set_cons_succ]
    clear hHeld
    have hHeld : (fun w' => IsB w' H #[.int .i64 kd, .int .u64 key, .int .u64 high, .slice ca cb.length cc] 27 ∧ IsB w' (H + 1) #[.int .i64 e2, .int .u64 k2, .slice va2 vb2.length vc2, .slice ia2 il2.length ic2, .int .i64 p0, .int .i64 p1, .int .u64 p2, .int .i64 p3, .int .u64 p4, .int .i64 r0, .int .i64 r1, .int .u64 r2, .int .i64 r3, .int .u64 r4, .bool f2] 46 ∧ IsB w' XB #[.int .i64 xe, .int .u64 xk, .slice xva xvb.length xvc, .slice xia xil.length xic, .int .i64 0, .int .i64 0, .int .u64 0, .int .i64 0, .int .u64 0, .int .i64 0, .int .i64 0, .int .u64 0, .int .i64 0, .int .u64 0, .bool xf] 46 ∧ IsB w' YB #[.int .i64 ye, .int .u64 yk, .slice yva yvb.length yvc, .slice yia yil.length yic, .int .i64 0, .int .i64 0, .int .u64 0, .int .i64 0, .int .u64 0, .int .i64 0, .int .i64 0, .int .u64 0, .int .i64 0, .int .u64 0, .bool yf] 46) w11 := hS.out _ BW.out
    refine pickA (v := ?_) 7 (some 40) rfl rfl (by kernel_rfl) (by kernel_rfl) (by kernel_rfl) (by decide) (fun _ _ _ h => h) (by rfl) ?_ (by assumption) ?_
    rotate_left
    · intro w'
      go_simp
      try with_reducible rfl
    try simp only [Act.put, List.setIfInBounds_toArray, List.set_cons_zero, List.set_cons_succ]
    refine pickA (v := ?_) 8 (some 41) rfl rfl (by kernel_rfl) (by kernel_rfl) (by kernel_rfl) (by decide) (fun _ _ _ h => h) (by rfl) ?_ (by assumption) ?_
    rotate_left
    · intro w'
      go_simp
      try with_reducible rfl
    try simp only [Act.put, List.setIfInBounds_toArray, List.set_cons_zero, List.set_cons_succ]
    refine pickA (v := ?_) 9 (some 42) rfl rfl (by kernel_rfl) (by kernel_rfl) (by kernel_rfl) (by decide) (fun _ _ _ h => h) (by rfl) ?_ (by assumption) ?_
    rotate_left
    · intro w'
      go_simp
      try with_reducible rfl
    try simp only [Act.put, List.setIfInBounds_toArray, List.set_cons_zero, List.set_cons_succ]
    refine pickA (v := ?_) 10 (some 43) rfl rfl (by kernel_rfl) (by kernel_rfl) (by kernel_rfl) (by decide) (fun _ _ _ h => h) (by rfl) ?_ (by assumption) ?_
    rotate_left
    · intro w'
      go_simp
      try with_reducible rfl
    try simp only [Act.put, List.setIfInBounds_toArray, List.set_cons_zero, List.set_cons_succ]
    refine pickA (v := ?_) 11 (some 44) rfl rfl (by kernel_rfl) (by kernel_rfl) (by kernel_rfl) (by decide) (fun _ _ _ h => h) (by rfl) ?_ (by assumption) ?_
    rotate_left
    · intro w'
      go_simp
      try with_reducible rfl
    try simp only [Act.put, List.setIfInBounds_toArray, List.set_cons_zero, List.set_cons_succ]
    refine pickA (v := ?_) 12 (some 45) rfl rfl (by kernel_rfl) (by kernel_rfl) (by kernel_rfl) (by decide) (fun _ _ _ h => h) (by rfl) ?_ (by assumption) ?_
    rotate_left
    · intro w'
      go_simp
      try with_reducible rfl
    try simp only [Act.put, List.setIfInBounds_toArray, List.set_cons_zero, List.set_cons_succ]
    refine pickA (v := ?_) 13 (some 46) rfl rfl (by kernel_rfl) (by kernel_rfl) (by kernel_rfl) (by decide) (fun _ _ _ h => h) (by rfl) ?_ (by assumption) ?_
    rotate_left
    · intro w'
      go_simp
      try with_reducible rfl
    try simp only [Act.put, List.setIfInBounds_toArray, List.set_cons_zero, List.set_cons_succ]
    refine pickA (v := ?_) 14 (some 47) rfl rfl (by kernel_rfl) (by kernel_rfl) (by kernel_rfl) (by decide) (fun _ _ _ h => h) (by rfl) ?_ (by assumption) ?_
    rotate_left
    · intro w'
      go_simp
      try with_reducible rfl
    try simp only [Act.put, List.setIfInBounds_toArray, List.set_cons_zero, List.set_cons_succ]
    refine pickL (v := .agg #[.int .i64 kd, .int .u64 key, .int .u64 high, .slice ca cb.length cc]) 15 (some 48) rfl rfl (by kernel_rfl) (by kernel_rfl) (by kernel_rfl) (by decide) (by kernel_rfl) (by kernel_rfl) (fun _ _ _ h => h) (by rfl) ?_ (by assumption) ?_
    · intro w' hSw
      obtain ⟨q0, q1, q2, q3⟩ := hSw
      exact exec_load rfl rfl (load_call q0 rfl)
    try simp only [Act.put, List.setIfInBounds_toArray, List.set_cons_zero, List.set_cons_succ]
    refine pickL (v := .agg #[.int .i64 e2, .int .u64 k2, .slice va2 vb2.length vc2, .slice ia2 il2.length ic2, .int .i64 p0, .int .i64 p1, .int .u64 p2, .int .i64 p3, .int .u64 p4, .int .i64 r0, .int .i64 r1, .int .u64 r2, .int .i64 r3, .int .u64 r4, .bool f2]) 16 (some 49) rfl rfl (by kernel_rfl) (by kernel_rfl) (by kernel_rfl) (by decide) (by kernel_rfl) (by kernel_rfl) (fun _ _ _ h => h) (by rfl) ?_ (by assumption) ?_
    · intro w' hSw
      obtain ⟨q0, q1, q2, q3⟩ := hSw
      exact exec_load rfl rfl (load_res q1 rfl)
    try simp only [Act.put, List.setIfInBounds_toArray, List.set_cons_zero, List.set_cons_succ]
    refine pickA (v := ?_) 18 (some 51) rfl rfl (by kernel_rfl) (by kernel_rfl) (by kernel_rfl) (by decide) (fun _ _ _ h => h) (by rfl) ?_ (by assumption) ?_
    rotate_left
    · intro w'
      go_simp
      try with_reducible rfl
    try simp only [Act.put, List.setIfInBounds_toArray, List.set_cons_zero, List.set_cons_succ]
    refine pickL (v := .agg #[.int .i64 kd, .int .u64 key, .int .u64 high, .slice ca cb.length cc]) 19 (some 52) rfl rfl (by kernel_rfl) (by kernel_rfl) (by kernel_rfl) (by decide) (by kernel_rfl) (by kernel_rfl) (fun _ _ _ h => h) (by rfl) ?_ (by assumption) ?_
    · intro w' hSw
      obtain ⟨q0, q1, q2, q3⟩ := hSw
      exact exec_load rfl rfl (load_call q0 rfl)
    try simp only [Act.put, List.setIfInBounds_toArray, List.set_cons_zero, List.set_cons_succ]
    refine pickL (v := .agg #[.int .i64 e2, .int .u64 k2, .slice va2 vb2.length vc2, .slice ia2 il2.length ic2, .int .i64 p0, .int .i64 p1, .int .u64 p2, .int .i64 p3, .int .u64 p4, .int .i64 r0, .int .i64 r1, .int .u64 r2, .int .i64 r3, .int .u64 r4, .bool f2]) 20 (some 53) rfl rfl (by kernel_rfl) (by kernel_rfl) (by kernel_rfl) (by decide) (by kernel_rfl) (by kernel_rfl) (fun _ _ _ h => h) (by rfl) ?_ (by assumption) ?_
    · intro w' hSw
      obtain ⟨q0, q1, q2, q3⟩ := hSw
      exact exec_load rfl rfl (load_res q1 rfl)
    try simp only [Act.put, List.setIfInBounds_toArray, List.set_cons_zero, List.set_cons_succ]
    refine oneL (i := 17) (by kernel_rfl) rfl (fun K hK => ?_)
    go_simp
    refine (C17.out _ BW.out).mono ?_
    rintro e w12 ⟨rfl, hb⟩
    replace BW := hide (BW.out.trans (hb.mono BW.out.size))
    clear hb
    refine hK.out _ _ ?_ ?_
    · exact hS.out _ BW.out
    clear hK K
    try simp only [Act.put, List.setIfInBounds_toArray, List.set_cons_zero, List.set_cons_succ]
    clear hHeld
    have hHeld : (fun w' => IsB w' H #[.int .i64 kd, .int .u64 key, .int .u64 high, .slice ca cb.length cc] 27 ∧ IsB w' (H + 1) #[.int .i64 e2, .int .u64 k2, .slice va2 vb2.length vc2, .slice ia2 il2.length ic2, .int .i64 p0, .int .i64 p1, .int .u64 p2, .int .i64 p3, .int .u64 p4, .int .i64 r0, .int .i64 r1, .int .u64 r2, .int .i64 r3, .int .u64 r4, .bool f2] 46 ∧ IsB w' XB #[.int .i64 xe, .int .u64 xk, .slice xva xvb.length xvc, .slice xia xil.length xic, .int .i64 0, .int .i64 0, .int .u64 0, .int .i64 0, .int .u64 0, .int .i64 0, .int .i64 0, .int .u64 0, .int .i64 0, .int .u64 0, .bool xf] 46 ∧ IsB w' YB #[.int .i64 ye, .int .u64 yk, .slice yva yvb.length yvc, .slice yia yil.length yic, .int .i64 0, .int .i64 0, .int .u64 0, .int .i64 0, .int .u64 0, .int .i64 0, .int .i64 0, .int .u64 0, .int .i64 0, .int .u64 0, .bool yf] 46) w12 := hS.out _ BW.out
    refine oneL (i := 21) (by kernel_rfl) rfl (fun K hK => ?_)
    go_simp
    refine (C21.out _ BW.out).mono ?_
    rintro e w13 ⟨rfl, hb⟩
    replace BW := hide (BW.out.trans (hb.mono BW.out.size))
    clear hb
    refine hK.out _ _ ?_ ?_
    · exact hS.out _ BW.out
    clear hK K
    try simp only [Act.put, List.setIfInBounds_toArray, List.set_cons_zero, List.set_cons_succ]
    clear hHeld
    have hHeld : (fun w' => IsB w' H #[.int .i64 kd, .int .u64 key, .int .u64 high, .slice ca cb.length cc] 27 ∧ IsB w' (H + 1) #[.int .i64 e2, .int .u64 k2, .slice va2 vb2.length vc2, .slice ia2 il2.length ic2, .int .i64 p0, .int .i64 p1, .int .u64 p2, .int .i64 p3, .int .u64 p4, .int .i64 r0, .int .i64 r1, .int .u64 r2, .int .i64 r3, .int .u64 r4, .bool f2] 46 ∧ IsB w' XB #[.int .i64 xe, .int .u64 xk, .slice xva xvb.length xvc, .slice xia xil.length xic, .int .i64 0, .int .i64 0, .int .u64 0, .int .i64 0, .int .u64 0, .int .i64 0, .int .i64 0, .int .u64 0, .int .i64 0, .int .u64 0, .bool xf] 46 ∧ IsB w' YB #[.int .i64 ye, .int .u64 yk, .slice yva yvb.length yvc, .slice yia yil.length yic, .int .i64 0, .int .i64 0, .int .u64 0, .int .i64 0, .int .u64 0, .int .i64 0, .int .i64 0, .int .u64 0, .int .i64 0, .int .u64 0, .bool yf] 46) w13 := hS.out _ BW.out
    refine pickA (v := ?_) 22 (some 55) rfl rfl (by kernel_rfl) (by kernel_rfl) (by kernel_rfl) (by decide) (fun _ _ _ h => h) (by rfl) ?_ (by assumption) ?_
    rotate_left
    · intro w'
      go_simp
      try with_reducible rfl
    try simp only [Act.put, List.setIfInBounds_toArray, List.set_cons_zero, List.set_cons_succ]
    refine pickA (v := ?_) 23 (some 56) rfl rfl (by kernel_rfl) (by kernel_rfl) (by kernel_rfl) (by decide) (fun _ _ _ h => h) (by rfl) ?_ (by assumption) ?_
    rotate_left
    · intro w'
      go_simp
      try with_reducible rfl
    try simp only [Act.put, List.setIfInBounds_toArray, List.set_cons_zero, List.set_cons_succ]
    refine pickA (v := ?_) 24 (some 57) rfl rfl (by kernel_rfl) (by kernel_rfl) (by kernel_rfl) (by decide) (fun _ _ _ h => h) (by rfl) ?_ (by assumption) ?_
    rotate_left
    · intro w'
      go_simp
      try with_reducible rfl
    try simp only [Act.put, List.setIfInBounds_toArray, List.set_cons_zero, List.set_cons_succ]
    refine pickA (v := ?_) 25 (some 58) rfl rfl (by kernel_rfl) (by kernel_rfl) (by kernel_rfl) (by decide) (fun _ _ _ h => h) (by rfl) ?_ (by assumption) ?_
    rotate_left
    · intro w'
      go_simp
      try with_reducible rfl
    try simp only [Act.put, List.setIfInBounds_toArray, List.set_cons_zero, List.set_cons_succ]
    refine pickA (v := .bool true) 26 (some 59) rfl rfl (by kernel_rfl) (by kernel_rfl) (by kernel_rfl) (by decide) (fun _ _ _ h => h) (by rfl) ?_ (by assumption) ?_
    · intro w'
      go_simp
      all_goals simp [hE]
    try simp only [Act.put, List.setIfInBounds_toArray, List.set_cons_zero, List.set_cons_succ]
    refine pickA (v := ?_) 27 (some 60) rfl rfl (by kernel_rfl) (by kernel_rfl) (by kernel_rfl) (by decide) (fun _ _ _ h => h) (by rfl) ?_ (by assumption) ?_
    rotate_left
    · intro w'
      go_simp
      try with_reducible rfl
    try simp only [Act.put, List.setIfInBounds_toArray, List.set_cons_zero, List.set_cons_succ]
    refine pickN 28 (some 61) rfl rfl (by kernel_rfl) (by kernel_rfl) (by kernel_rfl) (by decide) (fun _ _ _ h => h) (by rfl) (by assumption) ?_
    try simp only [Act.put, List.setIfInBounds_toArray, List.set_cons_zero, List.set_cons_succ]
    refine pickN 29 (some 62) rfl rfl (by kernel_rfl) (by kernel_rfl) (by kernel_rfl) (by decide) (fun _ _ _ h => h) (by rfl) (by assumption) ?_
    try simp only [Act.put, List.setIfInBounds_toArray, List.set_cons_zero, List.set_cons_succ]
    refine pickN 30 (some 63) rfl rfl (by kernel_rfl) (by kernel_rfl) (by kernel_rfl) (by decide) (fun _ _ _ h => h) (by rfl) (by assumption) ?_
    try simp only [Act.put, List.setIfInBounds_toArray, List.set_cons_zero, List.set_cons_succ]
    refine pickN 31 (some 64) rfl rfl (by kernel_rfl) (by kernel_rfl) (by kernel_rfl) (by decide) (fun _ _ _ h => h) (by rfl) (by assumption) ?_
    try simp only [Act.put, List.setIfInBounds_toArray, List.set_cons_zero, List.set_cons_succ]
    refine pickA (v := ?_) 32 (some 65) rfl rfl (by kernel_rfl) (by kernel_rfl) (by kernel_rfl) (by decide) (fun _ _ _ h => h) (by rfl) ?_ (by assumption) ?_
    rotate_left
    · intro w'
      go_simp
      try with_reducible rfl
    try simp only [Act.put, List.setIfInBounds_toArray, List.set_cons_zero, List.set_cons_succ]
    refine pickA (v := ?_) 33 (some 66) rfl rfl (by kernel_rfl) (by kernel_rfl) (by kernel_rfl) (by decide) (fun _ _ _ h => h) (by rfl) ?_ (by assumption) ?_
    rotate_left
    · intro w'
      go_simp
      try with_reducible rfl
    try simp only [Act.put, List.setIfInBounds_toArray, List.set_cons_zero, List.set_cons_succ]
    refine pickA (v := ?_) 34 (some 67) rfl rfl (by kernel_rfl) (by kernel_rfl) (by kernel_rfl) (by decide) (fun _ _ _ h => h) (by rfl) ?_ (by assumption) ?_
    rotate_left
    · intro w'
      go_simp
      try with_reducible rfl
    try simp only [Act.put, List.setIfInBounds_toArray, List.set_cons_zero, List.set_cons_succ]
    refine pickL (v := .agg #[.int .i64 xe, .int .u64 xk, .slice xva xvb.length xvc, .slice xia xil.length xic, .int .i64 0, .int .i64 0, .int .u64 0, .int .i64 0, .int .u64 0, .int .i64 0, .int .i64 0, .int .u64 0, .int .i64 0, .int .u64 0, .bool xf]) 35 (some 68) rfl rfl (by kernel_rfl) (by kernel_rfl) (by kernel_rfl) (by decide) (by kernel_rfl) (by kernel_rfl) (fun _ _ _ h => h) (by rfl) ?_ (by assumption) ?_
    · intro w' hSw
      obtain ⟨q0, q1, q2, q3⟩ := hSw
      exact exec_load rfl rfl (load_res q2 rfl)
    try simp only [Act.put, List.setIfInBounds_toArray, List.set_cons_zero, List.set_cons_succ]
    refine pickL (v := .agg #[.int .i64 e2, .int .u64 k2, .slice va2 vb2.length vc2, .slice ia2 il2.length ic2, .int .i64 p0, .int .i64 p1, .int .u64 p2, .int .i64 p3, .int .u64 p4, .int .i64 r0, .int .i64 r1, .int .u64 r2, .int .i64 r3, .int .u64 r4, .bool f2]) 36 (some 69) rfl rfl (by kernel_rfl) (by kernel_rfl) (by kernel_rfl) (by decide) (by kernel_rfl) (by kernel_rfl) (fun _ _ _ h => h) (by rfl) ?_ (by assumption) ?_
    · intro w' hSw
      obtain ⟨q0, q1, q2, q3⟩ := hSw
      exact exec_load rfl rfl (load_res q1 rfl)
    try simp only [Act.put, List.setIfInBounds_toArray, List.set_cons_zero, List.set_cons_succ]
    refine pickL (v := .agg #[.int .i64 xe, .int .u64 xk, .slice xva xvb.length xvc, .slice xia xil.length xic, .int .i64 0, .int .i64 0, .int .u64 0, .int .i64 0, .int .u64 0, .int .i64 0, .int .i64 0, .int .u64 0, .int .i64 0, .int .u64 0, .bool xf]) 38 (some 71) rfl rfl (by kernel_rfl) (by kernel_rfl) (by kernel_rfl) (by decide) (by kernel_rfl) (by kernel_rfl) (fun _ _ _ h => h) (by rfl) ?_ (by assumption) ?_
    · intro w' hSw
      obtain ⟨q0, q1, q2, q3⟩ := hSw
      exact exec_load rfl rfl (load_res q2 rfl)
    try simp only [Act.put, List.setIfInBounds_toArray, List.set_cons_zero, List.set_cons_succ]
    refine pickL (v := .agg #[.int .i64 e2, .int .u64 k2, .slice va2 vb2.length vc2, .slice ia2 il2.length ic2, .int .i64 p0, .int .i64 p1, .int .u64 p2, .int .i64 p3, .int .u64 p4, .int .i64 r0, .int .i64 r1, .int .u64 r2, .int .i64 r3, .int .u64 r4, .bool f2]) 39 (some 72) rfl rfl (by kernel_rfl) (by kernel_rfl) (by kernel_rfl) (by decide) (by kernel_rfl) (by kernel_rfl) (fun _ _ _ h => h) (by rfl) ?_ (by assumption) ?_
    · intro w' hSw
      obtain ⟨q0, q1, q2, q3⟩ := hSw
      exact exec_load rfl rfl (load_res q1 rfl)
    try simp only [Act.put, List.setIfInBounds_toArray, List.set_cons_zero, List.set_cons_succ]
    refine oneL (i := 37) (by kernel_rfl) rfl (fun K hK => ?_)
    go_simp
    refine (C37.out _ BW.out).mono ?_
    rintro e w15 ⟨rfl, hb⟩
    replace BW := hide (BW.out.trans (hb.mono BW.out.size))
    clear hb
    refine hK.out _ _ ?_ ?_
    · exact hS.out _ BW.out
    clear hK K
    try simp only [Act.put, List.setIfInBounds_toArray, List.set_cons_zero, List.set_cons_succ]
    clear hHeld
    have hHeld : (fun w' => IsB w' H #[.int .i64 kd, .int .u64 key, .int .u64 high, .slice ca cb.length cc] 27 ∧ IsB w' (H + 1) #[.int .i64 e2, .int .u64 k2, .slice va2 vb2.length vc2, .slice ia2 il2.length ic2, .int .i64 p0, .int .i64 p1, .int .u64 p2, .int .i64 p3, .int .u64 p4, .int .i64 r0, .int .i64 r1, .int .u64 r2, .int .i64 r3, .int .u64 r4, .bool f2] 46 ∧ IsB w' XB #[.int .i64 xe, .int .u64 xk, .slice xva xvb.length xvc, .slice xia xil.length xic, .int .i64 0, .int .i64 0, .int .u64 0, .int .i64 0, .int .u64 0, .int .i64 0, .int .i64 0, .int .u64 0, .int .i64 0, .int .u64 0, .bool xf] 46 ∧ IsB w' YB #[.int .i64 ye, .int .u64 yk, .slice yva yvb.length yvc, .slice yia yil.length yic, .int .i64 0, .int .i64 0, .int .u64 0, .int .i64 0, .int .u64 0, .int .i64 0, .int .i64 0, .int .u64 0, .int .i64 0, .int .u64 0, .bool yf] 46) w15 := hS.out _ BW.out
    refine oneL (i := 40) (by kernel_rfl) rfl (fun K hK => ?_)
    go_simp
    refine (C40.out _ BW.out).mono ?_
    rintro e w16 ⟨rfl, hb⟩
    replace BW := hide (BW.out.trans (hb.mono BW.out.size))
    clear hb
    refine hK.out _ _ ?_ ?_
    · exact hS.out _ BW.out
    clear hK K
    try simp only [Act.put, List.setIfInBounds_toArray, List.set_cons_zero, List.set_cons_succ]
    clear hHeld
    have hHeld : (fun w' => IsB w' H #[.int .i64 kd, .int .u64 key, .int .u64 high, .slice ca cb.length cc] 27 ∧ IsB w' (H + 1) #[.int .i64 e2, .int .u64 k2, .slice va2 vb2.length vc2, .slice ia2 il2.length ic2, .int .i64 p0, .int .i64 p1, .int .u64 p2, .int .i64 p3, .int .u64 p4, .int .i64 r0, .int .i64 r1, .int .u64 r2, .int .i64 r3, .int .u64 r4, .bool f2] 46 ∧ IsB w' XB #[.int .i64 xe, .int .u64 xk, .slice xva xvb.length xvc, .slice xia xil.length xic, .int .i64 0, .int .i64 0, .int .u64 0, .int .i64 0, .int .u64 0, .int .i64 0, .int .i64 0, .int .u64 0, .int .i64 0, .int .u64 0, .bool xf] 46 ∧ IsB w' YB #[.int .i64 ye, .int .u64 yk, .slice yva yvb.length yvc, .slice yia yil.length yic, .int .i64 0, .int .i64 0, .int .u64 0, .int .i64 0, .int .u64 0, .int .i64 0, .int .i64 0, .int .u64 0, .int .i64 0, .int .u64 0, .bool yf] 46) w16 := hS.out _ BW.out
    refine pickA (v := ?_) 41 (some 74) rfl rfl (by kernel_rfl) (by kernel_rfl) (by kernel_rfl) (by decide) (fun _ _ _ h => h) (by rfl) ?_ (by assumption) ?_
    rotate_left
    · intro w'
      go_simp
      try with_reducible rfl
    try simp only [Act.put, List.setIfInBounds_toArray, List.set_cons_zero, List.set_cons_succ]
    refine pickA (v := ?_) 42 (some 75) rfl rfl (by kernel_rfl) (by kernel_rfl) (by kernel_rfl) (by decide) (fun _ _ _ h => h) (by rfl) ?_ (by assumption) ?_
    rotate_left
    · intro w'
      go_simp
      try with_reducible rfl
    try simp only [Act.put, List.setIfInBounds_toArray, List.set_cons_zero, List.set_cons_succ]
    refine pickA (v := ?_) 43 (some 76) rfl rfl (by kernel_rfl) (by kernel_rfl) (by kernel_rfl) (by decide) (fun _ _ _ h => h) (by rfl) ?_ (by assumption) ?_
    rotate_left
    · intro w'
      go_simp
      try with_reducible rfl
    try simp only [Act.put, List.setIfInBounds_toArray, List.set_cons_zero, List.set_cons_succ]
    refine oneL (i := 44) (by kernel_rfl) rfl (fun K hK => ?_)
    go_simp
    refine (AW.out _).mono ?_
    rintro e w17 ⟨rfl, hb⟩
    replace BW := hide (BW.out.trans (hb.mono BW.out.size))
    clear hb
    refine hK.out _ _ ?_ ?_
    · exact hS.out _ BW.out
    clear hK K
    try simp only [Act.put, List.setIfInBounds_toArray, List.set_cons_zero, List.set_cons_succ]
    clear hHeld
    have hHeld : (fun w' => IsB w' H #[.int .i64 kd, .int .u64 key, .int .u64 high, .slice ca cb.length cc] 27 ∧ IsB w' (H + 1) #[.int .i64 e2, .int .u64 k2, .slice va2 vb2.length vc2, .slice ia2 il2.length ic2, .int .i64 p0, .int .i64 p1, .int .u64 p2, .int .i64 p3, .int .u64 p4, .int .i64 r0, .int .i64 r1, .int .u64 r2, .int .i64 r3, .int .u64 r4, .bool f2] 46 ∧ IsB w' XB #[.int .i64 xe, .int .u64 xk, .slice xva xvb.length xvc, .slice xia xil.length xic, .int .i64 0, .int .i64 0, .int .u64 0, .int .i64 0, .int .u64 0, .int .i64 0, .int .i64 0, .int .u64 0, .int .i64 0, .int .u64 0, .bool xf] 46 ∧ IsB w' YB #[.int .i64 ye, .int .u64 yk, .slice yva yvb.length yvc, .slice yia yil.length yic, .int .i64 0, .int .i64 0, .int .u64 0, .int .i64 0, .int .u64 0, .int .i64 0, .int .i64 0, .int .u64 0, .int .i64 0, .int .u64 0, .bool yf] 46) w17 := hS.out _ BW.out
    refine pickA (v := ?_) 45 (some 78) rfl rfl (by kernel_rfl) (by kernel_rfl) (by kernel_rfl) (by decide) (fun _ _ _ h => h) (by rfl) ?_ (by assumption) ?_
    rotate_left
    · intro w'
      go_simp
      try with_reducible rfl
    try simp only [Act.put, List.setIfInBounds_toArray, List.set_cons_zero, List.set_cons_succ]
    refine pickA (v := ?_) 46 (some 6) rfl rfl (by kernel_rfl) (by kernel_rfl) (by kernel_rfl) (by decide) (fun _ _ _ h => h) (by rfl) ?_ (by assumption) ?_
    rotate_left
    · intro w'
      go_simp
      try with_reducible rfl
    try simp only [Act.put, List.setIfInBounds_toArray, List.set_cons_zero, List.set_cons_succ]
    refine doneL (by kernel_rfl) ?_ _
    clear hHeld
    go_wp2
    go_ret
    exact ⟨rfl, B3.out.trans (BW.out.mono B3.out.size)⟩

end Go.Proofs.Ytfnpapaibgbjpaa
