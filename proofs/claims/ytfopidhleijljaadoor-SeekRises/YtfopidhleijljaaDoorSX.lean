/- SeekRises walked: the good case. -/
import Derived.Test.YtfopidhleijljaaDoorSW
namespace Go.Proofs.YtfopidhleijljaaDoor
open Go.RowKit Go.Maps Go.ChangeMaps

set_option maxHeartbeats 4000000 in
set_option maxRecDepth 100000 in
theorem rises_good (h : Int) (s : Rf) (tr tn : Int) (va0 : Value) (l : List An) (hl : ∀ a ∈ l, AOk a) (hb0 : 0 ≤ s.bt) (hi0 : (Lit.int .i64 s.id).wf = true) (hm : mayC h s tr tn = true) (w : World) (hR : Ranks w) (hO : AnSl w va0 l) : Calls Tryd.prog 3 #[.agg (cfL h s tr tn).toArray, va0] w fun e w' => e = .returned (.bool true) ∧ Below w.heap.size w w' := by
  have mixed : Tryd.prog.follows .mixedOrders = true := by kernel_rfl
  have HRb := hide hR
  obtain ⟨va, vc, rfl, -, -⟩ := hO.shape
  have OP := hide hO
  clear hO
  have b1 := (Below.refl w.heap.size w).alloc (Nat.le_refl _) (.cells (cfL h s tr tn).toArray 31)
  have CB := hide (IsB.new w (cfL h s tr tn).toArray 31)
  have HR := hide (hR.below b1)
  have B := hide b1
  clear b1 hR
  generalize hn : l.length = n at *
  replace hn := hide hn
  go_enter Tryd.func3, Tryd.ntmps3
  go_wp2_with fail
  refine (awake_any _ HR.out).mono ?_
  rintro e w1 ⟨rfl, hb⟩
  replace CB := hide (CB.out.below hb)
  replace HR := hide (HR.out.below hb)
  replace B := hide (B.out.trans (hb.mono B.out.size))
  clear hb
  have L0 := hide (ld_conf CB.out)
  go_wp2_with (first | (focus ((with_reducible refine wpList_load_w ?_ 31 (.tmp 2) ?_ ?_ L0.out ?_); rotate_left; rfl; rfl; rotate_left; rfl)))
  refine (new_ok h s tr tn hb0 hm w1 HR.out).mono ?_
  rintro e w2 ⟨b, m, rfl, X0, hle, hlm, hb⟩
  have hBb : Hid (w.heap.size ≤ b) := Nat.le_trans B.out.size hle
  have hBm : Hid (w.heap.size ≤ m) := Nat.le_trans B.out.size hlm
  replace CB := hide (CB.out.below hb)
  replace B := hide (B.out.trans (hb.mono B.out.size))
  have X := hide X0
  clear hb X0 hle hlm HR L0
  have NX : Calls Tryd.prog 6 #[.pointer (some ⟨b, 0, none⟩)] w2 fun e w' => e = .returned (.agg (spL 1 s 1 s.ln s.bt 0 zr zr false).toArray) ∧ Below w2.heap.size w2 w' := next_any b m (newS h s tr tn) [] w2 X.out
  replace NX := hide NX
  go_wp2_with fail
  refine NX.out.mono ?_
  rintro e w3 ⟨rfl, hb⟩
  replace X := hide (X.out.below hb)
  replace CB := hide (CB.out.below hb)
  replace B := hide (B.out.trans (hb.mono B.out.size))
  clear hb NX
  have FT := fld_to 1 s 1 s.ln s.bt 0 zr zr false w3
  have b3 := (Below.refl w3.heap.size w3).alloc (Nat.le_refl _) (.cells s.cells 29)
  have SN := hide (store_new0 w3 s)
  have IL := hide (IsB.new w3 s.cells 29)
  have hLB0 := hide B.out.size
  replace X := hide (X.out.below b3)
  replace CB := hide (CB.out.below b3)
  replace B := hide (B.out.trans (b3.mono B.out.size))
  clear b3
  go_wp2_with (first | (focus ((with_reducible refine wpList_store_w ?_ 29 (.tmp 7) (.tmp 23) ?_ ?_ ?_ SN.out ?_); rotate_left; rfl; rfl; rfl; rotate_left; rfl)))
  go_wp2
  generalize (w3.alloc (.cells s.cells 29)) = W3 at *
  obtain ⟨LB, hLL⟩ : ∃ LB, w3.heap.size = LB := ⟨_, rfl⟩
  rw [hLL] at IL hLB0 ⊢
  have hLB := hLB0
  clear hLB0 hLL FT SN
  obtain ⟨H, hH⟩ : ∃ H, w.heap.size = H := ⟨_, rfl⟩
  rw [hH] at CB ⊢
  replace hH := hide hH
  go_loopw [8, 9, 10] (fun v8 v9 v10 wr => ∃ (j : Nat) (up : Bool) (S : Sk) (ws : List (Pl × Rf)), j ≤ n ∧ j ≤ 300 ∧ v8 = .int .i64 S.n ∧ v9 = .bool up ∧ v10 = .int .i64 (j : Int) ∧ Hid (S.ov = false) ∧ Hid (SOk S ws) ∧ Hid (Ris S up) ∧ Hid (S.tr = tr ∧ S.tn = tn) ∧ Hid (SkAt wr b m S ws) ∧ Hid (IsB wr LB S.to.cells 29) ∧ Hid (IsB wr H (cfL h s tr tn).toArray 31) ∧ Hid (Below w.heap.size w wr)) (fun _ _ v10 _ => n - (intOf v10).toNat)
  case atStart => exact ⟨0, false, newS h s tr tn, [], by omega, by omega, rfl, rfl, rfl, rfl, newS_ok hm hb0 hi0, ⟨(fun e => by cases e), (fun e => by cases e)⟩, ⟨rfl, rfl⟩, X, IL, CB, B⟩
  case round =>
    clear X IL CB B
    obtain ⟨j, up, S, ws, hj, hj3, rfl, rfl, rfl, hov, ok, ris, htr, X, IL, CB, B⟩ := hrel
    by_cases hlt0 : j < n ∧ j < 300
    rotate_left
    · by_cases h80 : j < n
      rotate_left
      · have d1 : decide ((j : Int) < n) = false := by simp; omega
        go_wp2
        go_ret
        exact ⟨rfl, B.out⟩
      · obtain rfl : j = 300 := by omega
        have i1 : ((300 : Nat) : Int) < n := by omega
        have i2 : decide (((300 : Nat) : Int) < n) = true := decide_eq_true i1
        go_wp2
        go_ret
        exact ⟨rfl, B.out⟩
    obtain ⟨i1, i2⟩ := hlt0
    have i3 : (j : Int) < n := by omega
    have i4 : decide ((j : Int) < 300) = true := decide_eq_true (by omega)
    have hjl : j < l.length := by rw [hn.out]; exact i1
    obtain ⟨g, o, c, ev, OA0⟩ := OP.out.at2 j hjl
    injection ev with ev el ec
    clear el
    subst ev ec
    have OA := hide OA0
    have hAj := hide (hl l[j] (List.getElem_mem hjl))
    clear OA0
    generalize l[j] = aj at *
    have LA := hide (OA.out _ B.out)
    go_wp2_with (first | (focus ((with_reducible refine wpList_load_w ?_ 54 (.tmp 37) ?_ ?_ LA.out ?_); rotate_left; rfl; rfl; rotate_left; rfl)))
    refine (tell_any b m S ws aj ok.out hAj.out wr (HRb.out.below B.out) X.out).mono ?_
    rintro e w1 ⟨rfl, X1, K1⟩
    have hLn : LB ∉ [b, m] := by
      simp only [List.mem_cons, List.not_mem_nil, or_false]
      rintro (rfl | rfl)
      · exact absurd (Option.some.inj (X.out.blk.symm.trans IL.out)) (by simp)
      · exact X.out.map.off IL.out rfl
    have hHn : H ∉ [b, m] := by
      simp only [List.mem_cons, List.not_mem_nil, or_false]
      rintro (rfl | rfl)
      · exact absurd (Option.some.inj (X.out.blk.symm.trans CB.out)) (by simp)
      · exact X.out.map.off CB.out rfl
    replace IL := hide (IL.out.kp K1 hLn)
    replace CB := hide (CB.out.kp K1 hHn)
    replace B := hide (B.out.trans (K1.to_below B.out.size (fun k hk => by simp only [List.mem_cons, List.not_mem_nil, or_false] at hk; rcases hk with rfl | rfl <;> first | exact hBb.out | exact hBm.out)))
    replace X := hide X1
    have ok1 := hide (ok.out.tell hAj.out)
    have ttr := hide (tell_tr (ws := ws) (a := aj) hov.out)
    have gs := fun h1 h2 => goes (ws := ws) (a := aj) hov.out ris.out h1 h2
    obtain ⟨S1, hS1⟩ : ∃ z, (S.tell ws aj).1 = z := ⟨_, rfl⟩
    obtain ⟨ws1, hw1⟩ : ∃ z, (S.tell ws aj).2 = z := ⟨_, rfl⟩
    rw [hS1] at X ok1 ttr gs
    rw [hw1] at X ok1
    replace gs := hide gs
    clear X1 K1 hLn hHn LA hS1 hw1 ok OA OP hAj hl
    have NX := next_any b m S1 ws1 w1 X.out
    unfold Sk.step at NX
    by_cases hv : S1.ov = true
    · rw [if_pos hv] at NX
      replace NX := hide NX
      go_wp2_with fail
      refine NX.out.mono ?_
      rintro e w2 ⟨rfl, hb⟩
      replace X := hide (X.out.below hb)
      replace IL := hide (IL.out.below hb)
      replace CB := hide (CB.out.below hb)
      replace B := hide (B.out.trans (hb.mono B.out.size))
      clear hb NX
      have b3 := (Below.refl w2.heap.size w2).alloc (Nat.le_refl _) (.cells (spL 3 zr 0 0 0 S1.e S1.rl S1.rr S1.fd).toArray 49)
      have SN := hide (store_step w2 (spL 3 zr 0 0 0 S1.e S1.rl S1.rr S1.fd).toArray rfl (by kernel_rfl))
      have IX := hide (IsB.new w2 (spL 3 zr 0 0 0 S1.e S1.rl S1.rr S1.fd).toArray 49)
      replace X := hide (X.out.below b3)
      replace IL := hide (IL.out.below b3)
      replace CB := hide (CB.out.below b3)
      replace B := hide (B.out.trans (b3.mono B.out.size))
      clear b3
      have x0 : (w2.alloc (.cells (spL 3 zr 0 0 0 S1.e S1.rl S1.rr S1.fd).toArray 49)).cell? ⟨w2.heap.size, 0, none⟩ = some (.int .i64 3) := IX.out.cell 0
      go_wp2_with (first | (focus ((with_reducible refine wpList_store_w ?_ 49 (.tmp 11) (.tmp 41) ?_ ?_ ?_ SN.out ?_); rotate_left; rfl; rfl; rfl; rotate_left; rfl)))
      go_ret
      exact ⟨rfl, B.out⟩
    rw [if_neg hv] at NX
    replace hv : Hid (S1.ov = false) := hide (by simpa using hv)
    replace NX := hide NX
    go_wp2_with fail
    refine NX.out.mono ?_
    rintro e w2 ⟨rfl, hb⟩
    replace X := hide (X.out.below hb)
    replace IL := hide (IL.out.below hb)
    replace CB := hide (CB.out.below hb)
    replace B := hide (B.out.trans (hb.mono B.out.size))
    clear hb NX
    have b3 := (Below.refl w2.heap.size w2).alloc (Nat.le_refl _) (.cells (spL 1 S1.to 1 S1.wl S1.wb 0 zr zr false).toArray 49)
    have SN := hide (store_step w2 (spL 1 S1.to 1 S1.wl S1.wb 0 zr zr false).toArray rfl (by kernel_rfl))
    have IX := hide (IsB.new w2 (spL 1 S1.to 1 S1.wl S1.wb 0 zr zr false).toArray 49)
    replace X := hide (X.out.below b3)
    replace IL := hide (IL.out.below b3)
    replace CB := hide (CB.out.below b3)
    replace B := hide (B.out.trans (b3.mono B.out.size))
    clear b3
    have x0 : (w2.alloc (.cells (spL 1 S1.to 1 S1.wl S1.wb 0 zr zr false).toArray 49)).cell? ⟨w2.heap.size, 0, none⟩ = some (.int .i64 1) := IX.out.cell 0
    go_wp2_with (first | (focus ((with_reducible refine wpList_store_w ?_ 49 (.tmp 11) (.tmp 41) ?_ ?_ ?_ SN.out ?_); rotate_left; rfl; rfl; rfl; rotate_left; rfl)))
    refine (tries_any b m S1 ws1 _ X.out).mono ?_
    rintro e w3' ⟨rfl, hw⟩
    rw [hw]
    clear hw w3' x0 SN
    generalize hW : (w2.alloc (.cells (spL 1 S1.to 1 S1.wl S1.wb 0 zr zr false).toArray 49)) = W2 at *
    clear hW
    obtain ⟨XB, hXB⟩ : ∃ XB, w2.heap.size = XB := ⟨_, rfl⟩
    rw [hXB] at IX ⊢
    clear hXB
    by_cases hnn : S1.n = S.n
    rotate_left
    · have hne : (S1.n != S.n) = true := by simpa using hnn
      have hne2 : (S1.n == S.n) = false := by simpa using hnn
      have hlk1 := hide (ttr.out.2.2 hv.out hnn)
      obtain ⟨n1, hn1⟩ : ∃ z, S1.n = z := ⟨_, rfl⟩
      go_wp2_with fail
      have XD := hide (X.out.below ((Below.refl _ _).drew))
      have IXd := hide (IX.out.below ((Below.refl _ _).drew))
      have ILd := hide (IL.out.below ((Below.refl _ _).drew))
      have CBd := hide (CB.out.below ((Below.refl _ _).drew))
      have BD := hide B.out.drew
      clear X IX IL CB B
      refine regionL 7 (fun w' => IsB w' XB (spL 1 S1.to 1 S1.wl S1.wb 0 zr zr false).toArray 49 ∧ SkAt w' b m S1 ws1) mixed ⟨IXd.out, XD.out⟩ (fun hHeld => ?_)
      generalize W2.drew = WD at *
      obtain ⟨w5, hs5, I5, k5⟩ := store_ref ILd.out (cs := S1.to.cells) rfl rfl (by kernel_rfl)
      have HS5 := hide hs5
      have X5 := hide (XD.out.kpo ILd.out k5)
      have IX5 := hide (IXd.out.kp k5 (by simp only [List.mem_singleton]; rintro rfl; exact absurd (Option.some.inj (IXd.out.symm.trans ILd.out)) (by simp)))
      have CB5 := hide (CBd.out.kp k5 (by simp only [List.mem_singleton]; rintro rfl; exact absurd (Option.some.inj (CBd.out.symm.trans ILd.out)) (by simp)))
      have B5 := hide (BD.out.trans (k5.to_below BD.out.size (by simpa using hLB.out)))
      have IL5 := hide I5
      clear hs5 I5 k5
      refine pickA (v := ?_) 0 (some 52) rfl rfl (by kernel_rfl) (by kernel_rfl) (by kernel_rfl) (by decide) (fun _ _ _ h => h) (by rfl) ?_ (by assumption) ?_
      rotate_left
      · intro w'
        go_simp
        try with_reducible rfl
      try simp only [Act.put, List.setIfInBounds_toArray, List.set_cons_zero, List.set_cons_succ]
      refine pickL (v := .agg S1.to.cells) 1 (some 53) rfl rfl (by kernel_rfl) (by kernel_rfl) (by kernel_rfl) (by decide) (by kernel_rfl) (by kernel_rfl) (fun _ _ _ h => h) (by rfl) ?_ (by assumption) ?_
      · intro w' hSw
        obtain ⟨q0, q1⟩ := hSw
        exact exec_load rfl rfl (ld_sref q0 1 S1.to rfl)
      try simp only [Act.put, List.setIfInBounds_toArray, List.set_cons_zero, List.set_cons_succ]
      refine pickA (v := ?_) 2 (some 54) rfl rfl (by kernel_rfl) (by kernel_rfl) (by kernel_rfl) (by decide) (fun _ _ _ h => h) (by rfl) ?_ (by assumption) ?_
      rotate_left
      · intro w'
        go_simp
        try with_reducible rfl
      try simp only [Act.put, List.setIfInBounds_toArray, List.set_cons_zero, List.set_cons_succ]
      refine oneL (i := 3) (by kernel_rfl) rfl (fun K hK => ?_)
      go_simp
      refine (tries_any b m S1 ws1 WD XD.out).mono ?_
      rintro e w5' ⟨rfl, hw⟩
      rw [hw]
      clear hw w5'
      refine hK.out _ _ ?_ ?_
      · exact ⟨IXd.out, XD.out⟩
      clear hK K
      try simp only [Act.put, List.setIfInBounds_toArray, List.set_cons_zero, List.set_cons_succ]
      refine oneL (i := 4) (by kernel_rfl) rfl (fun K hK => ?_)
      refine step_store_w rfl 29 (.tmp 7) (.tmp 53) rfl rfl rfl HS5.out ?_
      refine hK.out _ _ ?_ ?_
      · exact ⟨IX5.out, X5.out⟩
      clear hK K
      try simp only [Act.put, List.setIfInBounds_toArray]
      clear hHeld
      have hHeld : (fun w' => IsB w' XB (spL 1 S1.to 1 S1.wl S1.wb 0 zr zr false).toArray 49 ∧ SkAt w' b m S1 ws1) w5 := ⟨IX5.out, X5.out⟩
      refine pickA (v := ?_) 5 (some 8) rfl rfl (by kernel_rfl) (by kernel_rfl) (by kernel_rfl) (by decide) (fun _ _ _ h => h) (by rfl) ?_ (by assumption) ?_
      rotate_left
      · intro w'
        go_simp
        try with_reducible rfl
      try simp only [Act.put]
      refine pickA (v := ?_) 6 (some 9) rfl rfl (by kernel_rfl) (by kernel_rfl) (by kernel_rfl) (by decide) (fun _ _ _ h => h) (by rfl) ?_ (by assumption) ?_
      rotate_left
      · intro w'
        go_simp
        try with_reducible rfl
      try simp only [Act.put]
      refine doneL (by kernel_rfl) ?_ _
      clear hHeld
      go_wp2
      exact ⟨⟨j + 1, false, S1, ws1, by omega, by omega, by rw [hn1], rfl, by simp, hv, ok1, ⟨(fun e => by cases e), (fun e => by rw [hlk1.out] at e; cases e)⟩, ⟨ttr.out.1.trans htr.out.1, ttr.out.2.1.trans htr.out.2⟩, X5, IL5, CB5, B5⟩, by simp [intOf]; omega⟩
    have hne : (S1.n != S.n) = false := by simpa using hnn
    have hne2 : (S1.n == S.n) = true := by simpa using hnn
    obtain ⟨-, -, gA, gB, gR⟩ := gs.out hv.out hnn
    replace hnn := hide hnn
    obtain ⟨c1, hc10⟩ : ∃ z, klt (S1.to.rk, S1.to.kn) (S.to.rk, S.to.kn) = z := ⟨_, rfl⟩
    obtain ⟨c2, hc20⟩ : ∃ z, klt (S1.to.rk, S1.to.kn) (tr, tn) = z := ⟨_, rfl⟩
    obtain ⟨c3, hc30⟩ : ∃ z, klt (S.to.rk, S.to.kn) (S1.to.rk, S1.to.kn) = z := ⟨_, rfl⟩
    unfold rlt at gA gB gR
    rw [hc10] at gA
    rw [htr.out.1, htr.out.2, hc20, hc30] at gB
    rw [hc30] at gR
    have hc1 := hide hc10
    have hc2 := hide hc20
    have hc3 := hide hc30
    have rs1 := hide gR
    clear hc10 hc20 hc30 gR gs
    replace gA := hide gA
    replace gB := hide gB
    cases up with
    | true =>
      cases c1 with
      | true =>
        exact absurd ⟨rfl, rfl⟩ gA.out
      | false =>
        cases c2 with
        | true =>
          have LK1 := hide (ld_stk IX.out)
          have LK2 := hide (ld_key IL.out)
          have LKT := hide (ld_ct CB.out)
          go_wp2_with (first | (focus ((with_reducible refine wpList_load_w ?_ 25 (.tmp 57) ?_ ?_ LK1.out ?_); rotate_left; rfl; rfl; rotate_left; rfl)) | (focus ((with_reducible refine wpList_load_w ?_ 25 (.tmp 59) ?_ ?_ LK2.out ?_); rotate_left; rfl; rfl; rotate_left; rfl)) | (focus ((with_reducible refine wpList_load_w ?_ 25 (.tmp 67) ?_ ?_ LK1.out ?_); rotate_left; rfl; rfl; rotate_left; rfl)) | (focus ((with_reducible refine wpList_load_w ?_ 25 (.tmp 69) ?_ ?_ LKT.out ?_); rotate_left; rfl; rfl; rotate_left; rfl)) | (focus ((with_reducible refine wpList_load_w ?_ 25 (.tmp 74) ?_ ?_ LK2.out ?_); rotate_left; rfl; rfl; rotate_left; rfl)) | (focus ((with_reducible refine wpList_load_w ?_ 25 (.tmp 77) ?_ ?_ LK1.out ?_); rotate_left; rfl; rfl; rotate_left; rfl)) | (focus ((with_reducible refine wpList_load_w ?_ 25 (.tmp 84) ?_ ?_ LK2.out ?_); rotate_left; rfl; rfl; rotate_left; rfl)) | (focus ((with_reducible refine wpList_load_w ?_ 25 (.tmp 87) ?_ ?_ LK1.out ?_); rotate_left; rfl; rfl; rotate_left; rfl)))
          refine (rLess_any S1.to.rk S1.to.kn S.to.rk S.to.kn _).mono ?_
          rintro e w31 ⟨rfl, hg⟩
          rw [hc1.out]
          replace X := hide (X.out.below hg.below)
          replace IL := hide (IL.out.below hg.below)
          replace CB := hide (CB.out.below hg.below)
          replace B := hide (B.out.trans (hg.below.mono B.out.size))
          replace IX := hide (IX.out.below hg.below)
          clear hg LK1 LK2 LKT
          have LK1 := hide (ld_stk IX.out)
          have LK2 := hide (ld_key IL.out)
          have LKT := hide (ld_ct CB.out)
          go_wp2_with (first | (focus ((with_reducible refine wpList_load_w ?_ 25 (.tmp 57) ?_ ?_ LK1.out ?_); rotate_left; rfl; rfl; rotate_left; rfl)) | (focus ((with_reducible refine wpList_load_w ?_ 25 (.tmp 59) ?_ ?_ LK2.out ?_); rotate_left; rfl; rfl; rotate_left; rfl)) | (focus ((with_reducible refine wpList_load_w ?_ 25 (.tmp 67) ?_ ?_ LK1.out ?_); rotate_left; rfl; rfl; rotate_left; rfl)) | (focus ((with_reducible refine wpList_load_w ?_ 25 (.tmp 69) ?_ ?_ LKT.out ?_); rotate_left; rfl; rfl; rotate_left; rfl)) | (focus ((with_reducible refine wpList_load_w ?_ 25 (.tmp 74) ?_ ?_ LK2.out ?_); rotate_left; rfl; rfl; rotate_left; rfl)) | (focus ((with_reducible refine wpList_load_w ?_ 25 (.tmp 77) ?_ ?_ LK1.out ?_); rotate_left; rfl; rfl; rotate_left; rfl)) | (focus ((with_reducible refine wpList_load_w ?_ 25 (.tmp 84) ?_ ?_ LK2.out ?_); rotate_left; rfl; rfl; rotate_left; rfl)) | (focus ((with_reducible refine wpList_load_w ?_ 25 (.tmp 87) ?_ ?_ LK1.out ?_); rotate_left; rfl; rfl; rotate_left; rfl)))
          refine (rLess_any S1.to.rk S1.to.kn tr tn _).mono ?_
          rintro e w32 ⟨rfl, hg⟩
          rw [hc2.out]
          replace X := hide (X.out.below hg.below)
          replace IL := hide (IL.out.below hg.below)
          replace CB := hide (CB.out.below hg.below)
          replace B := hide (B.out.trans (hg.below.mono B.out.size))
          replace IX := hide (IX.out.below hg.below)
          clear hg LK1 LK2 LKT
          have LK1 := hide (ld_stk IX.out)
          have LK2 := hide (ld_key IL.out)
          have LKT := hide (ld_ct CB.out)
          have XD := X
          have IXd := IX
          have ILd := IL
          have CBd := CB
          have BD := B
          obtain ⟨w5, hs5, I5, k5⟩ := store_ref ILd.out (cs := S1.to.cells) rfl rfl (by kernel_rfl)
          have HS5 := hide hs5
          have X5 := hide (XD.out.kpo ILd.out k5)
          have IX5 := hide (IXd.out.kp k5 (by simp only [List.mem_singleton]; rintro rfl; exact absurd (Option.some.inj (IXd.out.symm.trans ILd.out)) (by simp)))
          have CB5 := hide (CBd.out.kp k5 (by simp only [List.mem_singleton]; rintro rfl; exact absurd (Option.some.inj (CBd.out.symm.trans ILd.out)) (by simp)))
          have B5 := hide (BD.out.trans (k5.to_below BD.out.size (by simpa using hLB.out)))
          have IL5 := hide I5
          clear hs5 I5 k5
          have LR := hide (ld_sref IX.out 1 S1.to rfl)
          go_wp2_with (first | (focus ((with_reducible refine wpList_load_w ?_ 25 (.tmp 57) ?_ ?_ LK1.out ?_); rotate_left; rfl; rfl; rotate_left; rfl)) | (focus ((with_reducible refine wpList_load_w ?_ 25 (.tmp 59) ?_ ?_ LK2.out ?_); rotate_left; rfl; rfl; rotate_left; rfl)) | (focus ((with_reducible refine wpList_load_w ?_ 25 (.tmp 67) ?_ ?_ LK1.out ?_); rotate_left; rfl; rfl; rotate_left; rfl)) | (focus ((with_reducible refine wpList_load_w ?_ 25 (.tmp 69) ?_ ?_ LKT.out ?_); rotate_left; rfl; rfl; rotate_left; rfl)) | (focus ((with_reducible refine wpList_load_w ?_ 25 (.tmp 74) ?_ ?_ LK2.out ?_); rotate_left; rfl; rfl; rotate_left; rfl)) | (focus ((with_reducible refine wpList_load_w ?_ 25 (.tmp 77) ?_ ?_ LK1.out ?_); rotate_left; rfl; rfl; rotate_left; rfl)) | (focus ((with_reducible refine wpList_load_w ?_ 25 (.tmp 84) ?_ ?_ LK2.out ?_); rotate_left; rfl; rfl; rotate_left; rfl)) | (focus ((with_reducible refine wpList_load_w ?_ 25 (.tmp 87) ?_ ?_ LK1.out ?_); rotate_left; rfl; rfl; rotate_left; rfl)) | (focus ((with_reducible refine wpList_load_w ?_ 29 (.tmp 91) ?_ ?_ LR.out ?_); rotate_left; rfl; rfl; rotate_left; rfl)) | (focus ((with_reducible refine wpList_store_w ?_ 29 (.tmp 7) (.tmp 92) ?_ ?_ ?_ HS5.out ?_); rotate_left; rfl; rfl; rfl; rotate_left; rfl)))
          try go_wp2
          exact ⟨⟨j + 1, true, S1, ws1, by omega, by omega, by rw [hnn.out], rfl, by simp, hv, ok1, hide (by have := rs1.out; simpa using this), ⟨ttr.out.1.trans htr.out.1, ttr.out.2.1.trans htr.out.2⟩, X5, IL5, CB5, B5⟩, by simp [intOf]; omega⟩
        | false =>
          have hf : c3 = false := by cases c3 with | false => rfl | true => exact absurd ⟨rfl, rfl⟩ gB.out
          subst hf
          have hc3f := hc3
          have LK1 := hide (ld_stk IX.out)
          have LK2 := hide (ld_key IL.out)
          have LKT := hide (ld_ct CB.out)
          go_wp2_with (first | (focus ((with_reducible refine wpList_load_w ?_ 25 (.tmp 57) ?_ ?_ LK1.out ?_); rotate_left; rfl; rfl; rotate_left; rfl)) | (focus ((with_reducible refine wpList_load_w ?_ 25 (.tmp 59) ?_ ?_ LK2.out ?_); rotate_left; rfl; rfl; rotate_left; rfl)) | (focus ((with_reducible refine wpList_load_w ?_ 25 (.tmp 67) ?_ ?_ LK1.out ?_); rotate_left; rfl; rfl; rotate_left; rfl)) | (focus ((with_reducible refine wpList_load_w ?_ 25 (.tmp 69) ?_ ?_ LKT.out ?_); rotate_left; rfl; rfl; rotate_left; rfl)) | (focus ((with_reducible refine wpList_load_w ?_ 25 (.tmp 74) ?_ ?_ LK2.out ?_); rotate_left; rfl; rfl; rotate_left; rfl)) | (focus ((with_reducible refine wpList_load_w ?_ 25 (.tmp 77) ?_ ?_ LK1.out ?_); rotate_left; rfl; rfl; rotate_left; rfl)) | (focus ((with_reducible refine wpList_load_w ?_ 25 (.tmp 84) ?_ ?_ LK2.out ?_); rotate_left; rfl; rfl; rotate_left; rfl)) | (focus ((with_reducible refine wpList_load_w ?_ 25 (.tmp 87) ?_ ?_ LK1.out ?_); rotate_left; rfl; rfl; rotate_left; rfl)))
          refine (rLess_any S1.to.rk S1.to.kn S.to.rk S.to.kn _).mono ?_
          rintro e w31 ⟨rfl, hg⟩
          rw [hc1.out]
          replace X := hide (X.out.below hg.below)
          replace IL := hide (IL.out.below hg.below)
          replace CB := hide (CB.out.below hg.below)
          replace B := hide (B.out.trans (hg.below.mono B.out.size))
          replace IX := hide (IX.out.below hg.below)
          clear hg LK1 LK2 LKT
          have LK1 := hide (ld_stk IX.out)
          have LK2 := hide (ld_key IL.out)
          have LKT := hide (ld_ct CB.out)
          go_wp2_with (first | (focus ((with_reducible refine wpList_load_w ?_ 25 (.tmp 57) ?_ ?_ LK1.out ?_); rotate_left; rfl; rfl; rotate_left; rfl)) | (focus ((with_reducible refine wpList_load_w ?_ 25 (.tmp 59) ?_ ?_ LK2.out ?_); rotate_left; rfl; rfl; rotate_left; rfl)) | (focus ((with_reducible refine wpList_load_w ?_ 25 (.tmp 67) ?_ ?_ LK1.out ?_); rotate_left; rfl; rfl; rotate_left; rfl)) | (focus ((with_reducible refine wpList_load_w ?_ 25 (.tmp 69) ?_ ?_ LKT.out ?_); rotate_left; rfl; rfl; rotate_left; rfl)) | (focus ((with_reducible refine wpList_load_w ?_ 25 (.tmp 74) ?_ ?_ LK2.out ?_); rotate_left; rfl; rfl; rotate_left; rfl)) | (focus ((with_reducible refine wpList_load_w ?_ 25 (.tmp 77) ?_ ?_ LK1.out ?_); rotate_left; rfl; rfl; rotate_left; rfl)) | (focus ((with_reducible refine wpList_load_w ?_ 25 (.tmp 84) ?_ ?_ LK2.out ?_); rotate_left; rfl; rfl; rotate_left; rfl)) | (focus ((with_reducible refine wpList_load_w ?_ 25 (.tmp 87) ?_ ?_ LK1.out ?_); rotate_left; rfl; rfl; rotate_left; rfl)))
          refine (rLess_any S1.to.rk S1.to.kn tr tn _).mono ?_
          rintro e w32 ⟨rfl, hg⟩
          rw [hc2.out]
          replace X := hide (X.out.below hg.below)
          replace IL := hide (IL.out.below hg.below)
          replace CB := hide (CB.out.below hg.below)
          replace B := hide (B.out.trans (hg.below.mono B.out.size))
          replace IX := hide (IX.out.below hg.below)
          clear hg LK1 LK2 LKT
          have LK1 := hide (ld_stk IX.out)
          have LK2 := hide (ld_key IL.out)
          have LKT := hide (ld_ct CB.out)
          go_wp2_with (first | (focus ((with_reducible refine wpList_load_w ?_ 25 (.tmp 57) ?_ ?_ LK1.out ?_); rotate_left; rfl; rfl; rotate_left; rfl)) | (focus ((with_reducible refine wpList_load_w ?_ 25 (.tmp 59) ?_ ?_ LK2.out ?_); rotate_left; rfl; rfl; rotate_left; rfl)) | (focus ((with_reducible refine wpList_load_w ?_ 25 (.tmp 67) ?_ ?_ LK1.out ?_); rotate_left; rfl; rfl; rotate_left; rfl)) | (focus ((with_reducible refine wpList_load_w ?_ 25 (.tmp 69) ?_ ?_ LKT.out ?_); rotate_left; rfl; rfl; rotate_left; rfl)) | (focus ((with_reducible refine wpList_load_w ?_ 25 (.tmp 74) ?_ ?_ LK2.out ?_); rotate_left; rfl; rfl; rotate_left; rfl)) | (focus ((with_reducible refine wpList_load_w ?_ 25 (.tmp 77) ?_ ?_ LK1.out ?_); rotate_left; rfl; rfl; rotate_left; rfl)) | (focus ((with_reducible refine wpList_load_w ?_ 25 (.tmp 84) ?_ ?_ LK2.out ?_); rotate_left; rfl; rfl; rotate_left; rfl)) | (focus ((with_reducible refine wpList_load_w ?_ 25 (.tmp 87) ?_ ?_ LK1.out ?_); rotate_left; rfl; rfl; rotate_left; rfl)))
          refine (rLess_any S.to.rk S.to.kn S1.to.rk S1.to.kn _).mono ?_
          rintro e w33 ⟨rfl, hg⟩
          rw [hc3f.out]
          replace X := hide (X.out.below hg.below)
          replace IL := hide (IL.out.below hg.below)
          replace CB := hide (CB.out.below hg.below)
          replace B := hide (B.out.trans (hg.below.mono B.out.size))
          replace IX := hide (IX.out.below hg.below)
          clear hg LK1 LK2 LKT
          have LK1 := hide (ld_stk IX.out)
          have LK2 := hide (ld_key IL.out)
          have LKT := hide (ld_ct CB.out)
          have XD := X
          have IXd := IX
          have ILd := IL
          have CBd := CB
          have BD := B
          obtain ⟨w5, hs5, I5, k5⟩ := store_ref ILd.out (cs := S1.to.cells) rfl rfl (by kernel_rfl)
          have HS5 := hide hs5
          have X5 := hide (XD.out.kpo ILd.out k5)
          have IX5 := hide (IXd.out.kp k5 (by simp only [List.mem_singleton]; rintro rfl; exact absurd (Option.some.inj (IXd.out.symm.trans ILd.out)) (by simp)))
          have CB5 := hide (CBd.out.kp k5 (by simp only [List.mem_singleton]; rintro rfl; exact absurd (Option.some.inj (CBd.out.symm.trans ILd.out)) (by simp)))
          have B5 := hide (BD.out.trans (k5.to_below BD.out.size (by simpa using hLB.out)))
          have IL5 := hide I5
          clear hs5 I5 k5
          have LR := hide (ld_sref IX.out 1 S1.to rfl)
          go_wp2_with (first | (focus ((with_reducible refine wpList_load_w ?_ 25 (.tmp 57) ?_ ?_ LK1.out ?_); rotate_left; rfl; rfl; rotate_left; rfl)) | (focus ((with_reducible refine wpList_load_w ?_ 25 (.tmp 59) ?_ ?_ LK2.out ?_); rotate_left; rfl; rfl; rotate_left; rfl)) | (focus ((with_reducible refine wpList_load_w ?_ 25 (.tmp 67) ?_ ?_ LK1.out ?_); rotate_left; rfl; rfl; rotate_left; rfl)) | (focus ((with_reducible refine wpList_load_w ?_ 25 (.tmp 69) ?_ ?_ LKT.out ?_); rotate_left; rfl; rfl; rotate_left; rfl)) | (focus ((with_reducible refine wpList_load_w ?_ 25 (.tmp 74) ?_ ?_ LK2.out ?_); rotate_left; rfl; rfl; rotate_left; rfl)) | (focus ((with_reducible refine wpList_load_w ?_ 25 (.tmp 77) ?_ ?_ LK1.out ?_); rotate_left; rfl; rfl; rotate_left; rfl)) | (focus ((with_reducible refine wpList_load_w ?_ 25 (.tmp 84) ?_ ?_ LK2.out ?_); rotate_left; rfl; rfl; rotate_left; rfl)) | (focus ((with_reducible refine wpList_load_w ?_ 25 (.tmp 87) ?_ ?_ LK1.out ?_); rotate_left; rfl; rfl; rotate_left; rfl)) | (focus ((with_reducible refine wpList_load_w ?_ 29 (.tmp 91) ?_ ?_ LR.out ?_); rotate_left; rfl; rfl; rotate_left; rfl)) | (focus ((with_reducible refine wpList_store_w ?_ 29 (.tmp 7) (.tmp 92) ?_ ?_ ?_ HS5.out ?_); rotate_left; rfl; rfl; rfl; rotate_left; rfl)))
          try go_wp2
          exact ⟨⟨j + 1, true, S1, ws1, by omega, by omega, by rw [hnn.out], rfl, by simp, hv, ok1, hide (by have := rs1.out; simpa using this), ⟨ttr.out.1.trans htr.out.1, ttr.out.2.1.trans htr.out.2⟩, X5, IL5, CB5, B5⟩, by simp [intOf]; omega⟩
    | false =>
      cases c1 with
      | true =>
        cases c2 with
        | true =>
          have LK1 := hide (ld_stk IX.out)
          have LK2 := hide (ld_key IL.out)
          have LKT := hide (ld_ct CB.out)
          go_wp2_with (first | (focus ((with_reducible refine wpList_load_w ?_ 25 (.tmp 57) ?_ ?_ LK1.out ?_); rotate_left; rfl; rfl; rotate_left; rfl)) | (focus ((with_reducible refine wpList_load_w ?_ 25 (.tmp 59) ?_ ?_ LK2.out ?_); rotate_left; rfl; rfl; rotate_left; rfl)) | (focus ((with_reducible refine wpList_load_w ?_ 25 (.tmp 67) ?_ ?_ LK1.out ?_); rotate_left; rfl; rfl; rotate_left; rfl)) | (focus ((with_reducible refine wpList_load_w ?_ 25 (.tmp 69) ?_ ?_ LKT.out ?_); rotate_left; rfl; rfl; rotate_left; rfl)) | (focus ((with_reducible refine wpList_load_w ?_ 25 (.tmp 74) ?_ ?_ LK2.out ?_); rotate_left; rfl; rfl; rotate_left; rfl)) | (focus ((with_reducible refine wpList_load_w ?_ 25 (.tmp 77) ?_ ?_ LK1.out ?_); rotate_left; rfl; rfl; rotate_left; rfl)) | (focus ((with_reducible refine wpList_load_w ?_ 25 (.tmp 84) ?_ ?_ LK2.out ?_); rotate_left; rfl; rfl; rotate_left; rfl)) | (focus ((with_reducible refine wpList_load_w ?_ 25 (.tmp 87) ?_ ?_ LK1.out ?_); rotate_left; rfl; rfl; rotate_left; rfl)))
          refine (rLess_any S1.to.rk S1.to.kn S.to.rk S.to.kn _).mono ?_
          rintro e w31 ⟨rfl, hg⟩
          rw [hc1.out]
          replace X := hide (X.out.below hg.below)
          replace IL := hide (IL.out.below hg.below)
          replace CB := hide (CB.out.below hg.below)
          replace B := hide (B.out.trans (hg.below.mono B.out.size))
          replace IX := hide (IX.out.below hg.below)
          clear hg LK1 LK2 LKT
          have LK1 := hide (ld_stk IX.out)
          have LK2 := hide (ld_key IL.out)
          have LKT := hide (ld_ct CB.out)
          go_wp2_with (first | (focus ((with_reducible refine wpList_load_w ?_ 25 (.tmp 57) ?_ ?_ LK1.out ?_); rotate_left; rfl; rfl; rotate_left; rfl)) | (focus ((with_reducible refine wpList_load_w ?_ 25 (.tmp 59) ?_ ?_ LK2.out ?_); rotate_left; rfl; rfl; rotate_left; rfl)) | (focus ((with_reducible refine wpList_load_w ?_ 25 (.tmp 67) ?_ ?_ LK1.out ?_); rotate_left; rfl; rfl; rotate_left; rfl)) | (focus ((with_reducible refine wpList_load_w ?_ 25 (.tmp 69) ?_ ?_ LKT.out ?_); rotate_left; rfl; rfl; rotate_left; rfl)) | (focus ((with_reducible refine wpList_load_w ?_ 25 (.tmp 74) ?_ ?_ LK2.out ?_); rotate_left; rfl; rfl; rotate_left; rfl)) | (focus ((with_reducible refine wpList_load_w ?_ 25 (.tmp 77) ?_ ?_ LK1.out ?_); rotate_left; rfl; rfl; rotate_left; rfl)) | (focus ((with_reducible refine wpList_load_w ?_ 25 (.tmp 84) ?_ ?_ LK2.out ?_); rotate_left; rfl; rfl; rotate_left; rfl)) | (focus ((with_reducible refine wpList_load_w ?_ 25 (.tmp 87) ?_ ?_ LK1.out ?_); rotate_left; rfl; rfl; rotate_left; rfl)))
          refine (rLess_any S1.to.rk S1.to.kn tr tn _).mono ?_
          rintro e w32 ⟨rfl, hg⟩
          rw [hc2.out]
          replace X := hide (X.out.below hg.below)
          replace IL := hide (IL.out.below hg.below)
          replace CB := hide (CB.out.below hg.below)
          replace B := hide (B.out.trans (hg.below.mono B.out.size))
          replace IX := hide (IX.out.below hg.below)
          clear hg LK1 LK2 LKT
          have LK1 := hide (ld_stk IX.out)
          have LK2 := hide (ld_key IL.out)
          have LKT := hide (ld_ct CB.out)
          go_wp2_with (first | (focus ((with_reducible refine wpList_load_w ?_ 25 (.tmp 57) ?_ ?_ LK1.out ?_); rotate_left; rfl; rfl; rotate_left; rfl)) | (focus ((with_reducible refine wpList_load_w ?_ 25 (.tmp 59) ?_ ?_ LK2.out ?_); rotate_left; rfl; rfl; rotate_left; rfl)) | (focus ((with_reducible refine wpList_load_w ?_ 25 (.tmp 67) ?_ ?_ LK1.out ?_); rotate_left; rfl; rfl; rotate_left; rfl)) | (focus ((with_reducible refine wpList_load_w ?_ 25 (.tmp 69) ?_ ?_ LKT.out ?_); rotate_left; rfl; rfl; rotate_left; rfl)) | (focus ((with_reducible refine wpList_load_w ?_ 25 (.tmp 74) ?_ ?_ LK2.out ?_); rotate_left; rfl; rfl; rotate_left; rfl)) | (focus ((with_reducible refine wpList_load_w ?_ 25 (.tmp 77) ?_ ?_ LK1.out ?_); rotate_left; rfl; rfl; rotate_left; rfl)) | (focus ((with_reducible refine wpList_load_w ?_ 25 (.tmp 84) ?_ ?_ LK2.out ?_); rotate_left; rfl; rfl; rotate_left; rfl)) | (focus ((with_reducible refine wpList_load_w ?_ 25 (.tmp 87) ?_ ?_ LK1.out ?_); rotate_left; rfl; rfl; rotate_left; rfl)))
          refine (rLess_any S.to.rk S.to.kn S1.to.rk S1.to.kn _).mono ?_
          rintro e w34 ⟨rfl, hg⟩
          rw [hc3.out]
          replace X := hide (X.out.below hg.below)
          replace IL := hide (IL.out.below hg.below)
          replace CB := hide (CB.out.below hg.below)
          replace B := hide (B.out.trans (hg.below.mono B.out.size))
          replace IX := hide (IX.out.below hg.below)
          clear hg LK1 LK2 LKT
          have LK1 := hide (ld_stk IX.out)
          have LK2 := hide (ld_key IL.out)
          have LKT := hide (ld_ct CB.out)
          have XD := X
          have IXd := IX
          have ILd := IL
          have CBd := CB
          have BD := B
          obtain ⟨w5, hs5, I5, k5⟩ := store_ref ILd.out (cs := S1.to.cells) rfl rfl (by kernel_rfl)
          have HS5 := hide hs5
          have X5 := hide (XD.out.kpo ILd.out k5)
          have IX5 := hide (IXd.out.kp k5 (by simp only [List.mem_singleton]; rintro rfl; exact absurd (Option.some.inj (IXd.out.symm.trans ILd.out)) (by simp)))
          have CB5 := hide (CBd.out.kp k5 (by simp only [List.mem_singleton]; rintro rfl; exact absurd (Option.some.inj (CBd.out.symm.trans ILd.out)) (by simp)))
          have B5 := hide (BD.out.trans (k5.to_below BD.out.size (by simpa using hLB.out)))
          have IL5 := hide I5
          clear hs5 I5 k5
          have LR := hide (ld_sref IX.out 1 S1.to rfl)
          go_wp2_with (first | (focus ((with_reducible refine wpList_load_w ?_ 25 (.tmp 57) ?_ ?_ LK1.out ?_); rotate_left; rfl; rfl; rotate_left; rfl)) | (focus ((with_reducible refine wpList_load_w ?_ 25 (.tmp 59) ?_ ?_ LK2.out ?_); rotate_left; rfl; rfl; rotate_left; rfl)) | (focus ((with_reducible refine wpList_load_w ?_ 25 (.tmp 67) ?_ ?_ LK1.out ?_); rotate_left; rfl; rfl; rotate_left; rfl)) | (focus ((with_reducible refine wpList_load_w ?_ 25 (.tmp 69) ?_ ?_ LKT.out ?_); rotate_left; rfl; rfl; rotate_left; rfl)) | (focus ((with_reducible refine wpList_load_w ?_ 25 (.tmp 74) ?_ ?_ LK2.out ?_); rotate_left; rfl; rfl; rotate_left; rfl)) | (focus ((with_reducible refine wpList_load_w ?_ 25 (.tmp 77) ?_ ?_ LK1.out ?_); rotate_left; rfl; rfl; rotate_left; rfl)) | (focus ((with_reducible refine wpList_load_w ?_ 25 (.tmp 84) ?_ ?_ LK2.out ?_); rotate_left; rfl; rfl; rotate_left; rfl)) | (focus ((with_reducible refine wpList_load_w ?_ 25 (.tmp 87) ?_ ?_ LK1.out ?_); rotate_left; rfl; rfl; rotate_left; rfl)) | (focus ((with_reducible refine wpList_load_w ?_ 29 (.tmp 91) ?_ ?_ LR.out ?_); rotate_left; rfl; rfl; rotate_left; rfl)) | (focus ((with_reducible refine wpList_store_w ?_ 29 (.tmp 7) (.tmp 92) ?_ ?_ ?_ HS5.out ?_); rotate_left; rfl; rfl; rfl; rotate_left; rfl)))
          try go_wp2
          exact ⟨⟨j + 1, c3, S1, ws1, by omega, by omega, by rw [hnn.out], rfl, by simp, hv, ok1, hide (by have := rs1.out; simpa using this), ⟨ttr.out.1.trans htr.out.1, ttr.out.2.1.trans htr.out.2⟩, X5, IL5, CB5, B5⟩, by simp [intOf]; omega⟩
        | false =>
          have hf : c3 = false := by cases c3 with | false => rfl | true => exact absurd ⟨rfl, rfl⟩ gB.out
          subst hf
          have hc3f := hc3
          have LK1 := hide (ld_stk IX.out)
          have LK2 := hide (ld_key IL.out)
          have LKT := hide (ld_ct CB.out)
          go_wp2_with (first | (focus ((with_reducible refine wpList_load_w ?_ 25 (.tmp 57) ?_ ?_ LK1.out ?_); rotate_left; rfl; rfl; rotate_left; rfl)) | (focus ((with_reducible refine wpList_load_w ?_ 25 (.tmp 59) ?_ ?_ LK2.out ?_); rotate_left; rfl; rfl; rotate_left; rfl)) | (focus ((with_reducible refine wpList_load_w ?_ 25 (.tmp 67) ?_ ?_ LK1.out ?_); rotate_left; rfl; rfl; rotate_left; rfl)) | (focus ((with_reducible refine wpList_load_w ?_ 25 (.tmp 69) ?_ ?_ LKT.out ?_); rotate_left; rfl; rfl; rotate_left; rfl)) | (focus ((with_reducible refine wpList_load_w ?_ 25 (.tmp 74) ?_ ?_ LK2.out ?_); rotate_left; rfl; rfl; rotate_left; rfl)) | (focus ((with_reducible refine wpList_load_w ?_ 25 (.tmp 77) ?_ ?_ LK1.out ?_); rotate_left; rfl; rfl; rotate_left; rfl)) | (focus ((with_reducible refine wpList_load_w ?_ 25 (.tmp 84) ?_ ?_ LK2.out ?_); rotate_left; rfl; rfl; rotate_left; rfl)) | (focus ((with_reducible refine wpList_load_w ?_ 25 (.tmp 87) ?_ ?_ LK1.out ?_); rotate_left; rfl; rfl; rotate_left; rfl)))
          refine (rLess_any S1.to.rk S1.to.kn S.to.rk S.to.kn _).mono ?_
          rintro e w31 ⟨rfl, hg⟩
          rw [hc1.out]
          replace X := hide (X.out.below hg.below)
          replace IL := hide (IL.out.below hg.below)
          replace CB := hide (CB.out.below hg.below)
          replace B := hide (B.out.trans (hg.below.mono B.out.size))
          replace IX := hide (IX.out.below hg.below)
          clear hg LK1 LK2 LKT
          have LK1 := hide (ld_stk IX.out)
          have LK2 := hide (ld_key IL.out)
          have LKT := hide (ld_ct CB.out)
          go_wp2_with (first | (focus ((with_reducible refine wpList_load_w ?_ 25 (.tmp 57) ?_ ?_ LK1.out ?_); rotate_left; rfl; rfl; rotate_left; rfl)) | (focus ((with_reducible refine wpList_load_w ?_ 25 (.tmp 59) ?_ ?_ LK2.out ?_); rotate_left; rfl; rfl; rotate_left; rfl)) | (focus ((with_reducible refine wpList_load_w ?_ 25 (.tmp 67) ?_ ?_ LK1.out ?_); rotate_left; rfl; rfl; rotate_left; rfl)) | (focus ((with_reducible refine wpList_load_w ?_ 25 (.tmp 69) ?_ ?_ LKT.out ?_); rotate_left; rfl; rfl; rotate_left; rfl)) | (focus ((with_reducible refine wpList_load_w ?_ 25 (.tmp 74) ?_ ?_ LK2.out ?_); rotate_left; rfl; rfl; rotate_left; rfl)) | (focus ((with_reducible refine wpList_load_w ?_ 25 (.tmp 77) ?_ ?_ LK1.out ?_); rotate_left; rfl; rfl; rotate_left; rfl)) | (focus ((with_reducible refine wpList_load_w ?_ 25 (.tmp 84) ?_ ?_ LK2.out ?_); rotate_left; rfl; rfl; rotate_left; rfl)) | (focus ((with_reducible refine wpList_load_w ?_ 25 (.tmp 87) ?_ ?_ LK1.out ?_); rotate_left; rfl; rfl; rotate_left; rfl)))
          refine (rLess_any S1.to.rk S1.to.kn tr tn _).mono ?_
          rintro e w32 ⟨rfl, hg⟩
          rw [hc2.out]
          replace X := hide (X.out.below hg.below)
          replace IL := hide (IL.out.below hg.below)
          replace CB := hide (CB.out.below hg.below)
          replace B := hide (B.out.trans (hg.below.mono B.out.size))
          replace IX := hide (IX.out.below hg.below)
          clear hg LK1 LK2 LKT
          have LK1 := hide (ld_stk IX.out)
          have LK2 := hide (ld_key IL.out)
          have LKT := hide (ld_ct CB.out)
          go_wp2_with (first | (focus ((with_reducible refine wpList_load_w ?_ 25 (.tmp 57) ?_ ?_ LK1.out ?_); rotate_left; rfl; rfl; rotate_left; rfl)) | (focus ((with_reducible refine wpList_load_w ?_ 25 (.tmp 59) ?_ ?_ LK2.out ?_); rotate_left; rfl; rfl; rotate_left; rfl)) | (focus ((with_reducible refine wpList_load_w ?_ 25 (.tmp 67) ?_ ?_ LK1.out ?_); rotate_left; rfl; rfl; rotate_left; rfl)) | (focus ((with_reducible refine wpList_load_w ?_ 25 (.tmp 69) ?_ ?_ LKT.out ?_); rotate_left; rfl; rfl; rotate_left; rfl)) | (focus ((with_reducible refine wpList_load_w ?_ 25 (.tmp 74) ?_ ?_ LK2.out ?_); rotate_left; rfl; rfl; rotate_left; rfl)) | (focus ((with_reducible refine wpList_load_w ?_ 25 (.tmp 77) ?_ ?_ LK1.out ?_); rotate_left; rfl; rfl; rotate_left; rfl)) | (focus ((with_reducible refine wpList_load_w ?_ 25 (.tmp 84) ?_ ?_ LK2.out ?_); rotate_left; rfl; rfl; rotate_left; rfl)) | (focus ((with_reducible refine wpList_load_w ?_ 25 (.tmp 87) ?_ ?_ LK1.out ?_); rotate_left; rfl; rfl; rotate_left; rfl)))
          refine (rLess_any S.to.rk S.to.kn S1.to.rk S1.to.kn _).mono ?_
          rintro e w33 ⟨rfl, hg⟩
          rw [hc3f.out]
          replace X := hide (X.out.below hg.below)
          replace IL := hide (IL.out.below hg.below)
          replace CB := hide (CB.out.below hg.below)
          replace B := hide (B.out.trans (hg.below.mono B.out.size))
          replace IX := hide (IX.out.below hg.below)
          clear hg LK1 LK2 LKT
          have LK1 := hide (ld_stk IX.out)
          have LK2 := hide (ld_key IL.out)
          have LKT := hide (ld_ct CB.out)
          go_wp2_with (first | (focus ((with_reducible refine wpList_load_w ?_ 25 (.tmp 57) ?_ ?_ LK1.out ?_); rotate_left; rfl; rfl; rotate_left; rfl)) | (focus ((with_reducible refine wpList_load_w ?_ 25 (.tmp 59) ?_ ?_ LK2.out ?_); rotate_left; rfl; rfl; rotate_left; rfl)) | (focus ((with_reducible refine wpList_load_w ?_ 25 (.tmp 67) ?_ ?_ LK1.out ?_); rotate_left; rfl; rfl; rotate_left; rfl)) | (focus ((with_reducible refine wpList_load_w ?_ 25 (.tmp 69) ?_ ?_ LKT.out ?_); rotate_left; rfl; rfl; rotate_left; rfl)) | (focus ((with_reducible refine wpList_load_w ?_ 25 (.tmp 74) ?_ ?_ LK2.out ?_); rotate_left; rfl; rfl; rotate_left; rfl)) | (focus ((with_reducible refine wpList_load_w ?_ 25 (.tmp 77) ?_ ?_ LK1.out ?_); rotate_left; rfl; rfl; rotate_left; rfl)) | (focus ((with_reducible refine wpList_load_w ?_ 25 (.tmp 84) ?_ ?_ LK2.out ?_); rotate_left; rfl; rfl; rotate_left; rfl)) | (focus ((with_reducible refine wpList_load_w ?_ 25 (.tmp 87) ?_ ?_ LK1.out ?_); rotate_left; rfl; rfl; rotate_left; rfl)))
          refine (rLess_any S.to.rk S.to.kn S1.to.rk S1.to.kn _).mono ?_
          rintro e w34 ⟨rfl, hg⟩
          rw [hc3.out]
          replace X := hide (X.out.below hg.below)
          replace IL := hide (IL.out.below hg.below)
          replace CB := hide (CB.out.below hg.below)
          replace B := hide (B.out.trans (hg.below.mono B.out.size))
          replace IX := hide (IX.out.below hg.below)
          clear hg LK1 LK2 LKT
          have LK1 := hide (ld_stk IX.out)
          have LK2 := hide (ld_key IL.out)
          have LKT := hide (ld_ct CB.out)
          have XD := X
          have IXd := IX
          have ILd := IL
          have CBd := CB
          have BD := B
          obtain ⟨w5, hs5, I5, k5⟩ := store_ref ILd.out (cs := S1.to.cells) rfl rfl (by kernel_rfl)
          have HS5 := hide hs5
          have X5 := hide (XD.out.kpo ILd.out k5)
          have IX5 := hide (IXd.out.kp k5 (by simp only [List.mem_singleton]; rintro rfl; exact absurd (Option.some.inj (IXd.out.symm.trans ILd.out)) (by simp)))
          have CB5 := hide (CBd.out.kp k5 (by simp only [List.mem_singleton]; rintro rfl; exact absurd (Option.some.inj (CBd.out.symm.trans ILd.out)) (by simp)))
          have B5 := hide (BD.out.trans (k5.to_below BD.out.size (by simpa using hLB.out)))
          have IL5 := hide I5
          clear hs5 I5 k5
          have LR := hide (ld_sref IX.out 1 S1.to rfl)
          go_wp2_with (first | (focus ((with_reducible refine wpList_load_w ?_ 25 (.tmp 57) ?_ ?_ LK1.out ?_); rotate_left; rfl; rfl; rotate_left; rfl)) | (focus ((with_reducible refine wpList_load_w ?_ 25 (.tmp 59) ?_ ?_ LK2.out ?_); rotate_left; rfl; rfl; rotate_left; rfl)) | (focus ((with_reducible refine wpList_load_w ?_ 25 (.tmp 67) ?_ ?_ LK1.out ?_); rotate_left; rfl; rfl; rotate_left; rfl)) | (focus ((with_reducible refine wpList_load_w ?_ 25 (.tmp 69) ?_ ?_ LKT.out ?_); rotate_left; rfl; rfl; rotate_left; rfl)) | (focus ((with_reducible refine wpList_load_w ?_ 25 (.tmp 74) ?_ ?_ LK2.out ?_); rotate_left; rfl; rfl; rotate_left; rfl)) | (focus ((with_reducible refine wpList_load_w ?_ 25 (.tmp 77) ?_ ?_ LK1.out ?_); rotate_left; rfl; rfl; rotate_left; rfl)) | (focus ((with_reducible refine wpList_load_w ?_ 25 (.tmp 84) ?_ ?_ LK2.out ?_); rotate_left; rfl; rfl; rotate_left; rfl)) | (focus ((with_reducible refine wpList_load_w ?_ 25 (.tmp 87) ?_ ?_ LK1.out ?_); rotate_left; rfl; rfl; rotate_left; rfl)) | (focus ((with_reducible refine wpList_load_w ?_ 29 (.tmp 91) ?_ ?_ LR.out ?_); rotate_left; rfl; rfl; rotate_left; rfl)) | (focus ((with_reducible refine wpList_store_w ?_ 29 (.tmp 7) (.tmp 92) ?_ ?_ ?_ HS5.out ?_); rotate_left; rfl; rfl; rfl; rotate_left; rfl)))
          try go_wp2
          exact ⟨⟨j + 1, false, S1, ws1, by omega, by omega, by rw [hnn.out], rfl, by simp, hv, ok1, hide (by have := rs1.out; simpa using this), ⟨ttr.out.1.trans htr.out.1, ttr.out.2.1.trans htr.out.2⟩, X5, IL5, CB5, B5⟩, by simp [intOf]; omega⟩
      | false =>
        cases c2 with
        | true =>
          have LK1 := hide (ld_stk IX.out)
          have LK2 := hide (ld_key IL.out)
          have LKT := hide (ld_ct CB.out)
          go_wp2_with (first | (focus ((with_reducible refine wpList_load_w ?_ 25 (.tmp 57) ?_ ?_ LK1.out ?_); rotate_left; rfl; rfl; rotate_left; rfl)) | (focus ((with_reducible refine wpList_load_w ?_ 25 (.tmp 59) ?_ ?_ LK2.out ?_); rotate_left; rfl; rfl; rotate_left; rfl)) | (focus ((with_reducible refine wpList_load_w ?_ 25 (.tmp 67) ?_ ?_ LK1.out ?_); rotate_left; rfl; rfl; rotate_left; rfl)) | (focus ((with_reducible refine wpList_load_w ?_ 25 (.tmp 69) ?_ ?_ LKT.out ?_); rotate_left; rfl; rfl; rotate_left; rfl)) | (focus ((with_reducible refine wpList_load_w ?_ 25 (.tmp 74) ?_ ?_ LK2.out ?_); rotate_left; rfl; rfl; rotate_left; rfl)) | (focus ((with_reducible refine wpList_load_w ?_ 25 (.tmp 77) ?_ ?_ LK1.out ?_); rotate_left; rfl; rfl; rotate_left; rfl)) | (focus ((with_reducible refine wpList_load_w ?_ 25 (.tmp 84) ?_ ?_ LK2.out ?_); rotate_left; rfl; rfl; rotate_left; rfl)) | (focus ((with_reducible refine wpList_load_w ?_ 25 (.tmp 87) ?_ ?_ LK1.out ?_); rotate_left; rfl; rfl; rotate_left; rfl)))
          refine (rLess_any S1.to.rk S1.to.kn S.to.rk S.to.kn _).mono ?_
          rintro e w31 ⟨rfl, hg⟩
          rw [hc1.out]
          replace X := hide (X.out.below hg.below)
          replace IL := hide (IL.out.below hg.below)
          replace CB := hide (CB.out.below hg.below)
          replace B := hide (B.out.trans (hg.below.mono B.out.size))
          replace IX := hide (IX.out.below hg.below)
          clear hg LK1 LK2 LKT
          have LK1 := hide (ld_stk IX.out)
          have LK2 := hide (ld_key IL.out)
          have LKT := hide (ld_ct CB.out)
          go_wp2_with (first | (focus ((with_reducible refine wpList_load_w ?_ 25 (.tmp 57) ?_ ?_ LK1.out ?_); rotate_left; rfl; rfl; rotate_left; rfl)) | (focus ((with_reducible refine wpList_load_w ?_ 25 (.tmp 59) ?_ ?_ LK2.out ?_); rotate_left; rfl; rfl; rotate_left; rfl)) | (focus ((with_reducible refine wpList_load_w ?_ 25 (.tmp 67) ?_ ?_ LK1.out ?_); rotate_left; rfl; rfl; rotate_left; rfl)) | (focus ((with_reducible refine wpList_load_w ?_ 25 (.tmp 69) ?_ ?_ LKT.out ?_); rotate_left; rfl; rfl; rotate_left; rfl)) | (focus ((with_reducible refine wpList_load_w ?_ 25 (.tmp 74) ?_ ?_ LK2.out ?_); rotate_left; rfl; rfl; rotate_left; rfl)) | (focus ((with_reducible refine wpList_load_w ?_ 25 (.tmp 77) ?_ ?_ LK1.out ?_); rotate_left; rfl; rfl; rotate_left; rfl)) | (focus ((with_reducible refine wpList_load_w ?_ 25 (.tmp 84) ?_ ?_ LK2.out ?_); rotate_left; rfl; rfl; rotate_left; rfl)) | (focus ((with_reducible refine wpList_load_w ?_ 25 (.tmp 87) ?_ ?_ LK1.out ?_); rotate_left; rfl; rfl; rotate_left; rfl)))
          refine (rLess_any S1.to.rk S1.to.kn tr tn _).mono ?_
          rintro e w32 ⟨rfl, hg⟩
          rw [hc2.out]
          replace X := hide (X.out.below hg.below)
          replace IL := hide (IL.out.below hg.below)
          replace CB := hide (CB.out.below hg.below)
          replace B := hide (B.out.trans (hg.below.mono B.out.size))
          replace IX := hide (IX.out.below hg.below)
          clear hg LK1 LK2 LKT
          have LK1 := hide (ld_stk IX.out)
          have LK2 := hide (ld_key IL.out)
          have LKT := hide (ld_ct CB.out)
          go_wp2_with (first | (focus ((with_reducible refine wpList_load_w ?_ 25 (.tmp 57) ?_ ?_ LK1.out ?_); rotate_left; rfl; rfl; rotate_left; rfl)) | (focus ((with_reducible refine wpList_load_w ?_ 25 (.tmp 59) ?_ ?_ LK2.out ?_); rotate_left; rfl; rfl; rotate_left; rfl)) | (focus ((with_reducible refine wpList_load_w ?_ 25 (.tmp 67) ?_ ?_ LK1.out ?_); rotate_left; rfl; rfl; rotate_left; rfl)) | (focus ((with_reducible refine wpList_load_w ?_ 25 (.tmp 69) ?_ ?_ LKT.out ?_); rotate_left; rfl; rfl; rotate_left; rfl)) | (focus ((with_reducible refine wpList_load_w ?_ 25 (.tmp 74) ?_ ?_ LK2.out ?_); rotate_left; rfl; rfl; rotate_left; rfl)) | (focus ((with_reducible refine wpList_load_w ?_ 25 (.tmp 77) ?_ ?_ LK1.out ?_); rotate_left; rfl; rfl; rotate_left; rfl)) | (focus ((with_reducible refine wpList_load_w ?_ 25 (.tmp 84) ?_ ?_ LK2.out ?_); rotate_left; rfl; rfl; rotate_left; rfl)) | (focus ((with_reducible refine wpList_load_w ?_ 25 (.tmp 87) ?_ ?_ LK1.out ?_); rotate_left; rfl; rfl; rotate_left; rfl)))
          refine (rLess_any S.to.rk S.to.kn S1.to.rk S1.to.kn _).mono ?_
          rintro e w34 ⟨rfl, hg⟩
          rw [hc3.out]
          replace X := hide (X.out.below hg.below)
          replace IL := hide (IL.out.below hg.below)
          replace CB := hide (CB.out.below hg.below)
          replace B := hide (B.out.trans (hg.below.mono B.out.size))
          replace IX := hide (IX.out.below hg.below)
          clear hg LK1 LK2 LKT
          have LK1 := hide (ld_stk IX.out)
          have LK2 := hide (ld_key IL.out)
          have LKT := hide (ld_ct CB.out)
          have XD := X
          have IXd := IX
          have ILd := IL
          have CBd := CB
          have BD := B
          obtain ⟨w5, hs5, I5, k5⟩ := store_ref ILd.out (cs := S1.to.cells) rfl rfl (by kernel_rfl)
          have HS5 := hide hs5
          have X5 := hide (XD.out.kpo ILd.out k5)
          have IX5 := hide (IXd.out.kp k5 (by simp only [List.mem_singleton]; rintro rfl; exact absurd (Option.some.inj (IXd.out.symm.trans ILd.out)) (by simp)))
          have CB5 := hide (CBd.out.kp k5 (by simp only [List.mem_singleton]; rintro rfl; exact absurd (Option.some.inj (CBd.out.symm.trans ILd.out)) (by simp)))
          have B5 := hide (BD.out.trans (k5.to_below BD.out.size (by simpa using hLB.out)))
          have IL5 := hide I5
          clear hs5 I5 k5
          have LR := hide (ld_sref IX.out 1 S1.to rfl)
          go_wp2_with (first | (focus ((with_reducible refine wpList_load_w ?_ 25 (.tmp 57) ?_ ?_ LK1.out ?_); rotate_left; rfl; rfl; rotate_left; rfl)) | (focus ((with_reducible refine wpList_load_w ?_ 25 (.tmp 59) ?_ ?_ LK2.out ?_); rotate_left; rfl; rfl; rotate_left; rfl)) | (focus ((with_reducible refine wpList_load_w ?_ 25 (.tmp 67) ?_ ?_ LK1.out ?_); rotate_left; rfl; rfl; rotate_left; rfl)) | (focus ((with_reducible refine wpList_load_w ?_ 25 (.tmp 69) ?_ ?_ LKT.out ?_); rotate_left; rfl; rfl; rotate_left; rfl)) | (focus ((with_reducible refine wpList_load_w ?_ 25 (.tmp 74) ?_ ?_ LK2.out ?_); rotate_left; rfl; rfl; rotate_left; rfl)) | (focus ((with_reducible refine wpList_load_w ?_ 25 (.tmp 77) ?_ ?_ LK1.out ?_); rotate_left; rfl; rfl; rotate_left; rfl)) | (focus ((with_reducible refine wpList_load_w ?_ 25 (.tmp 84) ?_ ?_ LK2.out ?_); rotate_left; rfl; rfl; rotate_left; rfl)) | (focus ((with_reducible refine wpList_load_w ?_ 25 (.tmp 87) ?_ ?_ LK1.out ?_); rotate_left; rfl; rfl; rotate_left; rfl)) | (focus ((with_reducible refine wpList_load_w ?_ 29 (.tmp 91) ?_ ?_ LR.out ?_); rotate_left; rfl; rfl; rotate_left; rfl)) | (focus ((with_reducible refine wpList_store_w ?_ 29 (.tmp 7) (.tmp 92) ?_ ?_ ?_ HS5.out ?_); rotate_left; rfl; rfl; rfl; rotate_left; rfl)))
          try go_wp2
          exact ⟨⟨j + 1, c3, S1, ws1, by omega, by omega, by rw [hnn.out], rfl, by simp, hv, ok1, hide (by have := rs1.out; simpa using this), ⟨ttr.out.1.trans htr.out.1, ttr.out.2.1.trans htr.out.2⟩, X5, IL5, CB5, B5⟩, by simp [intOf]; omega⟩
        | false =>
          have hf : c3 = false := by cases c3 with | false => rfl | true => exact absurd ⟨rfl, rfl⟩ gB.out
          subst hf
          have hc3f := hc3
          have LK1 := hide (ld_stk IX.out)
          have LK2 := hide (ld_key IL.out)
          have LKT := hide (ld_ct CB.out)
          go_wp2_with (first | (focus ((with_reducible refine wpList_load_w ?_ 25 (.tmp 57) ?_ ?_ LK1.out ?_); rotate_left; rfl; rfl; rotate_left; rfl)) | (focus ((with_reducible refine wpList_load_w ?_ 25 (.tmp 59) ?_ ?_ LK2.out ?_); rotate_left; rfl; rfl; rotate_left; rfl)) | (focus ((with_reducible refine wpList_load_w ?_ 25 (.tmp 67) ?_ ?_ LK1.out ?_); rotate_left; rfl; rfl; rotate_left; rfl)) | (focus ((with_reducible refine wpList_load_w ?_ 25 (.tmp 69) ?_ ?_ LKT.out ?_); rotate_left; rfl; rfl; rotate_left; rfl)) | (focus ((with_reducible refine wpList_load_w ?_ 25 (.tmp 74) ?_ ?_ LK2.out ?_); rotate_left; rfl; rfl; rotate_left; rfl)) | (focus ((with_reducible refine wpList_load_w ?_ 25 (.tmp 77) ?_ ?_ LK1.out ?_); rotate_left; rfl; rfl; rotate_left; rfl)) | (focus ((with_reducible refine wpList_load_w ?_ 25 (.tmp 84) ?_ ?_ LK2.out ?_); rotate_left; rfl; rfl; rotate_left; rfl)) | (focus ((with_reducible refine wpList_load_w ?_ 25 (.tmp 87) ?_ ?_ LK1.out ?_); rotate_left; rfl; rfl; rotate_left; rfl)))
          refine (rLess_any S1.to.rk S1.to.kn S.to.rk S.to.kn _).mono ?_
          rintro e w31 ⟨rfl, hg⟩
          rw [hc1.out]
          replace X := hide (X.out.below hg.below)
          replace IL := hide (IL.out.below hg.below)
          replace CB := hide (CB.out.below hg.below)
          replace B := hide (B.out.trans (hg.below.mono B.out.size))
          replace IX := hide (IX.out.below hg.below)
          clear hg LK1 LK2 LKT
          have LK1 := hide (ld_stk IX.out)
          have LK2 := hide (ld_key IL.out)
          have LKT := hide (ld_ct CB.out)
          go_wp2_with (first | (focus ((with_reducible refine wpList_load_w ?_ 25 (.tmp 57) ?_ ?_ LK1.out ?_); rotate_left; rfl; rfl; rotate_left; rfl)) | (focus ((with_reducible refine wpList_load_w ?_ 25 (.tmp 59) ?_ ?_ LK2.out ?_); rotate_left; rfl; rfl; rotate_left; rfl)) | (focus ((with_reducible refine wpList_load_w ?_ 25 (.tmp 67) ?_ ?_ LK1.out ?_); rotate_left; rfl; rfl; rotate_left; rfl)) | (focus ((with_reducible refine wpList_load_w ?_ 25 (.tmp 69) ?_ ?_ LKT.out ?_); rotate_left; rfl; rfl; rotate_left; rfl)) | (focus ((with_reducible refine wpList_load_w ?_ 25 (.tmp 74) ?_ ?_ LK2.out ?_); rotate_left; rfl; rfl; rotate_left; rfl)) | (focus ((with_reducible refine wpList_load_w ?_ 25 (.tmp 77) ?_ ?_ LK1.out ?_); rotate_left; rfl; rfl; rotate_left; rfl)) | (focus ((with_reducible refine wpList_load_w ?_ 25 (.tmp 84) ?_ ?_ LK2.out ?_); rotate_left; rfl; rfl; rotate_left; rfl)) | (focus ((with_reducible refine wpList_load_w ?_ 25 (.tmp 87) ?_ ?_ LK1.out ?_); rotate_left; rfl; rfl; rotate_left; rfl)))
          refine (rLess_any S1.to.rk S1.to.kn tr tn _).mono ?_
          rintro e w32 ⟨rfl, hg⟩
          rw [hc2.out]
          replace X := hide (X.out.below hg.below)
          replace IL := hide (IL.out.below hg.below)
          replace CB := hide (CB.out.below hg.below)
          replace B := hide (B.out.trans (hg.below.mono B.out.size))
          replace IX := hide (IX.out.below hg.below)
          clear hg LK1 LK2 LKT
          have LK1 := hide (ld_stk IX.out)
          have LK2 := hide (ld_key IL.out)
          have LKT := hide (ld_ct CB.out)
          go_wp2_with (first | (focus ((with_reducible refine wpList_load_w ?_ 25 (.tmp 57) ?_ ?_ LK1.out ?_); rotate_left; rfl; rfl; rotate_left; rfl)) | (focus ((with_reducible refine wpList_load_w ?_ 25 (.tmp 59) ?_ ?_ LK2.out ?_); rotate_left; rfl; rfl; rotate_left; rfl)) | (focus ((with_reducible refine wpList_load_w ?_ 25 (.tmp 67) ?_ ?_ LK1.out ?_); rotate_left; rfl; rfl; rotate_left; rfl)) | (focus ((with_reducible refine wpList_load_w ?_ 25 (.tmp 69) ?_ ?_ LKT.out ?_); rotate_left; rfl; rfl; rotate_left; rfl)) | (focus ((with_reducible refine wpList_load_w ?_ 25 (.tmp 74) ?_ ?_ LK2.out ?_); rotate_left; rfl; rfl; rotate_left; rfl)) | (focus ((with_reducible refine wpList_load_w ?_ 25 (.tmp 77) ?_ ?_ LK1.out ?_); rotate_left; rfl; rfl; rotate_left; rfl)) | (focus ((with_reducible refine wpList_load_w ?_ 25 (.tmp 84) ?_ ?_ LK2.out ?_); rotate_left; rfl; rfl; rotate_left; rfl)) | (focus ((with_reducible refine wpList_load_w ?_ 25 (.tmp 87) ?_ ?_ LK1.out ?_); rotate_left; rfl; rfl; rotate_left; rfl)))
          refine (rLess_any S.to.rk S.to.kn S1.to.rk S1.to.kn _).mono ?_
          rintro e w33 ⟨rfl, hg⟩
          rw [hc3f.out]
          replace X := hide (X.out.below hg.below)
          replace IL := hide (IL.out.below hg.below)
          replace CB := hide (CB.out.below hg.below)
          replace B := hide (B.out.trans (hg.below.mono B.out.size))
          replace IX := hide (IX.out.below hg.below)
          clear hg LK1 LK2 LKT
          have LK1 := hide (ld_stk IX.out)
          have LK2 := hide (ld_key IL.out)
          have LKT := hide (ld_ct CB.out)
          go_wp2_with (first | (focus ((with_reducible refine wpList_load_w ?_ 25 (.tmp 57) ?_ ?_ LK1.out ?_); rotate_left; rfl; rfl; rotate_left; rfl)) | (focus ((with_reducible refine wpList_load_w ?_ 25 (.tmp 59) ?_ ?_ LK2.out ?_); rotate_left; rfl; rfl; rotate_left; rfl)) | (focus ((with_reducible refine wpList_load_w ?_ 25 (.tmp 67) ?_ ?_ LK1.out ?_); rotate_left; rfl; rfl; rotate_left; rfl)) | (focus ((with_reducible refine wpList_load_w ?_ 25 (.tmp 69) ?_ ?_ LKT.out ?_); rotate_left; rfl; rfl; rotate_left; rfl)) | (focus ((with_reducible refine wpList_load_w ?_ 25 (.tmp 74) ?_ ?_ LK2.out ?_); rotate_left; rfl; rfl; rotate_left; rfl)) | (focus ((with_reducible refine wpList_load_w ?_ 25 (.tmp 77) ?_ ?_ LK1.out ?_); rotate_left; rfl; rfl; rotate_left; rfl)) | (focus ((with_reducible refine wpList_load_w ?_ 25 (.tmp 84) ?_ ?_ LK2.out ?_); rotate_left; rfl; rfl; rotate_left; rfl)) | (focus ((with_reducible refine wpList_load_w ?_ 25 (.tmp 87) ?_ ?_ LK1.out ?_); rotate_left; rfl; rfl; rotate_left; rfl)))
          refine (rLess_any S.to.rk S.to.kn S1.to.rk S1.to.kn _).mono ?_
          rintro e w34 ⟨rfl, hg⟩
          rw [hc3.out]
          replace X := hide (X.out.below hg.below)
          replace IL := hide (IL.out.below hg.below)
          replace CB := hide (CB.out.below hg.below)
          replace B := hide (B.out.trans (hg.below.mono B.out.size))
          replace IX := hide (IX.out.below hg.below)
          clear hg LK1 LK2 LKT
          have LK1 := hide (ld_stk IX.out)
          have LK2 := hide (ld_key IL.out)
          have LKT := hide (ld_ct CB.out)
          have XD := X
          have IXd := IX
          have ILd := IL
          have CBd := CB
          have BD := B
          obtain ⟨w5, hs5, I5, k5⟩ := store_ref ILd.out (cs := S1.to.cells) rfl rfl (by kernel_rfl)
          have HS5 := hide hs5
          have X5 := hide (XD.out.kpo ILd.out k5)
          have IX5 := hide (IXd.out.kp k5 (by simp only [List.mem_singleton]; rintro rfl; exact absurd (Option.some.inj (IXd.out.symm.trans ILd.out)) (by simp)))
          have CB5 := hide (CBd.out.kp k5 (by simp only [List.mem_singleton]; rintro rfl; exact absurd (Option.some.inj (CBd.out.symm.trans ILd.out)) (by simp)))
          have B5 := hide (BD.out.trans (k5.to_below BD.out.size (by simpa using hLB.out)))
          have IL5 := hide I5
          clear hs5 I5 k5
          have LR := hide (ld_sref IX.out 1 S1.to rfl)
          go_wp2_with (first | (focus ((with_reducible refine wpList_load_w ?_ 25 (.tmp 57) ?_ ?_ LK1.out ?_); rotate_left; rfl; rfl; rotate_left; rfl)) | (focus ((with_reducible refine wpList_load_w ?_ 25 (.tmp 59) ?_ ?_ LK2.out ?_); rotate_left; rfl; rfl; rotate_left; rfl)) | (focus ((with_reducible refine wpList_load_w ?_ 25 (.tmp 67) ?_ ?_ LK1.out ?_); rotate_left; rfl; rfl; rotate_left; rfl)) | (focus ((with_reducible refine wpList_load_w ?_ 25 (.tmp 69) ?_ ?_ LKT.out ?_); rotate_left; rfl; rfl; rotate_left; rfl)) | (focus ((with_reducible refine wpList_load_w ?_ 25 (.tmp 74) ?_ ?_ LK2.out ?_); rotate_left; rfl; rfl; rotate_left; rfl)) | (focus ((with_reducible refine wpList_load_w ?_ 25 (.tmp 77) ?_ ?_ LK1.out ?_); rotate_left; rfl; rfl; rotate_left; rfl)) | (focus ((with_reducible refine wpList_load_w ?_ 25 (.tmp 84) ?_ ?_ LK2.out ?_); rotate_left; rfl; rfl; rotate_left; rfl)) | (focus ((with_reducible refine wpList_load_w ?_ 25 (.tmp 87) ?_ ?_ LK1.out ?_); rotate_left; rfl; rfl; rotate_left; rfl)) | (focus ((with_reducible refine wpList_load_w ?_ 29 (.tmp 91) ?_ ?_ LR.out ?_); rotate_left; rfl; rfl; rotate_left; rfl)) | (focus ((with_reducible refine wpList_store_w ?_ 29 (.tmp 7) (.tmp 92) ?_ ?_ ?_ HS5.out ?_); rotate_left; rfl; rfl; rfl; rotate_left; rfl)))
          try go_wp2
          exact ⟨⟨j + 1, false, S1, ws1, by omega, by omega, by rw [hnn.out], rfl, by simp, hv, ok1, hide (by have := rs1.out; simpa using this), ⟨ttr.out.1.trans htr.out.1, ttr.out.2.1.trans htr.out.2⟩, X5, IL5, CB5, B5⟩, by simp [intOf]; omega⟩

end Go.Proofs.YtfopidhleijljaaDoor
