/- SeekRuns walked. -/
import Derived.Test.YtdkadggcaobaaaaDoorDK
namespace Go.Proofs.YtdkadggcaobaaaaDoor
open Go.RowKit Go.Maps Go.ChangeMaps

theorem en_s (w : World) : (binOp .eql 34 (.pointer none) (.pointer none)).run Tryd.prog w = .ok (.bool true) w := by kernel_rfl
theorem ea_s (a : Addr) (w : World) : (binOp .eql 34 (.pointer (some a)) (.pointer none)).run Tryd.prog w = .ok (.bool false) w := by kernel_rfl
theorem en_d (w : World) : (binOp .eql 38 (.pointer none) (.pointer none)).run Tryd.prog w = .ok (.bool true) w := by kernel_rfl
theorem ea_d (a : Addr) (w : World) : (binOp .eql 38 (.pointer (some a)) (.pointer none)).run Tryd.prog w = .ok (.bool false) w := by kernel_rfl
theorem nn_d (w : World) : (binOp .neq 38 (.pointer none) (.pointer none)).run Tryd.prog w = .ok (.bool false) w := by kernel_rfl
theorem na_d (a : Addr) (w : World) : (binOp .neq 38 (.pointer (some a)) (.pointer none)).run Tryd.prog w = .ok (.bool true) w := by kernel_rfl

set_option maxHeartbeats 4000000 in
set_option maxRecDepth 100000 in
theorem runs_bad (h : Int) (s : Rf) (tr tn : Int) (va0 : Value) (l : List An) (_ : ∀ a ∈ l, AOk a) (hb0 : 0 ≤ s.bt) (_ : (Lit.int .i64 s.id).wf = true) (hm : mayC h s tr tn = false) (w : World) (hR : Ranks w) (hO : AnSl w va0 l) : Calls Tryd.prog 3 #[.agg (cfL h s tr tn).toArray, va0] w fun e w' => e = .returned (.bool true) ∧ Below w.heap.size w w' := by
  obtain ⟨va, vc, rfl, -, -⟩ := hO.shape
  clear hO
  have mixed : Tryd.prog.follows .mixedOrders = true := by kernel_rfl
  have HRb := hide hR
  have b1 := (Below.refl w.heap.size w).alloc (Nat.le_refl _) (.cells (cfL h s tr tn).toArray 31)
  have CB := hide (IsB.new w (cfL h s tr tn).toArray 31)
  have HR := hide (hR.below b1)
  have B := hide b1
  clear b1 hR
  generalize hn : l.length = n at *
  replace hn := hide hn
  go_enter Tryd.func3, Tryd.ntmps3
  go_wp2_with fail
  refine (awake_any _ HR.out).mono ?_
  rintro e w1 ⟨rfl, hb⟩
  replace CB := hide (CB.out.below hb)
  replace HR := hide (HR.out.below hb)
  replace B := hide (B.out.trans (hb.mono B.out.size))
  clear hb
  have L0 := hide (ld_conf CB.out)
  go_wp2_with (first | (focus ((with_reducible refine wpList_load_w ?_ 31 (.tmp 2) ?_ ?_ L0.out ?_); rotate_left; rfl; rfl; rotate_left; rfl)))
  refine (new_bad h s tr tn hb0 hm w1 HR.out).mono ?_
  rintro e w2 ⟨rfl, hb⟩
  replace CB := hide (CB.out.below hb)
  replace B := hide (B.out.trans (hb.mono B.out.size))
  clear hb L0 HR
  have L0 := hide (ld_conf CB.out)
  go_wp2_with (first | (focus ((with_reducible refine wpList_load_w ?_ 31 (.tmp 2) ?_ ?_ L0.out ?_); rotate_left; rfl; rfl; rotate_left; rfl)))
  refine (dnew_bad h s tr tn hm w2).mono ?_
  rintro e w3 ⟨rfl, hb⟩
  replace B := hide (B.out.trans (hb.mono B.out.size))
  clear hb L0 CB hm
  have n1 := en_s w3
  have n2 := en_d w3
  go_wp2_with fail
  clear n1 n2
  go_loopw [9] (fun v9 wr => v9 = .int .i64 0 ∧ Hid (Below w.heap.size w wr)) (fun _ _ => 0)
  case atStart => exact ⟨rfl, B⟩
  case round =>
    clear B
    obtain ⟨rfl, B⟩ := hrel
    have n2 := en_d wr
    have n3 := nn_d wr
    by_cases h0 : 0 < n
    · have i1 : (0 : Int) < n := by omega
      have d1 : decide ((0 : Int) < n) = true := decide_eq_true i1
      have d2 : decide (0 < n) = true := decide_eq_true h0
      go_wp2
      go_ret
      exact ⟨rfl, B.out⟩
    · obtain rfl : n = 0 := by omega
      go_wp2
      go_ret
      exact ⟨rfl, B.out⟩

set_option maxHeartbeats 4000000 in
set_option maxRecDepth 100000 in
theorem runs_good (h : Int) (s : Rf) (tr tn : Int) (va0 : Value) (l : List An) (hl : ∀ a ∈ l, AOk a) (hb0 : 0 ≤ s.bt) (hi0 : (Lit.int .i64 s.id).wf = true) (hm : mayC h s tr tn = true) (w : World) (hR : Ranks w) (hO : AnSl w va0 l) : Calls Tryd.prog 3 #[.agg (cfL h s tr tn).toArray, va0] w fun e w' => e = .returned (.bool true) ∧ Below w.heap.size w w' := by
  obtain ⟨va, vc, rfl, -, -⟩ := hO.shape
  have OP := hide hO
  clear hO
  have mixed : Tryd.prog.follows .mixedOrders = true := by kernel_rfl
  have HRb := hide hR
  have b1 := (Below.refl w.heap.size w).alloc (Nat.le_refl _) (.cells (cfL h s tr tn).toArray 31)
  have CB := hide (IsB.new w (cfL h s tr tn).toArray 31)
  have HR := hide (hR.below b1)
  have B := hide b1
  clear b1 hR
  generalize hn : l.length = n at *
  replace hn := hide hn
  go_enter Tryd.func3, Tryd.ntmps3
  go_wp2_with fail
  refine (awake_any _ HR.out).mono ?_
  rintro e w1 ⟨rfl, hb⟩
  replace CB := hide (CB.out.below hb)
  replace HR := hide (HR.out.below hb)
  replace B := hide (B.out.trans (hb.mono B.out.size))
  clear hb
  have L0 := hide (ld_conf CB.out)
  go_wp2_with (first | (focus ((with_reducible refine wpList_load_w ?_ 31 (.tmp 2) ?_ ?_ L0.out ?_); rotate_left; rfl; rfl; rotate_left; rfl)))
  refine (new_ok h s tr tn hb0 hm w1 HR.out).mono ?_
  rintro e w2 ⟨b, m, rfl, X0, hle, hlm, hb⟩
  have hBb : Hid (w.heap.size ≤ b) := Nat.le_trans B.out.size hle
  have hBm : Hid (w.heap.size ≤ m) := Nat.le_trans B.out.size hlm
  replace CB := hide (CB.out.below hb)
  replace B := hide (B.out.trans (hb.mono B.out.size))
  have X := hide X0
  clear hb X0 hle hlm HR L0
  have L0 := hide (ld_conf CB.out)
  go_wp2_with (first | (focus ((with_reducible refine wpList_load_w ?_ 31 (.tmp 2) ?_ ?_ L0.out ?_); rotate_left; rfl; rfl; rotate_left; rfl)))
  obtain ⟨g1, g2, g3, g4, g5⟩ := mayC_all hm
  refine (dnew_ok h s tr tn g1 g2 g3 g4 g5 w2).mono ?_
  rintro e w3 ⟨d, rfl, D0, hb⟩
  obtain ⟨base, hbase⟩ : ∃ base, w2.heap.size = base := ⟨_, rfl⟩
  rw [hbase] at D0
  have hBs : Hid (w.heap.size ≤ base) := by show _ ≤ _; rw [← hbase]; exact B.out.size
  clear hbase
  replace X := hide (X.out.below hb)
  replace B := hide (B.out.trans (hb.mono B.out.size))
  clear hb L0 CB g1 g2 g3 g4 g5
  have BO : Hid (Bo w3 b m d base (newS h s tr tn) s [] (2 * 0)) := ⟨X.out, D0, newS_ok hm hb0 hi0, ⟨h, rfl⟩, Nat.le_refl _, fun _ => ⟨rfl, rfl, rfl, rfl⟩⟩
  clear X D0 hm
  have n1 := ea_s ⟨b, 0, none⟩ w3
  have n2 := ea_d ⟨d, 0, none⟩ w3
  go_wp2_with fail
  clear n1 n2
  go_loopw [9] (fun v9 wr => ∃ (j : Nat) (S : Sk) (L : List Wl), j ≤ n ∧ j ≤ 300 ∧ v9 = .int .i64 (j : Int) ∧ Hid (Bo wr b m d base S s L (2 * j)) ∧ Hid (Below w.heap.size w wr)) (fun v9 _ => n - (intOf v9).toNat)
  case atStart => exact ⟨0, newS h s tr tn, [], by omega, by omega, rfl, BO, B⟩
  case round =>
    clear BO B
    obtain ⟨j, S, L, hj, hj3, rfl, BO, B⟩ := hrel
    have n2 := ea_d ⟨d, 0, none⟩ wr
    have n3 := na_d ⟨d, 0, none⟩ wr
    by_cases hlt0 : j < n ∧ j < 300
    rotate_left
    · by_cases h80 : j < n
      rotate_left
      · have d1 : decide ((j : Int) < n) = false := by simp; omega
        go_wp2_with fail
        refine (next_any b m S (L.map Wl.pr) wr BO.out.X).mono ?_
        rintro e w1 ⟨rfl, hb⟩
        replace BO := hide (BO.out.below hb)
        replace B := hide (B.out.trans (hb.mono B.out.size))
        clear hb
        go_wp2_with fail
        refine (dnext_any d base S s L w1 BO.out.D).mono ?_
        rintro e w2 ⟨rfl, hb⟩
        replace BO := hide (BO.out.below hb)
        replace B := hide (B.out.trans (hb.mono B.out.size))
        clear hb
        go_wp2_with fail
        refine (sameStep_S S w2).mono ?_
        rintro e w3 ⟨rfl, hb⟩
        replace B := hide (B.out.trans (hb.mono B.out.size))
        clear hb BO
        go_wp2
        go_ret
        exact ⟨rfl, B.out⟩
      · obtain rfl : j = 300 := by omega
        have i1 : ((300 : Nat) : Int) < n := by omega
        have i2 : decide (((300 : Nat) : Int) < n) = true := decide_eq_true i1
        go_wp2_with fail
        refine (next_any b m S (L.map Wl.pr) wr BO.out.X).mono ?_
        rintro e w1 ⟨rfl, hb⟩
        replace BO := hide (BO.out.below hb)
        replace B := hide (B.out.trans (hb.mono B.out.size))
        clear hb
        go_wp2_with fail
        refine (dnext_any d base S s L w1 BO.out.D).mono ?_
        rintro e w2 ⟨rfl, hb⟩
        replace BO := hide (BO.out.below hb)
        replace B := hide (B.out.trans (hb.mono B.out.size))
        clear hb
        go_wp2_with fail
        refine (sameStep_S S w2).mono ?_
        rintro e w3 ⟨rfl, hb⟩
        replace B := hide (B.out.trans (hb.mono B.out.size))
        clear hb BO
        go_wp2
        go_ret
        exact ⟨rfl, B.out⟩
    obtain ⟨i1, i2⟩ := hlt0
    have i3 : (j : Int) < n := by omega
    have i4 : decide ((j : Int) < 300) = true := decide_eq_true (by omega)
    have hjl : j < l.length := by rw [hn.out]; exact i1
    obtain ⟨g, o, c, ev, OA0⟩ := OP.out.at2 j hjl
    injection ev with ev el ec
    clear el
    subst ev ec
    have OA := hide OA0
    have hAj := hide (hl l[j] (List.getElem_mem hjl))
    clear OA0
    generalize l[j] = aj at *
    have LA := hide (OA.out _ B.out)
    go_wp2_with (first | (focus ((with_reducible refine wpList_load_w ?_ 45 (.tmp 49) ?_ ?_ LA.out ?_); rotate_left; rfl; rfl; rotate_left; rfl)))
    refine (tell_any b m S (L.map Wl.pr) aj BO.out.ok hAj.out wr (HRb.out.below B.out) BO.out.X).mono ?_
    rintro e w1 ⟨rfl, X1, K1⟩
    have D1 := BO.out.D.kp K1 BO.out.X
    replace B := hide (B.out.trans (K1.to_below B.out.size (fun k hk => by simp only [List.mem_cons, List.not_mem_nil, or_false] at hk; rcases hk with rfl | rfl <;> first | exact hBb.out | exact hBm.out)))
    clear LA K1
    have LA := hide (OA.out _ B.out)
    replace X1 := hide X1
    go_wp2_with (first | (focus ((with_reducible refine wpList_load_w ?_ 45 (.tmp 55) ?_ ?_ LA.out ?_); rotate_left; rfl; rfl; rotate_left; rfl)))
    refine (dtell_any d base S s L aj (BO.out.pre (by omega)) w1 D1).mono ?_
    rintro e w2 ⟨rfl, D2, K2⟩
    replace B := hide (B.out.trans ((K2.below D1.size).mono hBs.out))
    replace BO := hide (BO.out.told hAj.out X1.out K2 D2)
    clear X1 D1 D2 K2 LA
    obtain ⟨S1, hS1⟩ : ∃ z, (S.tell (L.map Wl.pr) aj).1 = z := ⟨_, rfl⟩
    obtain ⟨L1, hL1⟩ : ∃ z, S.tellL L aj = z := ⟨_, rfl⟩
    rw [hS1, hL1] at BO
    clear hS1 hL1
    have LA := hide (OA.out _ B.out)
    go_wp2_with (first | (focus ((with_reducible refine wpList_load_w ?_ 45 (.tmp 69) ?_ ?_ LA.out ?_); rotate_left; rfl; rfl; rotate_left; rfl)))
    · refine (wake_any (.pointer (some ⟨b, 0, none⟩)) w2).mono ?_
      rintro e w3 ⟨rfl, hw⟩
      rw [hw]
      clear hw w3
      go_wp2_with (first | (focus ((with_reducible refine wpList_load_w ?_ 45 (.tmp 69) ?_ ?_ LA.out ?_); rotate_left; rfl; rfl; rotate_left; rfl)))
      · refine (dead_any b m S1 (L1.map Wl.pr) aj BO.out.ok hAj.out w2 (HRb.out.below B.out) BO.out.X).mono ?_
        rintro e w4 ⟨rfl, X1, K1⟩
        have D1 := BO.out.D.kp K1 BO.out.X
        replace B := hide (B.out.trans (K1.to_below B.out.size (fun k hk => by simp only [List.mem_cons, List.not_mem_nil, or_false] at hk; rcases hk with rfl | rfl <;> first | exact hBb.out | exact hBm.out)))
        clear LA K1
        have LA := hide (OA.out _ B.out)
        replace X1 := hide X1
        go_wp2_with (first | (focus ((with_reducible refine wpList_load_w ?_ 45 (.tmp 75) ?_ ?_ LA.out ?_); rotate_left; rfl; rfl; rotate_left; rfl)))
        refine (ddead_any d base S1 s L1 aj (BO.out.pre (by omega)) w4 D1).mono ?_
        rintro e w5 ⟨rfl, D2, K2⟩
        replace B := hide (B.out.trans ((K2.below D1.size).mono hBs.out))
        replace BO := hide (BO.out.died hAj.out X1.out K2 D2)
        clear X1 D1 D2 K2 LA
        obtain ⟨S2, hS2⟩ : ∃ z, (S1.dead (L1.map Wl.pr) aj).1 = z := ⟨_, rfl⟩
        obtain ⟨L2, hL2⟩ : ∃ z, S1.deadL L1 aj = z := ⟨_, rfl⟩
        rw [hS2, hL2] at BO
        clear hS2 hL2
        go_wp2_with fail
        replace BO := hide (BO.out.below ((Below.refl _ _).drew))
        replace B := hide B.out.drew
        refine regionL 15 (fun w' => Bo w' b m d base S2 s L2 (2 * j + 1 + 1)) mixed BO.out (fun hHeld => ?_)
        generalize w5.drew = WD at *
        refine pickA (v := ?_) 0 (some 78) rfl rfl (by kernel_rfl) (by kernel_rfl) (by kernel_rfl) (by decide) (fun _ _ _ h => h) (by rfl) ?_ (by assumption) ?_
        rotate_left
        · intro w'
          go_simp
          try with_reducible rfl
        try simp only [Act.put, List.setIfInBounds_toArray, List.set_cons_zero, List.set_cons_succ]
        refine pickA (v := ?_) 2 (some 80) rfl rfl (by kernel_rfl) (by kernel_rfl) (by kernel_rfl) (by decide) (fun _ _ _ h => h) (by rfl) ?_ (by assumption) ?_
        rotate_left
        · intro w'
          go_simp
          try with_reducible rfl
        try simp only [Act.put, List.setIfInBounds_toArray, List.set_cons_zero, List.set_cons_succ]
        refine oneL (i := 1) (by kernel_rfl) rfl (fun K hK => ?_)
        go_simp
        refine (next_any b m S2 (L2.map Wl.pr) WD BO.out.X).mono ?_
        rintro e v1 ⟨rfl, hb⟩
        replace BO := hide (BO.out.below hb)
        replace B := hide (B.out.trans (hb.mono B.out.size))
        clear hb
        refine hK.out _ _ ?_ ?_
        · exact BO.out
        clear hK K
        try simp only [Act.put, List.setIfInBounds_toArray, List.set_cons_zero, List.set_cons_succ]
        clear hHeld
        have hHeld : (fun w' => Bo w' b m d base S2 s L2 (2 * j + 1 + 1)) v1 := BO.out
        refine oneL (i := 3) (by kernel_rfl) rfl (fun K hK => ?_)
        go_simp
        refine (dnext_any d base S2 s L2 v1 BO.out.D).mono ?_
        rintro e v2 ⟨rfl, hb⟩
        replace BO := hide (BO.out.below hb)
        replace B := hide (B.out.trans (hb.mono B.out.size))
        clear hb
        refine hK.out _ _ ?_ ?_
        · exact BO.out
        clear hK K
        try simp only [Act.put, List.setIfInBounds_toArray, List.set_cons_zero, List.set_cons_succ]
        clear hHeld
        have hHeld : (fun w' => Bo w' b m d base S2 s L2 (2 * j + 1 + 1)) v2 := BO.out
        refine oneL (i := 4) (by kernel_rfl) rfl (fun K hK => ?_)
        go_simp
        refine (sameStep_S S2 v2).mono ?_
        rintro e v3 ⟨rfl, hb⟩
        replace BO := hide (BO.out.below hb)
        replace B := hide (B.out.trans (hb.mono B.out.size))
        clear hb
        refine hK.out _ _ ?_ ?_
        · exact BO.out
        clear hK K
        try simp only [Act.put, List.setIfInBounds_toArray, List.set_cons_zero, List.set_cons_succ]
        clear hHeld
        have hHeld : (fun w' => Bo w' b m d base S2 s L2 (2 * j + 1 + 1)) v3 := BO.out
        refine pickA (v := ?_) 5 (some 83) rfl rfl (by kernel_rfl) (by kernel_rfl) (by kernel_rfl) (by decide) (fun _ _ _ h => h) (by rfl) ?_ (by assumption) ?_
        rotate_left
        · intro w'
          go_simp
          try with_reducible rfl
        try simp only [Act.put, List.setIfInBounds_toArray, List.set_cons_zero, List.set_cons_succ]
        refine pickA (v := ?_) 6 (some 84) rfl rfl (by kernel_rfl) (by kernel_rfl) (by kernel_rfl) (by decide) (fun _ _ _ h => h) (by rfl) ?_ (by assumption) ?_
        rotate_left
        · intro w'
          go_simp
          try with_reducible rfl
        try simp only [Act.put, List.setIfInBounds_toArray, List.set_cons_zero, List.set_cons_succ]
        refine pickA (v := ?_) 7 (some 85) rfl rfl (by kernel_rfl) (by kernel_rfl) (by kernel_rfl) (by decide) (fun _ _ _ h => h) (by rfl) ?_ (by assumption) ?_
        rotate_left
        · intro w'
          go_simp
          try with_reducible rfl
        try simp only [Act.put, List.setIfInBounds_toArray, List.set_cons_zero, List.set_cons_succ]
        refine pickA (v := ?_) 9 (some 87) rfl rfl (by kernel_rfl) (by kernel_rfl) (by kernel_rfl) (by decide) (fun _ _ _ h => h) (by rfl) ?_ (by assumption) ?_
        rotate_left
        · intro w'
          go_simp
          try with_reducible rfl
        try simp only [Act.put, List.setIfInBounds_toArray, List.set_cons_zero, List.set_cons_succ]
        refine pickA (v := ?_) 10 (some 88) rfl rfl (by kernel_rfl) (by kernel_rfl) (by kernel_rfl) (by decide) (fun _ _ _ h => h) (by rfl) ?_ (by assumption) ?_
        rotate_left
        · intro w'
          go_simp
          try with_reducible rfl
        try simp only [Act.put, List.setIfInBounds_toArray, List.set_cons_zero, List.set_cons_succ]
        refine pickA (v := ?_) 11 (some 89) rfl rfl (by kernel_rfl) (by kernel_rfl) (by kernel_rfl) (by decide) (fun _ _ _ h => h) (by rfl) ?_ (by assumption) ?_
        rotate_left
        · intro w'
          go_simp
          try with_reducible rfl
        try simp only [Act.put, List.setIfInBounds_toArray, List.set_cons_zero, List.set_cons_succ]
        refine pickL (v := .int .i64 S2.n) 12 (some 90) rfl rfl (by kernel_rfl) (by kernel_rfl) (by kernel_rfl) (by decide) (by kernel_rfl) (by kernel_rfl) (fun _ _ _ h => h) (by rfl) ?_ (by assumption) ?_
        · intro w' hSw
          obtain ⟨to8, v8, -, D8⟩ := hSw.D; have zn := c_n D8.blk
          go_simp
        try simp only [Act.put, List.setIfInBounds_toArray, List.set_cons_zero, List.set_cons_succ]
        refine oneL (i := 8) (by kernel_rfl) rfl (fun K hK => ?_)
        go_simp
        refine (tries_any b m S2 (L2.map Wl.pr) v3 BO.out.X).mono ?_
        rintro e v4 ⟨rfl, hw⟩
        rw [hw]
        clear hw v4
        refine hK.out _ _ ?_ ?_
        · exact BO.out
        clear hK K
        try simp only [Act.put, List.setIfInBounds_toArray, List.set_cons_zero, List.set_cons_succ]
        refine pickA (v := .bool false) 13 (some 91) rfl rfl (by kernel_rfl) (by kernel_rfl) (by kernel_rfl) (by decide) (fun _ _ _ h => h) (by rfl) ?_ (by assumption) ?_
        · intro w'
          go_simp
          try simp
        try simp only [Act.put, List.setIfInBounds_toArray, List.set_cons_zero, List.set_cons_succ]
        refine pickA (v := ?_) 14 (some 92) rfl rfl (by kernel_rfl) (by kernel_rfl) (by kernel_rfl) (by decide) (fun _ _ _ h => h) (by rfl) ?_ (by assumption) ?_
        rotate_left
        · intro w'
          go_simp
          try with_reducible rfl
        try simp only [Act.put, List.setIfInBounds_toArray, List.set_cons_zero, List.set_cons_succ]
        refine doneL (by kernel_rfl) ?_ _
        clear hHeld
        go_wp2
        exact ⟨⟨j + 1, S2, L2, by omega, by omega, by simp, hide ⟨BO.out.X, BO.out.D, BO.out.ok, BO.out.hd, by have := BO.out.hL; omega, BO.out.z⟩, B⟩, by simp [intOf]; omega⟩
      · replace BO := hide (BO.out.below ((Below.refl _ _).drew))
        replace B := hide B.out.drew
        refine regionL 15 (fun w' => Bo w' b m d base S1 s L1 (2 * j + 1)) mixed BO.out (fun hHeld => ?_)
        generalize w2.drew = WD at *
        refine pickA (v := ?_) 0 (some 78) rfl rfl (by kernel_rfl) (by kernel_rfl) (by kernel_rfl) (by decide) (fun _ _ _ h => h) (by rfl) ?_ (by assumption) ?_
        rotate_left
        · intro w'
          go_simp
          try with_reducible rfl
        try simp only [Act.put, List.setIfInBounds_toArray, List.set_cons_zero, List.set_cons_succ]
        refine pickA (v := ?_) 2 (some 80) rfl rfl (by kernel_rfl) (by kernel_rfl) (by kernel_rfl) (by decide) (fun _ _ _ h => h) (by rfl) ?_ (by assumption) ?_
        rotate_left
        · intro w'
          go_simp
          try with_reducible rfl
        try simp only [Act.put, List.setIfInBounds_toArray, List.set_cons_zero, List.set_cons_succ]
        refine oneL (i := 1) (by kernel_rfl) rfl (fun K hK => ?_)
        go_simp
        refine (next_any b m S1 (L1.map Wl.pr) WD BO.out.X).mono ?_
        rintro e v1 ⟨rfl, hb⟩
        replace BO := hide (BO.out.below hb)
        replace B := hide (B.out.trans (hb.mono B.out.size))
        clear hb
        refine hK.out _ _ ?_ ?_
        · exact BO.out
        clear hK K
        try simp only [Act.put, List.setIfInBounds_toArray, List.set_cons_zero, List.set_cons_succ]
        clear hHeld
        have hHeld : (fun w' => Bo w' b m d base S1 s L1 (2 * j + 1)) v1 := BO.out
        refine oneL (i := 3) (by kernel_rfl) rfl (fun K hK => ?_)
        go_simp
        refine (dnext_any d base S1 s L1 v1 BO.out.D).mono ?_
        rintro e v2 ⟨rfl, hb⟩
        replace BO := hide (BO.out.below hb)
        replace B := hide (B.out.trans (hb.mono B.out.size))
        clear hb
        refine hK.out _ _ ?_ ?_
        · exact BO.out
        clear hK K
        try simp only [Act.put, List.setIfInBounds_toArray, List.set_cons_zero, List.set_cons_succ]
        clear hHeld
        have hHeld : (fun w' => Bo w' b m d base S1 s L1 (2 * j + 1)) v2 := BO.out
        refine oneL (i := 4) (by kernel_rfl) rfl (fun K hK => ?_)
        go_simp
        refine (sameStep_S S1 v2).mono ?_
        rintro e v3 ⟨rfl, hb⟩
        replace BO := hide (BO.out.below hb)
        replace B := hide (B.out.trans (hb.mono B.out.size))
        clear hb
        refine hK.out _ _ ?_ ?_
        · exact BO.out
        clear hK K
        try simp only [Act.put, List.setIfInBounds_toArray, List.set_cons_zero, List.set_cons_succ]
        clear hHeld
        have hHeld : (fun w' => Bo w' b m d base S1 s L1 (2 * j + 1)) v3 := BO.out
        refine pickA (v := ?_) 5 (some 83) rfl rfl (by kernel_rfl) (by kernel_rfl) (by kernel_rfl) (by decide) (fun _ _ _ h => h) (by rfl) ?_ (by assumption) ?_
        rotate_left
        · intro w'
          go_simp
          try with_reducible rfl
        try simp only [Act.put, List.setIfInBounds_toArray, List.set_cons_zero, List.set_cons_succ]
        refine pickA (v := ?_) 6 (some 84) rfl rfl (by kernel_rfl) (by kernel_rfl) (by kernel_rfl) (by decide) (fun _ _ _ h => h) (by rfl) ?_ (by assumption) ?_
        rotate_left
        · intro w'
          go_simp
          try with_reducible rfl
        try simp only [Act.put, List.setIfInBounds_toArray, List.set_cons_zero, List.set_cons_succ]
        refine pickA (v := ?_) 7 (some 85) rfl rfl (by kernel_rfl) (by kernel_rfl) (by kernel_rfl) (by decide) (fun _ _ _ h => h) (by rfl) ?_ (by assumption) ?_
        rotate_left
        · intro w'
          go_simp
          try with_reducible rfl
        try simp only [Act.put, List.setIfInBounds_toArray, List.set_cons_zero, List.set_cons_succ]
        refine pickA (v := ?_) 9 (some 87) rfl rfl (by kernel_rfl) (by kernel_rfl) (by kernel_rfl) (by decide) (fun _ _ _ h => h) (by rfl) ?_ (by assumption) ?_
        rotate_left
        · intro w'
          go_simp
          try with_reducible rfl
        try simp only [Act.put, List.setIfInBounds_toArray, List.set_cons_zero, List.set_cons_succ]
        refine pickA (v := ?_) 10 (some 88) rfl rfl (by kernel_rfl) (by kernel_rfl) (by kernel_rfl) (by decide) (fun _ _ _ h => h) (by rfl) ?_ (by assumption) ?_
        rotate_left
        · intro w'
          go_simp
          try with_reducible rfl
        try simp only [Act.put, List.setIfInBounds_toArray, List.set_cons_zero, List.set_cons_succ]
        refine pickA (v := ?_) 11 (some 89) rfl rfl (by kernel_rfl) (by kernel_rfl) (by kernel_rfl) (by decide) (fun _ _ _ h => h) (by rfl) ?_ (by assumption) ?_
        rotate_left
        · intro w'
          go_simp
          try with_reducible rfl
        try simp only [Act.put, List.setIfInBounds_toArray, List.set_cons_zero, List.set_cons_succ]
        refine pickL (v := .int .i64 S1.n) 12 (some 90) rfl rfl (by kernel_rfl) (by kernel_rfl) (by kernel_rfl) (by decide) (by kernel_rfl) (by kernel_rfl) (fun _ _ _ h => h) (by rfl) ?_ (by assumption) ?_
        · intro w' hSw
          obtain ⟨to8, v8, -, D8⟩ := hSw.D; have zn := c_n D8.blk
          go_simp
        try simp only [Act.put, List.setIfInBounds_toArray, List.set_cons_zero, List.set_cons_succ]
        refine oneL (i := 8) (by kernel_rfl) rfl (fun K hK => ?_)
        go_simp
        refine (tries_any b m S1 (L1.map Wl.pr) v3 BO.out.X).mono ?_
        rintro e v4 ⟨rfl, hw⟩
        rw [hw]
        clear hw v4
        refine hK.out _ _ ?_ ?_
        · exact BO.out
        clear hK K
        try simp only [Act.put, List.setIfInBounds_toArray, List.set_cons_zero, List.set_cons_succ]
        refine pickA (v := .bool false) 13 (some 91) rfl rfl (by kernel_rfl) (by kernel_rfl) (by kernel_rfl) (by decide) (fun _ _ _ h => h) (by rfl) ?_ (by assumption) ?_
        · intro w'
          go_simp
          try simp
        try simp only [Act.put, List.setIfInBounds_toArray, List.set_cons_zero, List.set_cons_succ]
        refine pickA (v := ?_) 14 (some 92) rfl rfl (by kernel_rfl) (by kernel_rfl) (by kernel_rfl) (by decide) (fun _ _ _ h => h) (by rfl) ?_ (by assumption) ?_
        rotate_left
        · intro w'
          go_simp
          try with_reducible rfl
        try simp only [Act.put, List.setIfInBounds_toArray, List.set_cons_zero, List.set_cons_succ]
        refine doneL (by kernel_rfl) ?_ _
        clear hHeld
        go_wp2
        exact ⟨⟨j + 1, S1, L1, by omega, by omega, by simp, hide ⟨BO.out.X, BO.out.D, BO.out.ok, BO.out.hd, by have := BO.out.hL; omega, BO.out.z⟩, B⟩, by simp [intOf]; omega⟩
    · refine (dead_any b m S1 (L1.map Wl.pr) aj BO.out.ok hAj.out w2 (HRb.out.below B.out) BO.out.X).mono ?_
      rintro e w4 ⟨rfl, X1, K1⟩
      have D1 := BO.out.D.kp K1 BO.out.X
      replace B := hide (B.out.trans (K1.to_below B.out.size (fun k hk => by simp only [List.mem_cons, List.not_mem_nil, or_false] at hk; rcases hk with rfl | rfl <;> first | exact hBb.out | exact hBm.out)))
      clear LA K1
      have LA := hide (OA.out _ B.out)
      replace X1 := hide X1
      go_wp2_with (first | (focus ((with_reducible refine wpList_load_w ?_ 45 (.tmp 75) ?_ ?_ LA.out ?_); rotate_left; rfl; rfl; rotate_left; rfl)))
      refine (ddead_any d base S1 s L1 aj (BO.out.pre (by omega)) w4 D1).mono ?_
      rintro e w5 ⟨rfl, D2, K2⟩
      replace B := hide (B.out.trans ((K2.below D1.size).mono hBs.out))
      replace BO := hide (BO.out.died hAj.out X1.out K2 D2)
      clear X1 D1 D2 K2 LA
      obtain ⟨S2, hS2⟩ : ∃ z, (S1.dead (L1.map Wl.pr) aj).1 = z := ⟨_, rfl⟩
      obtain ⟨L2, hL2⟩ : ∃ z, S1.deadL L1 aj = z := ⟨_, rfl⟩
      rw [hS2, hL2] at BO
      clear hS2 hL2
      go_wp2_with fail
      replace BO := hide (BO.out.below ((Below.refl _ _).drew))
      replace B := hide B.out.drew
      refine regionL 15 (fun w' => Bo w' b m d base S2 s L2 (2 * j + 1 + 1)) mixed BO.out (fun hHeld => ?_)
      generalize w5.drew = WD at *
      refine pickA (v := ?_) 0 (some 78) rfl rfl (by kernel_rfl) (by kernel_rfl) (by kernel_rfl) (by decide) (fun _ _ _ h => h) (by rfl) ?_ (by assumption) ?_
      rotate_left
      · intro w'
        go_simp
        try with_reducible rfl
      try simp only [Act.put, List.setIfInBounds_toArray, List.set_cons_zero, List.set_cons_succ]
      refine pickA (v := ?_) 2 (some 80) rfl rfl (by kernel_rfl) (by kernel_rfl) (by kernel_rfl) (by decide) (fun _ _ _ h => h) (by rfl) ?_ (by assumption) ?_
      rotate_left
      · intro w'
        go_simp
        try with_reducible rfl
      try simp only [Act.put, List.setIfInBounds_toArray, List.set_cons_zero, List.set_cons_succ]
      refine oneL (i := 1) (by kernel_rfl) rfl (fun K hK => ?_)
      go_simp
      refine (next_any b m S2 (L2.map Wl.pr) WD BO.out.X).mono ?_
      rintro e v1 ⟨rfl, hb⟩
      replace BO := hide (BO.out.below hb)
      replace B := hide (B.out.trans (hb.mono B.out.size))
      clear hb
      refine hK.out _ _ ?_ ?_
      · exact BO.out
      clear hK K
      try simp only [Act.put, List.setIfInBounds_toArray, List.set_cons_zero, List.set_cons_succ]
      clear hHeld
      have hHeld : (fun w' => Bo w' b m d base S2 s L2 (2 * j + 1 + 1)) v1 := BO.out
      refine oneL (i := 3) (by kernel_rfl) rfl (fun K hK => ?_)
      go_simp
      refine (dnext_any d base S2 s L2 v1 BO.out.D).mono ?_
      rintro e v2 ⟨rfl, hb⟩
      replace BO := hide (BO.out.below hb)
      replace B := hide (B.out.trans (hb.mono B.out.size))
      clear hb
      refine hK.out _ _ ?_ ?_
      · exact BO.out
      clear hK K
      try simp only [Act.put, List.setIfInBounds_toArray, List.set_cons_zero, List.set_cons_succ]
      clear hHeld
      have hHeld : (fun w' => Bo w' b m d base S2 s L2 (2 * j + 1 + 1)) v2 := BO.out
      refine oneL (i := 4) (by kernel_rfl) rfl (fun K hK => ?_)
      go_simp
      refine (sameStep_S S2 v2).mono ?_
      rintro e v3 ⟨rfl, hb⟩
      replace BO := hide (BO.out.below hb)
      replace B := hide (B.out.trans (hb.mono B.out.size))
      clear hb
      refine hK.out _ _ ?_ ?_
      · exact BO.out
      clear hK K
      try simp only [Act.put, List.setIfInBounds_toArray, List.set_cons_zero, List.set_cons_succ]
      clear hHeld
      have hHeld : (fun w' => Bo w' b m d base S2 s L2 (2 * j + 1 + 1)) v3 := BO.out
      refine pickA (v := ?_) 5 (some 83) rfl rfl (by kernel_rfl) (by kernel_rfl) (by kernel_rfl) (by decide) (fun _ _ _ h => h) (by rfl) ?_ (by assumption) ?_
      rotate_left
      · intro w'
        go_simp
        try with_reducible rfl
      try simp only [Act.put, List.setIfInBounds_toArray, List.set_cons_zero, List.set_cons_succ]
      refine pickA (v := ?_) 6 (some 84) rfl rfl (by kernel_rfl) (by kernel_rfl) (by kernel_rfl) (by decide) (fun _ _ _ h => h) (by rfl) ?_ (by assumption) ?_
      rotate_left
      · intro w'
        go_simp
        try with_reducible rfl
      try simp only [Act.put, List.setIfInBounds_toArray, List.set_cons_zero, List.set_cons_succ]
      refine pickA (v := ?_) 7 (some 85) rfl rfl (by kernel_rfl) (by kernel_rfl) (by kernel_rfl) (by decide) (fun _ _ _ h => h) (by rfl) ?_ (by assumption) ?_
      rotate_left
      · intro w'
        go_simp
        try with_reducible rfl
      try simp only [Act.put, List.setIfInBounds_toArray, List.set_cons_zero, List.set_cons_succ]
      refine pickA (v := ?_) 9 (some 87) rfl rfl (by kernel_rfl) (by kernel_rfl) (by kernel_rfl) (by decide) (fun _ _ _ h => h) (by rfl) ?_ (by assumption) ?_
      rotate_left
      · intro w'
        go_simp
        try with_reducible rfl
      try simp only [Act.put, List.setIfInBounds_toArray, List.set_cons_zero, List.set_cons_succ]
      refine pickA (v := ?_) 10 (some 88) rfl rfl (by kernel_rfl) (by kernel_rfl) (by kernel_rfl) (by decide) (fun _ _ _ h => h) (by rfl) ?_ (by assumption) ?_
      rotate_left
      · intro w'
        go_simp
        try with_reducible rfl
      try simp only [Act.put, List.setIfInBounds_toArray, List.set_cons_zero, List.set_cons_succ]
      refine pickA (v := ?_) 11 (some 89) rfl rfl (by kernel_rfl) (by kernel_rfl) (by kernel_rfl) (by decide) (fun _ _ _ h => h) (by rfl) ?_ (by assumption) ?_
      rotate_left
      · intro w'
        go_simp
        try with_reducible rfl
      try simp only [Act.put, List.setIfInBounds_toArray, List.set_cons_zero, List.set_cons_succ]
      refine pickL (v := .int .i64 S2.n) 12 (some 90) rfl rfl (by kernel_rfl) (by kernel_rfl) (by kernel_rfl) (by decide) (by kernel_rfl) (by kernel_rfl) (fun _ _ _ h => h) (by rfl) ?_ (by assumption) ?_
      · intro w' hSw
        obtain ⟨to8, v8, -, D8⟩ := hSw.D; have zn := c_n D8.blk
        go_simp
      try simp only [Act.put, List.setIfInBounds_toArray, List.set_cons_zero, List.set_cons_succ]
      refine oneL (i := 8) (by kernel_rfl) rfl (fun K hK => ?_)
      go_simp
      refine (tries_any b m S2 (L2.map Wl.pr) v3 BO.out.X).mono ?_
      rintro e v4 ⟨rfl, hw⟩
      rw [hw]
      clear hw v4
      refine hK.out _ _ ?_ ?_
      · exact BO.out
      clear hK K
      try simp only [Act.put, List.setIfInBounds_toArray, List.set_cons_zero, List.set_cons_succ]
      refine pickA (v := .bool false) 13 (some 91) rfl rfl (by kernel_rfl) (by kernel_rfl) (by kernel_rfl) (by decide) (fun _ _ _ h => h) (by rfl) ?_ (by assumption) ?_
      · intro w'
        go_simp
        try simp
      try simp only [Act.put, List.setIfInBounds_toArray, List.set_cons_zero, List.set_cons_succ]
      refine pickA (v := ?_) 14 (some 92) rfl rfl (by kernel_rfl) (by kernel_rfl) (by kernel_rfl) (by decide) (fun _ _ _ h => h) (by rfl) ?_ (by assumption) ?_
      rotate_left
      · intro w'
        go_simp
        try with_reducible rfl
      try simp only [Act.put, List.setIfInBounds_toArray, List.set_cons_zero, List.set_cons_succ]
      refine doneL (by kernel_rfl) ?_ _
      clear hHeld
      go_wp2
      exact ⟨⟨j + 1, S2, L2, by omega, by omega, by simp, hide ⟨BO.out.X, BO.out.D, BO.out.ok, BO.out.hd, by have := BO.out.hL; omega, BO.out.z⟩, B⟩, by simp [intOf]; omega⟩
    · replace BO := hide (BO.out.below ((Below.refl _ _).drew))
      replace B := hide B.out.drew
      refine regionL 15 (fun w' => Bo w' b m d base S1 s L1 (2 * j + 1)) mixed BO.out (fun hHeld => ?_)
      generalize w2.drew = WD at *
      refine pickA (v := ?_) 0 (some 78) rfl rfl (by kernel_rfl) (by kernel_rfl) (by kernel_rfl) (by decide) (fun _ _ _ h => h) (by rfl) ?_ (by assumption) ?_
      rotate_left
      · intro w'
        go_simp
        try with_reducible rfl
      try simp only [Act.put, List.setIfInBounds_toArray, List.set_cons_zero, List.set_cons_succ]
      refine pickA (v := ?_) 2 (some 80) rfl rfl (by kernel_rfl) (by kernel_rfl) (by kernel_rfl) (by decide) (fun _ _ _ h => h) (by rfl) ?_ (by assumption) ?_
      rotate_left
      · intro w'
        go_simp
        try with_reducible rfl
      try simp only [Act.put, List.setIfInBounds_toArray, List.set_cons_zero, List.set_cons_succ]
      refine oneL (i := 1) (by kernel_rfl) rfl (fun K hK => ?_)
      go_simp
      refine (next_any b m S1 (L1.map Wl.pr) WD BO.out.X).mono ?_
      rintro e v1 ⟨rfl, hb⟩
      replace BO := hide (BO.out.below hb)
      replace B := hide (B.out.trans (hb.mono B.out.size))
      clear hb
      refine hK.out _ _ ?_ ?_
      · exact BO.out
      clear hK K
      try simp only [Act.put, List.setIfInBounds_toArray, List.set_cons_zero, List.set_cons_succ]
      clear hHeld
      have hHeld : (fun w' => Bo w' b m d base S1 s L1 (2 * j + 1)) v1 := BO.out
      refine oneL (i := 3) (by kernel_rfl) rfl (fun K hK => ?_)
      go_simp
      refine (dnext_any d base S1 s L1 v1 BO.out.D).mono ?_
      rintro e v2 ⟨rfl, hb⟩
      replace BO := hide (BO.out.below hb)
      replace B := hide (B.out.trans (hb.mono B.out.size))
      clear hb
      refine hK.out _ _ ?_ ?_
      · exact BO.out
      clear hK K
      try simp only [Act.put, List.setIfInBounds_toArray, List.set_cons_zero, List.set_cons_succ]
      clear hHeld
      have hHeld : (fun w' => Bo w' b m d base S1 s L1 (2 * j + 1)) v2 := BO.out
      refine oneL (i := 4) (by kernel_rfl) rfl (fun K hK => ?_)
      go_simp
      refine (sameStep_S S1 v2).mono ?_
      rintro e v3 ⟨rfl, hb⟩
      replace BO := hide (BO.out.below hb)
      replace B := hide (B.out.trans (hb.mono B.out.size))
      clear hb
      refine hK.out _ _ ?_ ?_
      · exact BO.out
      clear hK K
      try simp only [Act.put, List.setIfInBounds_toArray, List.set_cons_zero, List.set_cons_succ]
      clear hHeld
      have hHeld : (fun w' => Bo w' b m d base S1 s L1 (2 * j + 1)) v3 := BO.out
      refine pickA (v := ?_) 5 (some 83) rfl rfl (by kernel_rfl) (by kernel_rfl) (by kernel_rfl) (by decide) (fun _ _ _ h => h) (by rfl) ?_ (by assumption) ?_
      rotate_left
      · intro w'
        go_simp
        try with_reducible rfl
      try simp only [Act.put, List.setIfInBounds_toArray, List.set_cons_zero, List.set_cons_succ]
      refine pickA (v := ?_) 6 (some 84) rfl rfl (by kernel_rfl) (by kernel_rfl) (by kernel_rfl) (by decide) (fun _ _ _ h => h) (by rfl) ?_ (by assumption) ?_
      rotate_left
      · intro w'
        go_simp
        try with_reducible rfl
      try simp only [Act.put, List.setIfInBounds_toArray, List.set_cons_zero, List.set_cons_succ]
      refine pickA (v := ?_) 7 (some 85) rfl rfl (by kernel_rfl) (by kernel_rfl) (by kernel_rfl) (by decide) (fun _ _ _ h => h) (by rfl) ?_ (by assumption) ?_
      rotate_left
      · intro w'
        go_simp
        try with_reducible rfl
      try simp only [Act.put, List.setIfInBounds_toArray, List.set_cons_zero, List.set_cons_succ]
      refine pickA (v := ?_) 9 (some 87) rfl rfl (by kernel_rfl) (by kernel_rfl) (by kernel_rfl) (by decide) (fun _ _ _ h => h) (by rfl) ?_ (by assumption) ?_
      rotate_left
      · intro w'
        go_simp
        try with_reducible rfl
      try simp only [Act.put, List.setIfInBounds_toArray, List.set_cons_zero, List.set_cons_succ]
      refine pickA (v := ?_) 10 (some 88) rfl rfl (by kernel_rfl) (by kernel_rfl) (by kernel_rfl) (by decide) (fun _ _ _ h => h) (by rfl) ?_ (by assumption) ?_
      rotate_left
      · intro w'
        go_simp
        try with_reducible rfl
      try simp only [Act.put, List.setIfInBounds_toArray, List.set_cons_zero, List.set_cons_succ]
      refine pickA (v := ?_) 11 (some 89) rfl rfl (by kernel_rfl) (by kernel_rfl) (by kernel_rfl) (by decide) (fun _ _ _ h => h) (by rfl) ?_ (by assumption) ?_
      rotate_left
      · intro w'
        go_simp
        try with_reducible rfl
      try simp only [Act.put, List.setIfInBounds_toArray, List.set_cons_zero, List.set_cons_succ]
      refine pickL (v := .int .i64 S1.n) 12 (some 90) rfl rfl (by kernel_rfl) (by kernel_rfl) (by kernel_rfl) (by decide) (by kernel_rfl) (by kernel_rfl) (fun _ _ _ h => h) (by rfl) ?_ (by assumption) ?_
      · intro w' hSw
        obtain ⟨to8, v8, -, D8⟩ := hSw.D; have zn := c_n D8.blk
        go_simp
      try simp only [Act.put, List.setIfInBounds_toArray, List.set_cons_zero, List.set_cons_succ]
      refine oneL (i := 8) (by kernel_rfl) rfl (fun K hK => ?_)
      go_simp
      refine (tries_any b m S1 (L1.map Wl.pr) v3 BO.out.X).mono ?_
      rintro e v4 ⟨rfl, hw⟩
      rw [hw]
      clear hw v4
      refine hK.out _ _ ?_ ?_
      · exact BO.out
      clear hK K
      try simp only [Act.put, List.setIfInBounds_toArray, List.set_cons_zero, List.set_cons_succ]
      refine pickA (v := .bool false) 13 (some 91) rfl rfl (by kernel_rfl) (by kernel_rfl) (by kernel_rfl) (by decide) (fun _ _ _ h => h) (by rfl) ?_ (by assumption) ?_
      · intro w'
        go_simp
        try simp
      try simp only [Act.put, List.setIfInBounds_toArray, List.set_cons_zero, List.set_cons_succ]
      refine pickA (v := ?_) 14 (some 92) rfl rfl (by kernel_rfl) (by kernel_rfl) (by kernel_rfl) (by decide) (fun _ _ _ h => h) (by rfl) ?_ (by assumption) ?_
      rotate_left
      · intro w'
        go_simp
        try with_reducible rfl
      try simp only [Act.put, List.setIfInBounds_toArray, List.set_cons_zero, List.set_cons_succ]
      refine doneL (by kernel_rfl) ?_ _
      clear hHeld
      go_wp2
      exact ⟨⟨j + 1, S1, L1, by omega, by omega, by simp, hide ⟨BO.out.X, BO.out.D, BO.out.ok, BO.out.hd, by have := BO.out.hL; omega, BO.out.z⟩, B⟩, by simp [intOf]; omega⟩

theorem runs_any (h : Int) (s : Rf) (tr tn : Int) (va0 : Value) (l : List An) (hl : ∀ a ∈ l, AOk a) (hb0 : 0 ≤ s.bt) (hi0 : (Lit.int .i64 s.id).wf = true) (w : World) (hR : Ranks w) (hO : AnSl w va0 l) : Calls Tryd.prog 3 #[.agg (cfL h s tr tn).toArray, va0] w fun e w' => e = .returned (.bool true) ∧ Below w.heap.size w w' := by
  cases hm : mayC h s tr tn with
  | false => exact runs_bad h s tr tn va0 l hl hb0 hi0 hm w hR hO
  | true => exact runs_good h s tr tn va0 l hl hb0 hi0 hm w hR hO

end Go.Proofs.YtdkadggcaobaaaaDoor
