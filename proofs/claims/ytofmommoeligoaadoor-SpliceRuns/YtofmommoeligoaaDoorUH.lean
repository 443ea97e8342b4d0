/- SpliceRuns walked. -/
import Derived.Test.YtofmommoeligoaaDoorTY
import Derived.Test.YtofmommoeligoaaDoorTK
import Derived.Test.YtofmommoeligoaaDoorUG
namespace Go.Proofs.YtofmommoeligoaaDoor
open Go.RowKit Go.Maps Go.ChangeMaps

theorem sn_s (w : World) : (binOp .eql 35 (.pointer none) (.pointer none)).run Tryd.prog w = .ok (.bool true) w := by kernel_rfl
theorem sn_d (w : World) : (binOp .eql 39 (.pointer none) (.pointer none)).run Tryd.prog w = .ok (.bool true) w := by kernel_rfl
theorem se_d (a : Addr) (w : World) : (binOp .eql 39 (.pointer (some a)) (.pointer none)).run Tryd.prog w = .ok (.bool false) w := by kernel_rfl
theorem SpAt.kpd {w w' : World} {b d : Nat} {S : Sp} {t : Option Th} {D : Ds} (X : SpAt w b S t) (I : IsB w d (dsL D).toArray 94) (k : Kp [d] w w') : SpAt w' b S t := by
  obtain ⟨v, J, T⟩ := X
  exact ⟨v, J.kp k (by simp only [List.mem_singleton]; exact fun e => IsB.ne_t J I (by decide) e), T.kp k fun k hk cs => by
    simp only [List.mem_singleton] at hk
    subst hk
    exact ⟨fun J => IsB.ne_t I J (by decide) rfl, fun J => IsB.ne_t I J (by decide) rfl⟩⟩

set_option maxHeartbeats 1000000 in
set_option maxRecDepth 100000 in
theorem runs_bad (wl wb : Int) (me fr : Rf) (oa oo : Int) (v : Value) (hb0 : 0 ≤ me.bt) (hc0 : 0 ≤ wb) (hm : mayC wl wb me fr oa oo = false) (w : World) (hR : Ranks w) : Calls Tryd.prog 3 #[.agg (cfL wl wb me fr oa oo).toArray, v] w fun e w' => e = .returned (.bool true) ∧ Below w.heap.size w w' := by
  have b1 := (Below.refl w.heap.size w).alloc (Nat.le_refl _) (.cells (cfL wl wb me fr oa oo).toArray 33)
  have CB := hide (IsB.new w (cfL wl wb me fr oa oo).toArray 33)
  have HR := hide (hR.below b1)
  have B := hide b1
  have L0 := hide (ld_cconf CB.out)
  clear b1 hR
  have NB := hide (new_bad wl wb me fr oa oo hb0 hc0 hm _ HR.out)
  go_enter Tryd.func3, Tryd.ntmps3
  go_wp2_with (first | (focus ((with_reducible refine wpList_load_w ?_ 33 (.tmp 2) ?_ ?_ L0.out ?_); rotate_left; rfl; rfl; rotate_left; rfl)))
  refine NB.out.mono ?_
  rintro e w2 ⟨rfl, hb⟩
  replace CB := hide (CB.out.below hb)
  replace HR := hide (HR.out.below hb)
  replace B := hide (B.out.trans (hb.mono B.out.size))
  clear hb NB L0
  have L0 := hide (ld_cconf CB.out)
  have RB := hide (rnew_bad wl wb me fr oa oo hb0 hc0 hm w2)
  clear hm
  go_wp2_with (first | (focus ((with_reducible refine wpList_load_w ?_ 33 (.tmp 2) ?_ ?_ L0.out ?_); rotate_left; rfl; rfl; rotate_left; rfl)))
  refine RB.out.mono ?_
  rintro e w3 ⟨rfl, hb⟩
  replace HR := hide (HR.out.below hb)
  replace B := hide (B.out.trans (hb.mono B.out.size))
  clear hb RB L0 CB
  have n1 := sn_s w3
  have n2 := sn_d w3
  go_wp2_with fail
  refine (alive_any w3 HR.out).mono ?_
  rintro e w4 ⟨rfl, hb⟩
  replace B := hide (B.out.trans (hb.mono B.out.size))
  clear hb
  go_wp2
  go_ret
  exact ⟨rfl, B.out⟩

set_option maxHeartbeats 1000000 in
set_option maxRecDepth 100000 in
theorem runs_good (wl wb : Int) (me fr : Rf) (oa oo : Int) (va0 : Value) (l : List (Bool × An)) (hb0 : 0 ≤ me.bt) (hc0 : 0 ≤ wb) (hm : mayC wl wb me fr oa oo = true) (w : World) (hR : Ranks w) (hO : OpSl w va0 l) : Calls Tryd.prog 3 #[.agg (cfL wl wb me fr oa oo).toArray, va0] w fun e w' => e = .returned (.bool true) ∧ Below w.heap.size w w' := by
  have HRb := hide hR
  obtain ⟨va, vc, rfl, -, -⟩ := hO.shape
  have OP := hide hO
  clear hO
  have b1 := (Below.refl w.heap.size w).alloc (Nat.le_refl _) (.cells (cfL wl wb me fr oa oo).toArray 33)
  have CB := hide (IsB.new w (cfL wl wb me fr oa oo).toArray 33)
  have HR := hide (hR.below b1)
  have B := hide b1
  have L0 := hide (ld_cconf CB.out)
  clear b1 hR
  have NB := hide (new_ok wl wb me fr oa oo hb0 hc0 hm _ HR.out)
  generalize hn : l.length = n at *
  replace hn := hide hn
  go_enter Tryd.func3, Tryd.ntmps3
  go_wp2_with (first | (focus ((with_reducible refine wpList_load_w ?_ 33 (.tmp 2) ?_ ?_ L0.out ?_); rotate_left; rfl; rfl; rotate_left; rfl)))
  refine NB.out.mono ?_
  rintro e w2 ⟨b, rfl, X0, hle, hb⟩
  have hBb : Hid (w.heap.size ≤ b) := Nat.le_trans B.out.size hle
  replace CB := hide (CB.out.below hb)
  replace B := hide (B.out.trans (hb.mono B.out.size))
  have X := hide X0
  clear hb NB L0 X0 hle HR
  have L0 := hide (ld_cconf CB.out)
  have RB := hide (rnew_ok wl wb me fr oa oo hb0 hc0 hm w2)
  clear hm
  go_wp2_with (first | (focus ((with_reducible refine wpList_load_w ?_ 33 (.tmp 2) ?_ ?_ L0.out ?_); rotate_left; rfl; rfl; rotate_left; rfl)))
  refine RB.out.mono ?_
  rintro e w3 ⟨d, rfl, ID0, hle, hb⟩
  have hBd : Hid (w.heap.size ≤ d) := Nat.le_trans B.out.size hle
  replace X := hide (X.out.below hb)
  replace B := hide (B.out.trans (hb.mono B.out.size))
  have ID := hide ID0
  clear hb RB L0 ID0 hle CB
  have n1 := ptr_eq ⟨b, 0, none⟩ w3
  have n2 := se_d ⟨d, 0, none⟩ w3
  go_wp2
  clear n1 n2
  go_loopw [9] (fun v9 wr => ∃ (j : Nat) (D : Ds) (S : Sp) (t : Option Th), j ≤ n ∧ j ≤ 80 ∧ v9 = .int .i64 (j : Int) ∧ Hid (SOk S t) ∧ Hid (Sim D S t) ∧ Hid (SpAt wr b S t) ∧ Hid (IsB wr d (dsL D).toArray 94) ∧ Hid (Below w.heap.size w wr)) (fun v9 _ => n - (intOf v9).toNat)
  case atStart => exact ⟨0, newD wl wb me fr oa oo, newS wl wb me fr oa oo, none, by omega, by omega, rfl, ⟨Or.inl rfl, fun h => absurd (show (1 : Int) = 9 from h) (by decide), (fun h => by cases h)⟩, Sim.new wl wb me fr oa oo, X, ID, B⟩
  case round =>
    clear X ID B
    obtain ⟨j, D, S, t, hj, hj80, rfl, ok, sim, X, ID, B⟩ := hrel
    by_cases hlt0 : j < n ∧ j < 80
    rotate_left
    · by_cases h80 : j < n
      rotate_left
      · have d1 : decide ((j : Int) < n) = false := by simp; omega
        obtain ⟨x, y, r1, r2, oa1, oo1, e1, l1, r3, hst0⟩ := step_form ok.out
        have NX := next_any b S t ok.out.plok wr X.out
        rw [hst0] at NX
        replace NX := hide NX
        have hdt : D.step = stL S.kd S.to S.q x y r1 r2 oa1 oo1 e1 l1 r3 := (sim.out.step ok.out).symm.trans hst0
        have hdok : D.st = 1 ∨ 3 ≤ D.st ∧ D.st ≤ 11 := by have := ok.out.pl; rw [sim.out.pl] at this; exact this
        replace hdok := hide hdok
        replace hdt := hide hdt
        clear hst0
        go_wp2_with fail
        refine NX.out.mono ?_
        rintro e w1 ⟨rfl, hb⟩
        replace X := hide (X.out.below hb)
        replace ID := hide (ID.out.below hb)
        replace B := hide (B.out.trans (hb.mono B.out.size))
        clear hb NX
        have ND := dnext_any d D hdok.out w1 ID.out
        rw [hdt.out] at ND
        replace ND := hide ND
        go_wp2_with fail
        refine ND.out.mono ?_
        rintro e w2 ⟨rfl, hb⟩
        replace X := hide (X.out.below hb)
        replace ID := hide (ID.out.below hb)
        replace B := hide (B.out.trans (hb.mono B.out.size))
        clear hb ND
        go_wp2_with fail
        refine (sameStep_any S.kd S.to S.q x y r1 r2 oa1 oo1 e1 l1 r3 w2).mono ?_
        rintro e w3 ⟨rfl, hb⟩
        replace X := hide (X.out.below hb)
        replace ID := hide (ID.out.below hb)
        replace B := hide (B.out.trans (hb.mono B.out.size))
        clear hb
        have HR2 := hide (HRb.out.below B.out)
        go_wp2_with fail
        refine (alive_any w3 HR2.out).mono ?_
        rintro e w6 ⟨rfl, hbb⟩
        replace B := hide (B.out.trans (hbb.mono B.out.size))
        clear hbb
        go_wp2
        go_ret
        exact ⟨rfl, B.out⟩
      · obtain rfl : j = 80 := by omega
        have i1 : ((80 : Nat) : Int) < n := by omega
        have i2 : decide (((80 : Nat) : Int) < n) = true := decide_eq_true i1
        obtain ⟨x, y, r1, r2, oa1, oo1, e1, l1, r3, hst0⟩ := step_form ok.out
        have NX := next_any b S t ok.out.plok wr X.out
        rw [hst0] at NX
        replace NX := hide NX
        have hdt : D.step = stL S.kd S.to S.q x y r1 r2 oa1 oo1 e1 l1 r3 := (sim.out.step ok.out).symm.trans hst0
        have hdok : D.st = 1 ∨ 3 ≤ D.st ∧ D.st ≤ 11 := by have := ok.out.pl; rw [sim.out.pl] at this; exact this
        replace hdok := hide hdok
        replace hdt := hide hdt
        clear hst0
        go_wp2_with fail
        refine NX.out.mono ?_
        rintro e w1 ⟨rfl, hb⟩
        replace X := hide (X.out.below hb)
        replace ID := hide (ID.out.below hb)
        replace B := hide (B.out.trans (hb.mono B.out.size))
        clear hb NX
        have ND := dnext_any d D hdok.out w1 ID.out
        rw [hdt.out] at ND
        replace ND := hide ND
        go_wp2_with fail
        refine ND.out.mono ?_
        rintro e w2 ⟨rfl, hb⟩
        replace X := hide (X.out.below hb)
        replace ID := hide (ID.out.below hb)
        replace B := hide (B.out.trans (hb.mono B.out.size))
        clear hb ND
        go_wp2_with fail
        refine (sameStep_any S.kd S.to S.q x y r1 r2 oa1 oo1 e1 l1 r3 w2).mono ?_
        rintro e w3 ⟨rfl, hb⟩
        replace X := hide (X.out.below hb)
        replace ID := hide (ID.out.below hb)
        replace B := hide (B.out.trans (hb.mono B.out.size))
        clear hb
        have HR2 := hide (HRb.out.below B.out)
        go_wp2_with fail
        refine (alive_any w3 HR2.out).mono ?_
        rintro e w6 ⟨rfl, hbb⟩
        replace B := hide (B.out.trans (hbb.mono B.out.size))
        clear hbb
        go_wp2
        go_ret
        exact ⟨rfl, B.out⟩
    clear HRb
    obtain ⟨i1, i2⟩ := hlt0
    have i3 : (j : Int) < n := by omega
    have i4 : decide ((j : Int) < 80) = true := decide_eq_true (by omega)
    have hjl : j < l.length := by rw [hn.out]; exact i1
    obtain ⟨g, o, c, ev, -, OA0⟩ := OP.out.at2 j hjl
    injection ev with ev el ec
    clear el
    subst ev ec
    have OA := hide OA0
    clear OA0
    generalize hwk : l[j].1 = wk at *
    generalize l[j].2 = aj at *
    replace hwk := hide hwk
    obtain ⟨x, y, r1, r2, oa1, oo1, e1, l1, r3, hst0⟩ := step_form ok.out
    have NX := next_any b S t ok.out.plok wr X.out
    rw [hst0] at NX
    replace NX := hide NX
    have hdt : D.step = stL S.kd S.to S.q x y r1 r2 oa1 oo1 e1 l1 r3 := (sim.out.step ok.out).symm.trans hst0
    have hdok : D.st = 1 ∨ 3 ≤ D.st ∧ D.st ≤ 11 := by have := ok.out.pl; rw [sim.out.pl] at this; exact this
    replace hdok := hide hdok
    replace hdt := hide hdt
    clear hst0
    go_wp2_with fail
    refine NX.out.mono ?_
    rintro e w1 ⟨rfl, hb⟩
    replace X := hide (X.out.below hb)
    replace ID := hide (ID.out.below hb)
    replace B := hide (B.out.trans (hb.mono B.out.size))
    clear hb NX
    have ND := dnext_any d D hdok.out w1 ID.out
    rw [hdt.out] at ND
    replace ND := hide ND
    go_wp2_with fail
    refine ND.out.mono ?_
    rintro e w2 ⟨rfl, hb⟩
    replace X := hide (X.out.below hb)
    replace ID := hide (ID.out.below hb)
    replace B := hide (B.out.trans (hb.mono B.out.size))
    clear hb ND
    go_wp2_with fail
    refine (sameStep_any S.kd S.to S.q x y r1 r2 oa1 oo1 e1 l1 r3 w2).mono ?_
    rintro e w3 ⟨rfl, hb⟩
    replace X := hide (X.out.below hb)
    replace ID := hide (ID.out.below hb)
    replace B := hide (B.out.trans (hb.mono B.out.size))
    clear hb
    cases wk with
    | true =>
      have c0 := (OA.out _ B.out).1
      go_wp2_with fail
      refine (wake_any b S t _ X.out).mono ?_
      rintro e w4 ⟨rfl, X4, K4⟩
      have hne := X.out.ne ID.out (by decide)
      replace ID := hide (ID.out.kp K4 (by simpa using hne))
      replace B := hide (B.out.trans (K4.to_below B.out.size (by simpa using hBb.out)))
      replace X := hide X4
      clear X4 K4 hne c0
      go_wp2_with fail
      refine (dwake_any d D (fun e => by have := sim.out.w10 e; omega) _ ID.out).mono ?_
      rintro e w5 ⟨rfl, I5, K5⟩
      replace X := hide (X.out.kpd ID.out K5)
      replace B := hide (B.out.trans (K5.to_below B.out.size (by simpa using hBd.out)))
      replace ID := hide I5
      clear I5 K5
      go_wp2
      exact ⟨⟨j + 1, D.wake, S.wake, t, by omega, by omega, by simp, hide ok.out.wake, hide sim.out.wake, X, ID, B⟩, by simp [intOf]; omega⟩
    | false =>
      have c0 := (OA.out _ B.out).1
      have LA := hide (OA.out _ B.out).2
      go_wp2_with (first | (focus ((with_reducible refine wpList_load_w ?_ 57 (.tmp 62) ?_ ?_ LA.out ?_); rotate_left; rfl; rfl; rotate_left; rfl)))
      refine (tell_any b S t aj ok.out.plok _ X.out).mono ?_
      rintro e w4 ⟨rfl, X4, K4⟩
      have hne := X.out.ne ID.out (by decide)
      replace ID := hide (ID.out.kp K4 (by simpa using hne))
      replace B := hide (B.out.trans (K4.to_below B.out.size (by simpa using hBb.out)))
      replace X := hide X4
      clear X4 K4 hne c0 LA
      have LA := hide (OA.out _ B.out).2
      go_wp2_with (first | (focus ((with_reducible refine wpList_load_w ?_ 57 (.tmp 69) ?_ ?_ LA.out ?_); rotate_left; rfl; rfl; rotate_left; rfl)))
      refine (dtell_any d D aj hdok.out (fun e => by have := sim.out.f9 e; omega) _ ID.out).mono ?_
      rintro e w5 ⟨rfl, I5, K5⟩
      replace X := hide (X.out.kpd ID.out K5)
      replace B := hide (B.out.trans (K5.to_below B.out.size (by simpa using hBd.out)))
      replace ID := hide I5
      clear I5 K5 LA
      go_wp2
      exact ⟨⟨j + 1, D.tell aj, (S.tell t aj).1, (S.tell t aj).2, by omega, by omega, by simp, hide (ok.out.tell aj), hide (sim.out.tell ok.out aj), X, ID, B⟩, by simp [intOf]; omega⟩

theorem runs_any (wl wb : Int) (me fr : Rf) (oa oo : Int) (v : Value) (l : List (Bool × An)) (hb0 : 0 ≤ me.bt) (hc0 : 0 ≤ wb) (w : World) (hR : Ranks w) (hO : OpSl w v l) : Calls Tryd.prog 3 #[.agg (cfL wl wb me fr oa oo).toArray, v] w fun e w' => e = .returned (.bool true) ∧ Below w.heap.size w w' := by
  cases hm : mayC wl wb me fr oa oo with
  | false => exact runs_bad wl wb me fr oa oo v hb0 hc0 hm w hR
  | true => exact runs_good wl wb me fr oa oo v l hb0 hc0 hm w hR hO

end Go.Proofs.YtofmommoeligoaaDoor
