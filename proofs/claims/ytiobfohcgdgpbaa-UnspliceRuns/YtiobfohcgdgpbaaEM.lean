/- UnspliceRuns walked. -/
import Derived.Test.YtiobfohcgdgpbaaEF
import Derived.Test.YtiobfohcgdgpbaaEG
import Derived.Test.YtiobfohcgdgpbaaEK
namespace Go.Proofs.Ytiobfohcgdgpbaa
open Go.RowKit Go.Maps Go.ChangeMaps

theorem sn_s (w : World) : (binOp .eql 36 (.pointer none) (.pointer none)).run Try.prog w = .ok (.bool true) w := by kernel_rfl
theorem sn_d (w : World) : (binOp .eql 40 (.pointer none) (.pointer none)).run Try.prog w = .ok (.bool true) w := by kernel_rfl
theorem se_d (a : Addr) (w : World) : (binOp .eql 40 (.pointer (some a)) (.pointer none)).run Try.prog w = .ok (.bool false) w := by kernel_rfl
theorem nn_d (w : World) : (binOp .neq 40 (.pointer none) (.pointer none)).run Try.prog w = .ok (.bool false) w := by kernel_rfl
theorem ne_d (a : Addr) (w : World) : (binOp .neq 40 (.pointer (some a)) (.pointer none)).run Try.prog w = .ok (.bool true) w := by kernel_rfl
theorem step_form (S : Us) : ∃ k r q x y r1 r2 oa oo e, S.step = stL k r q x y r1 r2 oa oo e zr zr := by
  unfold Us.step
  by_cases h1 : S.pl = 1
  · rw [if_pos h1]; exact ⟨_, _, _, _, _, _, _, _, _, _, rfl⟩
  rw [if_neg h1]
  by_cases h2 : S.pl = 2
  · rw [if_pos h2]; exact ⟨_, _, _, _, _, _, _, _, _, _, rfl⟩
  rw [if_neg h2]
  by_cases h3 : S.pl = 3
  · rw [if_pos h3]; exact ⟨_, _, _, _, _, _, _, _, _, _, rfl⟩
  rw [if_neg h3]
  by_cases h4 : S.pl = 4
  · rw [if_pos h4]; exact ⟨_, _, _, _, _, _, _, _, _, _, rfl⟩
  rw [if_neg h4]
  by_cases h5 : S.pl = 5
  · rw [if_pos h5]; exact ⟨_, _, _, _, _, _, _, _, _, _, rfl⟩
  rw [if_neg h5]
  by_cases h6 : S.pl = 6
  · rw [if_pos h6]; exact ⟨_, _, _, _, _, _, _, _, _, _, rfl⟩
  rw [if_neg h6]
  by_cases h7 : S.pl = 7
  · rw [if_pos h7]; exact ⟨_, _, _, _, _, _, _, _, _, _, rfl⟩
  rw [if_neg h7]
  by_cases h8 : S.pl = 8
  · rw [if_pos h8]; exact ⟨_, _, _, _, _, _, _, _, _, _, rfl⟩
  rw [if_neg h8]
  by_cases h9 : S.pl = 9
  · rw [if_pos h9]; exact ⟨_, _, _, _, _, _, _, _, _, _, rfl⟩
  rw [if_neg h9]
  exact ⟨_, _, _, _, _, _, _, _, _, _, rfl⟩

set_option maxHeartbeats 2000000 in
set_option maxRecDepth 100000 in
theorem runs_bad (wl wb : Int) (me : Rf) (oa oo : Int) (v : Value) (l : List An) (u : Int) (hb0 : 0 ≤ me.bt) (hc0 : 0 ≤ wb) (hm : mayC wl wb me oa oo = false) (w : World) (hO : AnSl w v l) : Calls Try.prog 3 #[.agg (cfL wl wb me oa oo).toArray, v, .int .u64 u] w fun e w' => e = .returned (.bool true) ∧ Below w.heap.size w w' := by
  obtain ⟨va, vc, rfl, -, -⟩ := hO.shape
  clear hO
  generalize hn : l.length = n at *
  clear hn
  have b1 := (Below.refl w.heap.size w).alloc (Nat.le_refl _) (.cells (cfL wl wb me oa oo).toArray 33)
  have CB := hide (IsB.new w (cfL wl wb me oa oo).toArray 33)
  have B := hide b1
  clear b1
  go_enter Try.func3, Try.ntmps3
  go_wp2_with fail
  refine (awake_any _).mono ?_
  rintro e w0 ⟨rfl, hb⟩
  replace CB := hide (CB.out.below hb)
  replace B := hide (B.out.trans (hb.mono B.out.size))
  clear hb
  have L0 := hide (ld_cconf CB.out)
  have NB := hide (new_bad wl wb me oa oo hb0 hc0 hm w0)
  go_wp2_with (first | (focus ((with_reducible refine wpList_load_w ?_ 33 (.tmp 3) ?_ ?_ L0.out ?_); rotate_left; rfl; rfl; rotate_left; rfl)))
  refine NB.out.mono ?_
  rintro e w2 ⟨rfl, hb⟩
  replace CB := hide (CB.out.below hb)
  replace B := hide (B.out.trans (hb.mono B.out.size))
  clear hb NB L0
  have L0 := hide (ld_cconf CB.out)
  have RB := hide (rnew_bad wl wb me oa oo hb0 hc0 hm w2)
  clear hm
  go_wp2_with (first | (focus ((with_reducible refine wpList_load_w ?_ 33 (.tmp 3) ?_ ?_ L0.out ?_); rotate_left; rfl; rfl; rotate_left; rfl)))
  refine RB.out.mono ?_
  rintro e w3 ⟨rfl, hb⟩
  replace B := hide (B.out.trans (hb.mono B.out.size))
  clear hb RB L0 CB
  have n1 := sn_s w3
  have n2 := sn_d w3
  have n3 := nn_d w3
  go_wp2_with fail
  clear n1 n2 n3
  skip
  go_loopw [11] (fun v11 wr => v11 = .int .i64 0 ∧ Hid (Below w.heap.size w wr)) (fun _ _ => 0)
  case atStart => exact ⟨rfl, B⟩
  case round =>
    clear B
    obtain ⟨rfl, B⟩ := hrel
    have n2 := sn_d wr
    have n3 := nn_d wr
    by_cases h0 : 0 < n
    · have i1 : (0 : Int) < n := by omega
      have d1 : decide ((0 : Int) < n) = true := decide_eq_true i1
      have d2 : decide (0 < n) = true := decide_eq_true h0
      go_wp2
      go_ret
      exact ⟨rfl, B.out⟩
    · obtain rfl : n = 0 := by omega
      go_wp2
      go_ret
      exact ⟨rfl, B.out⟩

set_option maxHeartbeats 2000000 in
set_option maxRecDepth 100000 in
theorem runs_good (wl wb : Int) (me : Rf) (oa oo : Int) (v : Value) (l : List An) (u : Int) (hb0 : 0 ≤ me.bt) (hc0 : 0 ≤ wb) (hm : mayC wl wb me oa oo = true) (w : World) (hO : AnSl w v l) : Calls Try.prog 3 #[.agg (cfL wl wb me oa oo).toArray, v, .int .u64 u] w fun e w' => e = .returned (.bool true) ∧ Below w.heap.size w w' := by
  obtain ⟨va, vc, rfl, -, -⟩ := hO.shape
  have OP := hide hO
  clear hO
  have b1 := (Below.refl w.heap.size w).alloc (Nat.le_refl _) (.cells (cfL wl wb me oa oo).toArray 33)
  have CB := hide (IsB.new w (cfL wl wb me oa oo).toArray 33)
  have B := hide b1
  clear b1
  go_enter Try.func3, Try.ntmps3
  go_wp2_with fail
  refine (awake_any _).mono ?_
  rintro e w0 ⟨rfl, hb⟩
  replace CB := hide (CB.out.below hb)
  replace B := hide (B.out.trans (hb.mono B.out.size))
  clear hb
  have L0 := hide (ld_cconf CB.out)
  have NB := hide (new_ok wl wb me oa oo hb0 hc0 hm w0)
  generalize hn : l.length = n at *
  replace hn := hide hn
  go_wp2_with (first | (focus ((with_reducible refine wpList_load_w ?_ 33 (.tmp 3) ?_ ?_ L0.out ?_); rotate_left; rfl; rfl; rotate_left; rfl)))
  refine NB.out.mono ?_
  rintro e w2 ⟨b, rfl, X0, hle, hb⟩
  have hBb : Hid (w.heap.size ≤ b) := Nat.le_trans B.out.size hle
  replace CB := hide (CB.out.below hb)
  replace B := hide (B.out.trans (hb.mono B.out.size))
  have X := hide X0
  clear hb NB L0 X0 hle
  have L0 := hide (ld_cconf CB.out)
  have RB := hide (rnew_ok wl wb me oa oo hb0 hc0 hm w2)
  clear hm
  go_wp2_with (first | (focus ((with_reducible refine wpList_load_w ?_ 33 (.tmp 3) ?_ ?_ L0.out ?_); rotate_left; rfl; rfl; rotate_left; rfl)))
  refine RB.out.mono ?_
  rintro e w3 ⟨d, rfl, ID0, hle, hb⟩
  have hBd : Hid (w.heap.size ≤ d) := Nat.le_trans B.out.size hle
  replace X := hide (X.out.below hb)
  replace B := hide (B.out.trans (hb.mono B.out.size))
  have ID := hide ID0
  clear hb RB L0 ID0 hle CB
  have n1 := ptr_eq ⟨b, 0, none⟩ w3
  have n2 := se_d ⟨d, 0, none⟩ w3
  go_wp2
  clear n1 n2
  go_loopw [11] (fun v11 wr => ∃ (j : Nat) (D S : Us), j ≤ n ∧ j ≤ 200 ∧ v11 = .int .i64 (j : Int) ∧ Hid (Sim D S) ∧ Hid (UsAt wr b S) ∧ Hid (DsAt wr d D) ∧ Hid (Below w.heap.size w wr)) (fun v11 _ => n - (intOf v11).toNat)
  case atStart => exact ⟨0, newD wl wb me oa oo, newS wl wb me oa oo, by omega, by omega, rfl, Sim.new wl wb me oa oo, X, ID, B⟩
  case round =>
    clear X ID B
    obtain ⟨j, D, S, hj, hj200, rfl, sim, X, ID, B⟩ := hrel
    have n2 := se_d ⟨d, 0, none⟩ wr
    have n3 := ne_d ⟨d, 0, none⟩ wr
    by_cases hlt0 : j < n ∧ j < 200
    rotate_left
    · by_cases h200 : j < n
      rotate_left
      · have d1 : decide ((j : Int) < n) = false := by simp; omega
        obtain ⟨k, r, q, x, y, r1, r2, oa1, oo1, e1, hst⟩ := step_form S
        have NX := next_any b S sim.out.ok.1 sim.out.ok.2.1 wr X.out
        rw [hst] at NX
        replace NX := hide NX
        have hdt := sim.out.step.trans hst
        have dl := sim.out.ok.1
        have dr := sim.out.ok.2.1
        rw [← sim.out.pl] at dl dr
        clear hst
        go_wp2_with fail
        refine NX.out.mono ?_
        rintro e w1 ⟨rfl, hb⟩
        replace X := hide (X.out.below hb)
        replace ID := hide (ID.out.below hb)
        replace B := hide (B.out.trans (hb.mono B.out.size))
        clear hb NX
        have ND := dnext_any d D dl dr w1 ID.out
        rw [hdt] at ND
        replace ND := hide ND
        clear hdt dl dr
        go_wp2_with fail
        refine ND.out.mono ?_
        rintro e w2 ⟨rfl, hb⟩
        replace X := hide (X.out.below hb)
        replace ID := hide (ID.out.below hb)
        replace B := hide (B.out.trans (hb.mono B.out.size))
        clear hb ND
        go_wp2_with fail
        refine (sameStep_any k r q x y r1 r2 oa1 oo1 e1 zr zr w2).mono ?_
        rintro e w3 ⟨rfl, hb⟩
        replace X := hide (X.out.below hb)
        replace ID := hide (ID.out.below hb)
        replace B := hide (B.out.trans (hb.mono B.out.size))
        clear hb
        go_wp2
        go_ret
        exact ⟨rfl, B.out⟩
      · obtain rfl : j = 200 := by omega
        have i1 : ((200 : Nat) : Int) < n := by omega
        have i2 : decide (((200 : Nat) : Int) < n) = true := decide_eq_true i1
        obtain ⟨k, r, q, x, y, r1, r2, oa1, oo1, e1, hst⟩ := step_form S
        have NX := next_any b S sim.out.ok.1 sim.out.ok.2.1 wr X.out
        rw [hst] at NX
        replace NX := hide NX
        have hdt := sim.out.step.trans hst
        have dl := sim.out.ok.1
        have dr := sim.out.ok.2.1
        rw [← sim.out.pl] at dl dr
        clear hst
        go_wp2_with fail
        refine NX.out.mono ?_
        rintro e w1 ⟨rfl, hb⟩
        replace X := hide (X.out.below hb)
        replace ID := hide (ID.out.below hb)
        replace B := hide (B.out.trans (hb.mono B.out.size))
        clear hb NX
        have ND := dnext_any d D dl dr w1 ID.out
        rw [hdt] at ND
        replace ND := hide ND
        clear hdt dl dr
        go_wp2_with fail
        refine ND.out.mono ?_
        rintro e w2 ⟨rfl, hb⟩
        replace X := hide (X.out.below hb)
        replace ID := hide (ID.out.below hb)
        replace B := hide (B.out.trans (hb.mono B.out.size))
        clear hb ND
        go_wp2_with fail
        refine (sameStep_any k r q x y r1 r2 oa1 oo1 e1 zr zr w2).mono ?_
        rintro e w3 ⟨rfl, hb⟩
        replace X := hide (X.out.below hb)
        replace ID := hide (ID.out.below hb)
        replace B := hide (B.out.trans (hb.mono B.out.size))
        clear hb
        go_wp2
        go_ret
        exact ⟨rfl, B.out⟩
    obtain ⟨i1, i2⟩ := hlt0
    have i3 : (j : Int) < n := by omega
    have i4 : decide ((j : Int) < 200) = true := decide_eq_true (by omega)
    have hjl : j < l.length := by rw [hn.out]; exact i1
    obtain ⟨g, o, c, ev, OA0⟩ := OP.out.at2 j hjl
    injection ev with ev el ec
    clear el
    subst ev ec
    have OA := hide OA0
    clear OA0
    generalize l[j] = aj at *
    obtain ⟨k, r, q, x, y, r1, r2, oa1, oo1, e1, hst⟩ := step_form S
    have NX := next_any b S sim.out.ok.1 sim.out.ok.2.1 wr X.out
    rw [hst] at NX
    replace NX := hide NX
    have hdt := sim.out.step.trans hst
    have dl := sim.out.ok.1
    have dr := sim.out.ok.2.1
    rw [← sim.out.pl] at dl dr
    clear hst
    go_wp2_with fail
    refine NX.out.mono ?_
    rintro e w1 ⟨rfl, hb⟩
    replace X := hide (X.out.below hb)
    replace ID := hide (ID.out.below hb)
    replace B := hide (B.out.trans (hb.mono B.out.size))
    clear hb NX
    have ND := dnext_any d D dl dr w1 ID.out
    rw [hdt] at ND
    replace ND := hide ND
    clear hdt dl dr
    go_wp2_with fail
    refine ND.out.mono ?_
    rintro e w2 ⟨rfl, hb⟩
    replace X := hide (X.out.below hb)
    replace ID := hide (ID.out.below hb)
    replace B := hide (B.out.trans (hb.mono B.out.size))
    clear hb ND
    go_wp2_with fail
    refine (sameStep_any k r q x y r1 r2 oa1 oo1 e1 zr zr w2).mono ?_
    rintro e w3 ⟨rfl, hb⟩
    replace X := hide (X.out.below hb)
    replace ID := hide (ID.out.below hb)
    replace B := hide (B.out.trans (hb.mono B.out.size))
    clear hb
    have dl := sim.out.ok.1
    have dr := sim.out.ok.2.1
    rw [← sim.out.pl] at dl dr
    have hne : d ≠ b := fun e => IsB.ne_t X.out ID.out (by decide) e.symm
    have LA := hide (OA.out _ B.out)
    go_wp2_with (first | (focus ((with_reducible refine wpList_load_w ?_ 58 (.tmp 57) ?_ ?_ LA.out ?_); rotate_left; rfl; rfl; rotate_left; rfl)))
    refine (tell_any b S aj sim.out.ok _ X.out).mono ?_
    rintro e w4 ⟨rfl, X4, K4⟩
    replace ID := hide (ID.out.kp K4 (by simpa using hne))
    replace B := hide (B.out.trans (K4.to_below B.out.size (by simpa using hBb.out)))
    replace X := hide X4
    clear X4 K4
    clear LA
    have LA := hide (OA.out _ B.out)
    go_wp2_with (first | (focus ((with_reducible refine wpList_load_w ?_ 58 (.tmp 63) ?_ ?_ LA.out ?_); rotate_left; rfl; rfl; rotate_left; rfl)))
    refine (dtell_any d D aj dl dr _ ID.out).mono ?_
    rintro e w5 ⟨rfl, I5, K5⟩
    replace X := hide (X.out.kp K5 (by simpa using fun e => hne e.symm))
    replace B := hide (B.out.trans (K5.to_below B.out.size (by simpa using hBd.out)))
    replace ID := hide I5
    clear I5 K5 hne
    clear LA dl dr
    replace sim := hide (sim.out.tell aj)
    go_wp2_with fail
    · have hne : d ≠ b := fun e => IsB.ne_t X.out ID.out (by decide) e.symm
      refine (wake_any b (S.tell aj) _ X.out).mono ?_
      rintro e w6 ⟨rfl, X4, K4⟩
      replace ID := hide (ID.out.kp K4 (by simpa using hne))
      replace B := hide (B.out.trans (K4.to_below B.out.size (by simpa using hBb.out)))
      replace X := hide X4
      clear X4 K4
      go_wp2_with fail
      refine (dwake_any d (D.dtell aj) _ ID.out).mono ?_
      rintro e w7 ⟨rfl, I5, K5⟩
      replace X := hide (X.out.kp K5 (by simpa using fun e => hne e.symm))
      replace B := hide (B.out.trans (K5.to_below B.out.size (by simpa using hBd.out)))
      replace ID := hide I5
      clear I5 K5 hne
      replace sim := hide (sim.out.wake)
      go_wp2
      exact ⟨⟨j + 1, (D.dtell aj).dwake, (S.tell aj).wake, by omega, by omega, by simp, sim, X, ID, B⟩, by simp [intOf]; omega⟩
    · try go_wp2
      exact ⟨⟨j + 1, (D.dtell aj), (S.tell aj), by omega, by omega, by simp, sim, X, ID, B⟩, by simp [intOf]; omega⟩

theorem runs_any (wl wb : Int) (me : Rf) (oa oo : Int) (v : Value) (l : List An) (u : Int) (hb0 : 0 ≤ me.bt) (hc0 : 0 ≤ wb) (w : World) (hO : AnSl w v l) : Calls Try.prog 3 #[.agg (cfL wl wb me oa oo).toArray, v, .int .u64 u] w fun e w' => e = .returned (.bool true) ∧ Below w.heap.size w w' := by
  cases hm : mayC wl wb me oa oo with
  | false => exact runs_bad wl wb me oa oo v l u hb0 hc0 hm w hO
  | true => exact runs_good wl wb me oa oo v l u hb0 hc0 hm w hO

end Go.Proofs.Ytiobfohcgdgpbaa
