/- SpliceRises walked. -/
import Derived.Test.YtofmommoeligoaaDoorTJ
import Derived.Test.YtofmommoeligoaaDoorTW
import Derived.Test.YtofmommoeligoaaDoorTX
import Derived.Test.YtofmommoeligoaaDoorTM
namespace Go.Proofs.YtofmommoeligoaaDoor
open Go.RowKit Go.Maps Go.ChangeMaps

theorem OpSl.at2 {w : World} {v : Value} {l : List (Bool × An)} (h : OpSl w v l) (j : Nat) (hj : j < l.length) : ∃ g o c, v = .slice (some ⟨g, o, none⟩) l.length c ∧ l.length ≤ c ∧ ∀ w', Below w.heap.size w w' → w'.cell? ⟨g, o + j * 14, none⟩ = some (.bool l[j].1) ∧ (Instr.loadAt 57 (.pointer (some ⟨g, o + j * 14 + 1, none⟩))).run Tryd.prog w' = .ok (.agg (anL l[j].2).toArray) w' := by
  obtain ⟨g, o, c, hv, h1, -, -⟩ := h.at j hj
  refine ⟨g, o, c, hv, h1, fun w' hb => ?_⟩
  obtain ⟨g2, o2, c2, hv2, h3, h4, h5⟩ := (h.below hb).at j hj
  rw [hv] at hv2
  injection hv2 with e1 _ _
  injection e1 with e1
  injection e1 with e1 e2 _
  subst e1 e2
  exact ⟨h4, h5⟩
theorem st_key {w : World} {b : Nat} {r n : Int} (I : IsB w b #[.int .i64 r, .int .u64 n] 27) (r2 n2 : Int) : ∃ w', (Instr.storeAt 27 (.pointer (some ⟨b, 0, none⟩)) (.agg #[.int .i64 (r2), .int .u64 (n2)])).run Tryd.prog w = .ok () w' ∧ IsB w' b #[.int .i64 r2, .int .u64 n2] 27 ∧ Kp [b] w w' :=
  store_mid (cs := [.int .i64 r, .int .u64 n]) I 0 _ [.int .i64 r2, .int .u64 n2] (by simp) (by kernel_rfl) (by simp [Value.oneCell'])
theorem ld_skey {w : World} {b : Nat} {k : Int} {r : Rf} {q x y : Int} {r1 r2 : Rf} {oa oo e : Int} {l r3 : Rf} (I : IsB w b (stL k r q x y r1 r2 oa oo e l r3).toArray 53) : (Instr.loadAt 27 (.pointer (some ⟨b, 2, none⟩))).run Tryd.prog w = .ok (.agg #[.int .i64 (r.rk), .int .u64 (r.kn)]) w := load_mid I 2 _ [.int .i64 r.rk, .int .u64 r.kn] _ rfl Tryd.underlying27 rfl (by kernel_rfl)
theorem SpAt.ne {w : World} {b c : Nat} {S : Sp} {t : Option Th} {cs : Array Value} {ty : TypeId} (X : SpAt w b S t) (I : IsB w c cs ty) (h : 85 ≠ ty) : c ≠ b := by
  obtain ⟨v, J, -⟩ := X
  exact fun e => IsB.ne_t J I h e.symm

set_option maxHeartbeats 2000000 in
set_option maxRecDepth 100000 in
theorem rises_bad (wl wb : Int) (me fr : Rf) (oa oo : Int) (v : Value) (hb0 : 0 ≤ me.bt) (hc0 : 0 ≤ wb) (hm : mayC wl wb me fr oa oo = false) (w : World) (hR : Ranks w) : Calls Tryd.prog 6 #[.agg (cfL wl wb me fr oa oo).toArray, v] w fun e w' => e = .returned (.bool true) ∧ Below w.heap.size w w' := by
  have b1 := (Below.refl w.heap.size w).alloc (Nat.le_refl _) (.cells (cfL wl wb me fr oa oo).toArray 33)
  have CB := hide (IsB.new w (cfL wl wb me fr oa oo).toArray 33)
  have HR := hide (hR.below b1)
  have B := hide b1
  have L0 := hide (ld_cconf CB.out)
  clear b1 hR
  have NB := hide (new_bad wl wb me fr oa oo hb0 hc0 hm _ HR.out)
  go_enter Tryd.func6, Tryd.ntmps6
  go_wp2_with (first | (focus ((with_reducible refine wpList_load_w ?_ 33 (.tmp 2) ?_ ?_ L0.out ?_); rotate_left; rfl; rfl; rotate_left; rfl)))
  refine NB.out.mono ?_
  rintro e w2 ⟨rfl, hb⟩
  replace CB := hide (CB.out.below hb)
  replace HR := hide (HR.out.below hb)
  replace B := hide (B.out.trans (hb.mono B.out.size))
  clear hb NB L0
  have L0 := hide (ld_cconf CB.out)
  have RB := hide (rnew_bad wl wb me fr oa oo hb0 hc0 hm w2)
  clear hm
  go_wp2_with (first | (focus ((with_reducible refine wpList_load_w ?_ 33 (.tmp 2) ?_ ?_ L0.out ?_); rotate_left; rfl; rfl; rotate_left; rfl)))
  refine RB.out.mono ?_
  rintro e w3 ⟨rfl, hb⟩
  replace HR := hide (HR.out.below hb)
  replace B := hide (B.out.trans (hb.mono B.out.size))
  clear hb RB L0 CB
  go_wp2_with fail
  refine (alive_any w3 HR.out).mono ?_
  rintro e w4 ⟨rfl, hb⟩
  replace B := hide (B.out.trans (hb.mono B.out.size))
  clear hb
  go_wp2
  go_ret
  exact ⟨rfl, B.out⟩

set_option maxHeartbeats 2000000 in
set_option maxRecDepth 100000 in
theorem rises_good (wl wb : Int) (me fr : Rf) (oa oo : Int) (va0 : Value) (l : List (Bool × An)) (hb0 : 0 ≤ me.bt) (hc0 : 0 ≤ wb) (hm : mayC wl wb me fr oa oo = true) (w : World) (hR : Ranks w) (hO : OpSl w va0 l) : Calls Tryd.prog 6 #[.agg (cfL wl wb me fr oa oo).toArray, va0] w fun e w' => e = .returned (.bool true) ∧ Below w.heap.size w w' := by
  have HRb := hide hR
  obtain ⟨va, vc, rfl, -, -⟩ := hO.shape
  have OP := hide hO
  clear hO
  have b1 := (Below.refl w.heap.size w).alloc (Nat.le_refl _) (.cells (cfL wl wb me fr oa oo).toArray 33)
  have CB := hide (IsB.new w (cfL wl wb me fr oa oo).toArray 33)
  have HR := hide (hR.below b1)
  have B := hide b1
  have L0 := hide (ld_cconf CB.out)
  clear b1 hR
  have NB := hide (new_ok wl wb me fr oa oo hb0 hc0 hm _ HR.out)
  generalize hn : l.length = n at *
  replace hn := hide hn
  clear hm
  go_enter Tryd.func6, Tryd.ntmps6
  go_wp2_with (first | (focus ((with_reducible refine wpList_load_w ?_ 33 (.tmp 2) ?_ ?_ L0.out ?_); rotate_left; rfl; rfl; rotate_left; rfl)))
  refine NB.out.mono ?_
  rintro e w2 ⟨b, rfl, X0, hle, hb⟩
  have hBb : Hid (w.heap.size ≤ b) := Nat.le_trans B.out.size hle
  replace HR := hide (HR.out.below hb)
  replace B := hide (B.out.trans (hb.mono B.out.size))
  have X := hide X0
  clear hb NB L0 CB X0 hle
  have pe := ptr_eq ⟨b, 0, none⟩ w2
  have b3 := (Below.refl w2.heap.size w2).alloc (Nat.le_refl _) (.cells #[.int .i64 0, .int .u64 0] 27)
  have IL := hide (IsB.new w2 #[.int .i64 0, .int .u64 0] 27)
  have hLB0 := hide B.out.size
  replace X := hide (X.out.below b3)
  replace B := hide (B.out.trans (b3.mono B.out.size))
  clear b3 HR
  go_wp2
  generalize (w2.alloc (.cells #[.int .i64 0, .int .u64 0] 27)) = W3 at *
  obtain ⟨LB, hLL⟩ : ∃ LB, w2.heap.size = LB := ⟨_, rfl⟩
  rw [hLL] at IL hLB0 ⊢
  have hLB := hLB0
  clear hLB0 hLL pe
  go_loopw [10, 11] (fun v10 v11 wr => ∃ (j : Nat) (hb : Bool) (lr ln : Int) (S : Sp) (t : Option Th), j ≤ n ∧ j ≤ 80 ∧ v10 = .bool hb ∧ v11 = .int .i64 (j : Int) ∧ Hid (SOk S t) ∧ Hid (Riz S t hb (lr, ln)) ∧ Hid (SpAt wr b S t) ∧ Hid (IsB wr LB #[.int .i64 lr, .int .u64 ln] 27) ∧ Hid (Below w.heap.size w wr)) (fun _ v11 _ => n - (intOf v11).toNat)
  case atStart => exact ⟨0, false, 0, 0, newS wl wb me fr oa oo, none, by omega, by omega, rfl, rfl, ⟨Or.inl rfl, fun h => absurd (show (1 : Int) = 9 from h) (by decide), (fun h => by cases h)⟩, (fun h => by cases h), X, IL, B⟩
  case round =>
    clear X IL B
    obtain ⟨j, hb, lr, ln, S, t, hj, hj80, rfl, rfl, ok, rz, X, IL, B⟩ := hrel
    by_cases hlt0 : j < n ∧ j < 80
    rotate_left
    · have HR2 := hide (HRb.out.below B.out)
      by_cases h80 : j < n
      rotate_left
      · have d1 : decide ((j : Int) < n) = false := by simp; omega
        go_wp2_with fail
        refine (alive_any wr HR2.out).mono ?_
        rintro e w6 ⟨rfl, hbb⟩
        replace B := hide (B.out.trans (hbb.mono B.out.size))
        clear hbb
        go_wp2
        go_ret
        exact ⟨rfl, B.out⟩
      · obtain rfl : j = 80 := by omega
        have i1 : ((80 : Nat) : Int) < n := by omega
        have i2 : decide (((80 : Nat) : Int) < n) = true := decide_eq_true i1
        go_wp2_with fail
        refine (alive_any wr HR2.out).mono ?_
        rintro e w6 ⟨rfl, hbb⟩
        replace B := hide (B.out.trans (hbb.mono B.out.size))
        clear hbb
        go_wp2
        go_ret
        exact ⟨rfl, B.out⟩
    clear HRb
    obtain ⟨i1, i2⟩ := hlt0
    have i3 : (j : Int) < n := by omega
    have i4 : decide ((j : Int) < 80) = true := decide_eq_true (by omega)
    have hjl : j < l.length := by rw [hn.out]; exact i1
    obtain ⟨g, o, c, ev, -, OA0⟩ := OP.out.at2 j hjl
    injection ev with ev el ec
    clear el
    subst ev ec
    have OA := hide OA0
    clear OA0
    obtain ⟨x, y, r1, r2, oa1, oo1, e1, l1, r3, hst0⟩ := step_form ok.out
    generalize hwk : l[j].1 = wk at *
    generalize l[j].2 = aj at *
    by_cases hp : S.pl = 1
    · have hp10 : S.pl ≠ 10 := by omega
      have ek : S.kd = 1 := by unfold Sp.kd; rw [if_neg (by omega), if_neg (by omega)]
      have eq : S.q = 3 := (q_three ok.out).2 hp
      have et : S.to = S.lf := by unfold Sp.to; rw [if_pos (Or.inl hp)]
      rw [ek, eq, et] at hst0
      clear ek eq et
      replace hwk := hide hwk
      have hst := hide hst0
      clear hst0
      cases wk with
      | true =>
        have NX := next_any b S t ok.out.plok wr X.out
        rw [hst.out] at NX
        replace NX := hide NX
        go_wp2_with fail
        refine NX.out.mono ?_
        rintro e w1 ⟨rfl, hbb⟩
        replace X := hide (X.out.below hbb)
        replace IL := hide (IL.out.below hbb)
        replace B := hide (B.out.trans (hbb.mono B.out.size))
        clear hbb NX
        have b3 := (Below.refl w1.heap.size w1).alloc (Nat.le_refl _) (.cells (stL 1 S.lf 3 x y r1 r2 oa1 oo1 e1 l1 r3).toArray 53)
        have SN := hide (store_step w1 (stL 1 S.lf 3 x y r1 r2 oa1 oo1 e1 l1 r3).toArray rfl (by kernel_rfl))
        have IX := hide (IsB.new w1 (stL 1 S.lf 3 x y r1 r2 oa1 oo1 e1 l1 r3).toArray 53)
        replace X := hide (X.out.below b3)
        replace IL := hide (IL.out.below b3)
        replace B := hide (B.out.trans (b3.mono B.out.size))
        clear b3
        have x0 : (w1.alloc (.cells (stL 1 S.lf 3 x y r1 r2 oa1 oo1 e1 l1 r3).toArray 53)).cell? ⟨w1.heap.size, 0, none⟩ = some (.int .i64 (1)) := IX.out.cell 0
        have x6 : (w1.alloc (.cells (stL 1 S.lf 3 x y r1 r2 oa1 oo1 e1 l1 r3).toArray 53)).cell? ⟨w1.heap.size, 6, none⟩ = some (.int .i64 (3)) := IX.out.cell 6
        have c0 := (OA.out _ B.out).1
        go_wp2_with (first | (focus ((with_reducible refine wpList_store_w ?_ 53 (.tmp 12) (.tmp 46) ?_ ?_ ?_ SN.out ?_); rotate_left; rfl; rfl; rfl; rotate_left; rfl)))
        refine (wake_any b S t _ X.out).mono ?_
        rintro e w6 ⟨rfl, X6, K6⟩
        replace IL := hide (IL.out.kp K6 (by simpa using X.out.ne IL.out (by decide)))
        replace B := hide (B.out.trans (K6.to_below B.out.size (by simpa using hBb.out)))
        have XN := hide X6
        clear X6 K6
        go_wp2
        exact ⟨⟨j + 1, hb, lr, ln, S.wake, t, by omega, by omega, rfl, by simp, hide ok.out.wake, hide (rz.out.wake (fun e => absurd e hp10)), XN, IL, B⟩, by simp [intOf]; omega⟩
      | false =>
        cases hb with
        | false =>
          have NX := next_any b S t ok.out.plok wr X.out
          rw [hst.out] at NX
          replace NX := hide NX
          go_wp2_with fail
          refine NX.out.mono ?_
          rintro e w1 ⟨rfl, hbb⟩
          replace X := hide (X.out.below hbb)
          replace IL := hide (IL.out.below hbb)
          replace B := hide (B.out.trans (hbb.mono B.out.size))
          clear hbb NX
          have b3 := (Below.refl w1.heap.size w1).alloc (Nat.le_refl _) (.cells (stL 1 S.lf 3 x y r1 r2 oa1 oo1 e1 l1 r3).toArray 53)
          have SN := hide (store_step w1 (stL 1 S.lf 3 x y r1 r2 oa1 oo1 e1 l1 r3).toArray rfl (by kernel_rfl))
          have IX := hide (IsB.new w1 (stL 1 S.lf 3 x y r1 r2 oa1 oo1 e1 l1 r3).toArray 53)
          replace X := hide (X.out.below b3)
          replace IL := hide (IL.out.below b3)
          replace B := hide (B.out.trans (b3.mono B.out.size))
          clear b3
          have x0 : (w1.alloc (.cells (stL 1 S.lf 3 x y r1 r2 oa1 oo1 e1 l1 r3).toArray 53)).cell? ⟨w1.heap.size, 0, none⟩ = some (.int .i64 (1)) := IX.out.cell 0
          have x6 : (w1.alloc (.cells (stL 1 S.lf 3 x y r1 r2 oa1 oo1 e1 l1 r3).toArray 53)).cell? ⟨w1.heap.size, 6, none⟩ = some (.int .i64 (3)) := IX.out.cell 6
          have c0 := (OA.out _ B.out).1
          have LK := hide (ld_skey IX.out)
          obtain ⟨w5, hs5, I5, k5⟩ := st_key IL.out S.lf.rk S.lf.kn
          have HS5 := hide hs5
          have hne := X.out.ne IL.out (by decide)
          replace X : Hid (SpAt w5 b S t) := by
            obtain ⟨v, J, T⟩ := X.out
            exact ⟨v, J.kp k5 (by simpa using fun e => hne e.symm), T.kp k5 fun k hk cs => by
              simp only [List.mem_singleton] at hk
              subst hk
              exact ⟨fun J => IsB.ne_t IL.out J (by decide) rfl, fun J => IsB.ne_t IL.out J (by decide) rfl⟩⟩
          replace B := hide (B.out.trans (k5.to_below B.out.size (by simpa using hLB.out)))
          replace IL := hide I5
          have c5 := (OA.out _ B.out).1
          have LA := hide (OA.out _ B.out).2
          clear hs5 I5 k5 hne
          go_wp2_with (first | (focus ((with_reducible refine wpList_store_w ?_ 53 (.tmp 12) (.tmp 46) ?_ ?_ ?_ SN.out ?_); rotate_left; rfl; rfl; rfl; rotate_left; rfl)) | (focus ((with_reducible refine wpList_load_w ?_ 27 (.tmp 77) ?_ ?_ LK.out ?_); rotate_left; rfl; rfl; rotate_left; rfl)) | (focus ((with_reducible refine wpList_store_w ?_ 27 (.tmp 9) (.tmp 78) ?_ ?_ ?_ HS5.out ?_); rotate_left; rfl; rfl; rfl; rotate_left; rfl)) | (focus ((with_reducible refine wpList_load_w ?_ 57 (.tmp 90) ?_ ?_ LA.out ?_); rotate_left; rfl; rfl; rotate_left; rfl)))
          refine (tell_any b S t aj ok.out.plok _ X.out).mono ?_
          rintro e w6 ⟨rfl, X6, K6⟩
          replace IL := hide (IL.out.kp K6 (by simpa using X.out.ne IL.out (by decide)))
          replace B := hide (B.out.trans (K6.to_below B.out.size (by simpa using hBb.out)))
          have XN := hide X6
          clear X6 K6
          go_wp2
          exact ⟨⟨j + 1, true, S.lf.rk, S.lf.kn, (S.tell t aj).1, (S.tell t aj).2, by omega, by omega, rfl, by simp, hide (ok.out.tell aj), hide (Riz.tell1 ok.out hp aj), XN, IL, B⟩, by simp [intOf]; omega⟩
        | true =>
          have hlt : Hid (klt (lr, ln) (S.lf.rk, S.lf.kn) = true) := (rz.out rfl).1 hp
          have NX := next_any b S t ok.out.plok wr X.out
          rw [hst.out] at NX
          replace NX := hide NX
          go_wp2_with fail
          refine NX.out.mono ?_
          rintro e w1 ⟨rfl, hbb⟩
          replace X := hide (X.out.below hbb)
          replace IL := hide (IL.out.below hbb)
          replace B := hide (B.out.trans (hbb.mono B.out.size))
          clear hbb NX
          have b3 := (Below.refl w1.heap.size w1).alloc (Nat.le_refl _) (.cells (stL 1 S.lf 3 x y r1 r2 oa1 oo1 e1 l1 r3).toArray 53)
          have SN := hide (store_step w1 (stL 1 S.lf 3 x y r1 r2 oa1 oo1 e1 l1 r3).toArray rfl (by kernel_rfl))
          have IX := hide (IsB.new w1 (stL 1 S.lf 3 x y r1 r2 oa1 oo1 e1 l1 r3).toArray 53)
          replace X := hide (X.out.below b3)
          replace IL := hide (IL.out.below b3)
          replace B := hide (B.out.trans (b3.mono B.out.size))
          clear b3
          have x0 : (w1.alloc (.cells (stL 1 S.lf 3 x y r1 r2 oa1 oo1 e1 l1 r3).toArray 53)).cell? ⟨w1.heap.size, 0, none⟩ = some (.int .i64 (1)) := IX.out.cell 0
          have x6 : (w1.alloc (.cells (stL 1 S.lf 3 x y r1 r2 oa1 oo1 e1 l1 r3).toArray 53)).cell? ⟨w1.heap.size, 6, none⟩ = some (.int .i64 (3)) := IX.out.cell 6
          have c0 := (OA.out _ B.out).1
          have LK := hide (ld_skey IX.out)
          have LL := hide (ld_key2 IL.out)
          go_wp2_with (first | (focus ((with_reducible refine wpList_store_w ?_ 53 (.tmp 12) (.tmp 46) ?_ ?_ ?_ SN.out ?_); rotate_left; rfl; rfl; rfl; rotate_left; rfl)) | (focus ((with_reducible refine wpList_load_w ?_ 27 (.tmp 9) ?_ ?_ LL.out ?_); rotate_left; rfl; rfl; rotate_left; rfl)) | (focus ((with_reducible refine wpList_load_w ?_ 27 (.tmp 71) ?_ ?_ LK.out ?_); rotate_left; rfl; rfl; rotate_left; rfl)))
          refine (r9Less_any lr ln S.lf.rk S.lf.kn _).mono ?_
          rintro e w4 ⟨rfl, hbb⟩
          rw [hlt.out]
          replace X := hide (X.out.below hbb)
          replace IL := hide (IL.out.below hbb)
          replace B := hide (B.out.trans (hbb.mono B.out.size))
          replace IX := hide (IX.out.below hbb)
          clear hbb LK LL c0 x0 x6 SN
          have LK := hide (ld_skey IX.out)
          obtain ⟨w5, hs5, I5, k5⟩ := st_key IL.out S.lf.rk S.lf.kn
          have HS5 := hide hs5
          have hne := X.out.ne IL.out (by decide)
          replace X : Hid (SpAt w5 b S t) := by
            obtain ⟨v, J, T⟩ := X.out
            exact ⟨v, J.kp k5 (by simpa using fun e => hne e.symm), T.kp k5 fun k hk cs => by
              simp only [List.mem_singleton] at hk
              subst hk
              exact ⟨fun J => IsB.ne_t IL.out J (by decide) rfl, fun J => IsB.ne_t IL.out J (by decide) rfl⟩⟩
          replace B := hide (B.out.trans (k5.to_below B.out.size (by simpa using hLB.out)))
          replace IL := hide I5
          have c5 := (OA.out _ B.out).1
          have LA := hide (OA.out _ B.out).2
          clear hs5 I5 k5 hne
          go_wp2_with (first | (focus ((with_reducible refine wpList_load_w ?_ 27 (.tmp 77) ?_ ?_ LK.out ?_); rotate_left; rfl; rfl; rotate_left; rfl)) | (focus ((with_reducible refine wpList_store_w ?_ 27 (.tmp 9) (.tmp 78) ?_ ?_ ?_ HS5.out ?_); rotate_left; rfl; rfl; rfl; rotate_left; rfl)) | (focus ((with_reducible refine wpList_load_w ?_ 57 (.tmp 90) ?_ ?_ LA.out ?_); rotate_left; rfl; rfl; rotate_left; rfl)))
          refine (tell_any b S t aj ok.out.plok _ X.out).mono ?_
          rintro e w6 ⟨rfl, X6, K6⟩
          replace IL := hide (IL.out.kp K6 (by simpa using X.out.ne IL.out (by decide)))
          replace B := hide (B.out.trans (K6.to_below B.out.size (by simpa using hBb.out)))
          have XN := hide X6
          clear X6 K6
          go_wp2
          exact ⟨⟨j + 1, true, S.lf.rk, S.lf.kn, (S.tell t aj).1, (S.tell t aj).2, by omega, by omega, rfl, by simp, hide (ok.out.tell aj), hide (Riz.tell1 ok.out hp aj), XN, IL, B⟩, by simp [intOf]; omega⟩
    have hp1 := hp
    clear hp
    by_cases hp : S.pl = 10
    · skip
      have ek : S.kd = 2 := by unfold Sp.kd; rw [if_pos hp]
      rw [ek] at hst0
      clear ek
      replace hwk := hide hwk
      generalize S.to = to at *
      generalize S.q = q at *
      have hst := hide hst0
      clear hst0
      cases wk with
      | true =>
        have NX := next_any b S t ok.out.plok wr X.out
        rw [hst.out] at NX
        replace NX := hide NX
        go_wp2_with fail
        refine NX.out.mono ?_
        rintro e w1 ⟨rfl, hbb⟩
        replace X := hide (X.out.below hbb)
        replace IL := hide (IL.out.below hbb)
        replace B := hide (B.out.trans (hbb.mono B.out.size))
        clear hbb NX
        have b3 := (Below.refl w1.heap.size w1).alloc (Nat.le_refl _) (.cells (stL 2 to q x y r1 r2 oa1 oo1 e1 l1 r3).toArray 53)
        have SN := hide (store_step w1 (stL 2 to q x y r1 r2 oa1 oo1 e1 l1 r3).toArray rfl (by kernel_rfl))
        have IX := hide (IsB.new w1 (stL 2 to q x y r1 r2 oa1 oo1 e1 l1 r3).toArray 53)
        replace X := hide (X.out.below b3)
        replace IL := hide (IL.out.below b3)
        replace B := hide (B.out.trans (b3.mono B.out.size))
        clear b3
        have x0 : (w1.alloc (.cells (stL 2 to q x y r1 r2 oa1 oo1 e1 l1 r3).toArray 53)).cell? ⟨w1.heap.size, 0, none⟩ = some (.int .i64 (2)) := IX.out.cell 0
        have x6 : (w1.alloc (.cells (stL 2 to q x y r1 r2 oa1 oo1 e1 l1 r3).toArray 53)).cell? ⟨w1.heap.size, 6, none⟩ = some (.int .i64 (q)) := IX.out.cell 6
        have c0 := (OA.out _ B.out).1
        go_wp2_with (first | (focus ((with_reducible refine wpList_store_w ?_ 53 (.tmp 12) (.tmp 46) ?_ ?_ ?_ SN.out ?_); rotate_left; rfl; rfl; rfl; rotate_left; rfl)))
        refine (wake_any b S t _ X.out).mono ?_
        rintro e w6 ⟨rfl, X6, K6⟩
        replace IL := hide (IL.out.kp K6 (by simpa using X.out.ne IL.out (by decide)))
        replace B := hide (B.out.trans (K6.to_below B.out.size (by simpa using hBb.out)))
        have XN := hide X6
        clear X6 K6
        go_wp2
        exact ⟨⟨j + 1, false, lr, ln, S.wake, t, by omega, by omega, rfl, by simp, hide ok.out.wake, hide (Riz.wake (hb := false) (fun e => by cases e) (fun _ => rfl)), XN, IL, B⟩, by simp [intOf]; omega⟩
      | false =>
        have NX := next_any b S t ok.out.plok wr X.out
        rw [hst.out] at NX
        replace NX := hide NX
        go_wp2_with fail
        refine NX.out.mono ?_
        rintro e w1 ⟨rfl, hbb⟩
        replace X := hide (X.out.below hbb)
        replace IL := hide (IL.out.below hbb)
        replace B := hide (B.out.trans (hbb.mono B.out.size))
        clear hbb NX
        have b3 := (Below.refl w1.heap.size w1).alloc (Nat.le_refl _) (.cells (stL 2 to q x y r1 r2 oa1 oo1 e1 l1 r3).toArray 53)
        have SN := hide (store_step w1 (stL 2 to q x y r1 r2 oa1 oo1 e1 l1 r3).toArray rfl (by kernel_rfl))
        have IX := hide (IsB.new w1 (stL 2 to q x y r1 r2 oa1 oo1 e1 l1 r3).toArray 53)
        replace X := hide (X.out.below b3)
        replace IL := hide (IL.out.below b3)
        replace B := hide (B.out.trans (b3.mono B.out.size))
        clear b3
        have x0 : (w1.alloc (.cells (stL 2 to q x y r1 r2 oa1 oo1 e1 l1 r3).toArray 53)).cell? ⟨w1.heap.size, 0, none⟩ = some (.int .i64 (2)) := IX.out.cell 0
        have x6 : (w1.alloc (.cells (stL 2 to q x y r1 r2 oa1 oo1 e1 l1 r3).toArray 53)).cell? ⟨w1.heap.size, 6, none⟩ = some (.int .i64 (q)) := IX.out.cell 6
        have c0 := (OA.out _ B.out).1
        have LA := hide (OA.out _ B.out).2
        go_wp2_with (first | (focus ((with_reducible refine wpList_store_w ?_ 53 (.tmp 12) (.tmp 46) ?_ ?_ ?_ SN.out ?_); rotate_left; rfl; rfl; rfl; rotate_left; rfl)) | (focus ((with_reducible refine wpList_load_w ?_ 57 (.tmp 90) ?_ ?_ LA.out ?_); rotate_left; rfl; rfl; rotate_left; rfl)))
        refine (tell_any b S t aj ok.out.plok _ X.out).mono ?_
        rintro e w6 ⟨rfl, X6, K6⟩
        replace IL := hide (IL.out.kp K6 (by simpa using X.out.ne IL.out (by decide)))
        replace B := hide (B.out.trans (K6.to_below B.out.size (by simpa using hBb.out)))
        have XN := hide X6
        clear X6 K6
        go_wp2
        exact ⟨⟨j + 1, false, lr, ln, (S.tell t aj).1, (S.tell t aj).2, by omega, by omega, rfl, by simp, hide (ok.out.tell aj), hide (Riz.tell ok.out hp1 aj (hb := false) (k := (lr, ln)) (fun e => by cases e)), XN, IL, B⟩, by simp [intOf]; omega⟩
    have hp10 := hp
    clear hp
    by_cases hp : S.pl = 11
    · skip
      have ek : S.kd = 3 := by unfold Sp.kd; rw [if_neg hp10, if_pos hp]
      rw [ek] at hst0
      clear ek
      replace hwk := hide hwk
      generalize S.to = to at *
      generalize S.q = q at *
      have hst := hide hst0
      clear hst0
      cases wk with
      | true =>
        have NX := next_any b S t ok.out.plok wr X.out
        rw [hst.out] at NX
        replace NX := hide NX
        go_wp2_with fail
        refine NX.out.mono ?_
        rintro e w1 ⟨rfl, hbb⟩
        replace X := hide (X.out.below hbb)
        replace IL := hide (IL.out.below hbb)
        replace B := hide (B.out.trans (hbb.mono B.out.size))
        clear hbb NX
        have b3 := (Below.refl w1.heap.size w1).alloc (Nat.le_refl _) (.cells (stL 3 to q x y r1 r2 oa1 oo1 e1 l1 r3).toArray 53)
        have SN := hide (store_step w1 (stL 3 to q x y r1 r2 oa1 oo1 e1 l1 r3).toArray rfl (by kernel_rfl))
        have IX := hide (IsB.new w1 (stL 3 to q x y r1 r2 oa1 oo1 e1 l1 r3).toArray 53)
        replace X := hide (X.out.below b3)
        replace IL := hide (IL.out.below b3)
        replace B := hide (B.out.trans (b3.mono B.out.size))
        clear b3
        have x0 : (w1.alloc (.cells (stL 3 to q x y r1 r2 oa1 oo1 e1 l1 r3).toArray 53)).cell? ⟨w1.heap.size, 0, none⟩ = some (.int .i64 (3)) := IX.out.cell 0
        have x6 : (w1.alloc (.cells (stL 3 to q x y r1 r2 oa1 oo1 e1 l1 r3).toArray 53)).cell? ⟨w1.heap.size, 6, none⟩ = some (.int .i64 (q)) := IX.out.cell 6
        have c0 := (OA.out _ B.out).1
        go_wp2_with (first | (focus ((with_reducible refine wpList_store_w ?_ 53 (.tmp 12) (.tmp 46) ?_ ?_ ?_ SN.out ?_); rotate_left; rfl; rfl; rfl; rotate_left; rfl)))
        refine (wake_any b S t _ X.out).mono ?_
        rintro e w6 ⟨rfl, X6, K6⟩
        replace IL := hide (IL.out.kp K6 (by simpa using X.out.ne IL.out (by decide)))
        replace B := hide (B.out.trans (K6.to_below B.out.size (by simpa using hBb.out)))
        have XN := hide X6
        clear X6 K6
        go_wp2
        exact ⟨⟨j + 1, hb, lr, ln, S.wake, t, by omega, by omega, rfl, by simp, hide ok.out.wake, hide (rz.out.wake (fun e => absurd e hp10)), XN, IL, B⟩, by simp [intOf]; omega⟩
      | false =>
        have NX := next_any b S t ok.out.plok wr X.out
        rw [hst.out] at NX
        replace NX := hide NX
        go_wp2_with fail
        refine NX.out.mono ?_
        rintro e w1 ⟨rfl, hbb⟩
        replace X := hide (X.out.below hbb)
        replace IL := hide (IL.out.below hbb)
        replace B := hide (B.out.trans (hbb.mono B.out.size))
        clear hbb NX
        have b3 := (Below.refl w1.heap.size w1).alloc (Nat.le_refl _) (.cells (stL 3 to q x y r1 r2 oa1 oo1 e1 l1 r3).toArray 53)
        have SN := hide (store_step w1 (stL 3 to q x y r1 r2 oa1 oo1 e1 l1 r3).toArray rfl (by kernel_rfl))
        have IX := hide (IsB.new w1 (stL 3 to q x y r1 r2 oa1 oo1 e1 l1 r3).toArray 53)
        replace X := hide (X.out.below b3)
        replace IL := hide (IL.out.below b3)
        replace B := hide (B.out.trans (b3.mono B.out.size))
        clear b3
        have x0 : (w1.alloc (.cells (stL 3 to q x y r1 r2 oa1 oo1 e1 l1 r3).toArray 53)).cell? ⟨w1.heap.size, 0, none⟩ = some (.int .i64 (3)) := IX.out.cell 0
        have x6 : (w1.alloc (.cells (stL 3 to q x y r1 r2 oa1 oo1 e1 l1 r3).toArray 53)).cell? ⟨w1.heap.size, 6, none⟩ = some (.int .i64 (q)) := IX.out.cell 6
        have c0 := (OA.out _ B.out).1
        have LA := hide (OA.out _ B.out).2
        go_wp2_with (first | (focus ((with_reducible refine wpList_store_w ?_ 53 (.tmp 12) (.tmp 46) ?_ ?_ ?_ SN.out ?_); rotate_left; rfl; rfl; rfl; rotate_left; rfl)) | (focus ((with_reducible refine wpList_load_w ?_ 57 (.tmp 90) ?_ ?_ LA.out ?_); rotate_left; rfl; rfl; rotate_left; rfl)))
        refine (tell_any b S t aj ok.out.plok _ X.out).mono ?_
        rintro e w6 ⟨rfl, X6, K6⟩
        replace IL := hide (IL.out.kp K6 (by simpa using X.out.ne IL.out (by decide)))
        replace B := hide (B.out.trans (K6.to_below B.out.size (by simpa using hBb.out)))
        have XN := hide X6
        clear X6 K6
        go_wp2
        exact ⟨⟨j + 1, hb, lr, ln, (S.tell t aj).1, (S.tell t aj).2, by omega, by omega, rfl, by simp, hide (ok.out.tell aj), hide (rz.out.tell ok.out hp1 aj), XN, IL, B⟩, by simp [intOf]; omega⟩
    have hp11 := hp
    clear hp
    have ek : S.kd = 1 := by unfold Sp.kd; rw [if_neg hp10, if_neg hp11]
    have hq : ¬ S.q = 3 := fun e => hp1 ((q_three ok.out).1 e)
    have hqb : (S.q == 3) = false := by simpa using hq
    rw [ek] at hst0
    clear ek
    replace hwk := hide hwk
    generalize S.to = to at *
    generalize hqe : S.q = q at *
    replace hqe := hide hqe
    have hst := hide hst0
    clear hst0
    cases wk with
    | true =>
      have NX := next_any b S t ok.out.plok wr X.out
      rw [hst.out] at NX
      replace NX := hide NX
      go_wp2_with fail
      refine NX.out.mono ?_
      rintro e w1 ⟨rfl, hbb⟩
      replace X := hide (X.out.below hbb)
      replace IL := hide (IL.out.below hbb)
      replace B := hide (B.out.trans (hbb.mono B.out.size))
      clear hbb NX
      have b3 := (Below.refl w1.heap.size w1).alloc (Nat.le_refl _) (.cells (stL 1 to q x y r1 r2 oa1 oo1 e1 l1 r3).toArray 53)
      have SN := hide (store_step w1 (stL 1 to q x y r1 r2 oa1 oo1 e1 l1 r3).toArray rfl (by kernel_rfl))
      have IX := hide (IsB.new w1 (stL 1 to q x y r1 r2 oa1 oo1 e1 l1 r3).toArray 53)
      replace X := hide (X.out.below b3)
      replace IL := hide (IL.out.below b3)
      replace B := hide (B.out.trans (b3.mono B.out.size))
      clear b3
      have x0 : (w1.alloc (.cells (stL 1 to q x y r1 r2 oa1 oo1 e1 l1 r3).toArray 53)).cell? ⟨w1.heap.size, 0, none⟩ = some (.int .i64 (1)) := IX.out.cell 0
      have x6 : (w1.alloc (.cells (stL 1 to q x y r1 r2 oa1 oo1 e1 l1 r3).toArray 53)).cell? ⟨w1.heap.size, 6, none⟩ = some (.int .i64 (q)) := IX.out.cell 6
      have c0 := (OA.out _ B.out).1
      go_wp2_with (first | (focus ((with_reducible refine wpList_store_w ?_ 53 (.tmp 12) (.tmp 46) ?_ ?_ ?_ SN.out ?_); rotate_left; rfl; rfl; rfl; rotate_left; rfl)))
      refine (wake_any b S t _ X.out).mono ?_
      rintro e w6 ⟨rfl, X6, K6⟩
      replace IL := hide (IL.out.kp K6 (by simpa using X.out.ne IL.out (by decide)))
      replace B := hide (B.out.trans (K6.to_below B.out.size (by simpa using hBb.out)))
      have XN := hide X6
      clear X6 K6
      go_wp2
      exact ⟨⟨j + 1, hb, lr, ln, S.wake, t, by omega, by omega, rfl, by simp, hide ok.out.wake, hide (rz.out.wake (fun e => absurd e hp10)), XN, IL, B⟩, by simp [intOf]; omega⟩
    | false =>
      have NX := next_any b S t ok.out.plok wr X.out
      rw [hst.out] at NX
      replace NX := hide NX
      go_wp2_with fail
      refine NX.out.mono ?_
      rintro e w1 ⟨rfl, hbb⟩
      replace X := hide (X.out.below hbb)
      replace IL := hide (IL.out.below hbb)
      replace B := hide (B.out.trans (hbb.mono B.out.size))
      clear hbb NX
      have b3 := (Below.refl w1.heap.size w1).alloc (Nat.le_refl _) (.cells (stL 1 to q x y r1 r2 oa1 oo1 e1 l1 r3).toArray 53)
      have SN := hide (store_step w1 (stL 1 to q x y r1 r2 oa1 oo1 e1 l1 r3).toArray rfl (by kernel_rfl))
      have IX := hide (IsB.new w1 (stL 1 to q x y r1 r2 oa1 oo1 e1 l1 r3).toArray 53)
      replace X := hide (X.out.below b3)
      replace IL := hide (IL.out.below b3)
      replace B := hide (B.out.trans (b3.mono B.out.size))
      clear b3
      have x0 : (w1.alloc (.cells (stL 1 to q x y r1 r2 oa1 oo1 e1 l1 r3).toArray 53)).cell? ⟨w1.heap.size, 0, none⟩ = some (.int .i64 (1)) := IX.out.cell 0
      have x6 : (w1.alloc (.cells (stL 1 to q x y r1 r2 oa1 oo1 e1 l1 r3).toArray 53)).cell? ⟨w1.heap.size, 6, none⟩ = some (.int .i64 (q)) := IX.out.cell 6
      have c0 := (OA.out _ B.out).1
      have LA := hide (OA.out _ B.out).2
      go_wp2_with (first | (focus ((with_reducible refine wpList_store_w ?_ 53 (.tmp 12) (.tmp 46) ?_ ?_ ?_ SN.out ?_); rotate_left; rfl; rfl; rfl; rotate_left; rfl)) | (focus ((with_reducible refine wpList_load_w ?_ 57 (.tmp 90) ?_ ?_ LA.out ?_); rotate_left; rfl; rfl; rotate_left; rfl)))
      refine (tell_any b S t aj ok.out.plok _ X.out).mono ?_
      rintro e w6 ⟨rfl, X6, K6⟩
      replace IL := hide (IL.out.kp K6 (by simpa using X.out.ne IL.out (by decide)))
      replace B := hide (B.out.trans (K6.to_below B.out.size (by simpa using hBb.out)))
      have XN := hide X6
      clear X6 K6
      go_wp2
      exact ⟨⟨j + 1, hb, lr, ln, (S.tell t aj).1, (S.tell t aj).2, by omega, by omega, rfl, by simp, hide (ok.out.tell aj), hide (rz.out.tell ok.out hp1 aj), XN, IL, B⟩, by simp [intOf]; omega⟩

theorem rises_any (wl wb : Int) (me fr : Rf) (oa oo : Int) (v : Value) (l : List (Bool × An)) (hb0 : 0 ≤ me.bt) (hc0 : 0 ≤ wb) (w : World) (hR : Ranks w) (hO : OpSl w v l) : Calls Tryd.prog 6 #[.agg (cfL wl wb me fr oa oo).toArray, v] w fun e w' => e = .returned (.bool true) ∧ Below w.heap.size w w' := by
  cases hm : mayC wl wb me fr oa oo with
  | false => exact rises_bad wl wb me fr oa oo v hb0 hc0 hm w hR
  | true => exact rises_good wl wb me fr oa oo v l hb0 hc0 hm w hR hO

end Go.Proofs.YtofmommoeligoaaDoor
