/- SpliceFrees walked. -/
import Derived.Test.YtofmommoeligoaaDoorTY
import Derived.Test.YtofmommoeligoaaDoorUA
namespace Go.Proofs.YtofmommoeligoaaDoor
open Go.RowKit Go.Maps Go.ChangeMaps

set_option maxHeartbeats 1000000 in
set_option maxRecDepth 100000 in
theorem frees_bad (wl wb : Int) (me fr : Rf) (oa oo : Int) (v : Value) (hb0 : 0 ≤ me.bt) (hc0 : 0 ≤ wb) (hm : mayC wl wb me fr oa oo = false) (w : World) (hR : Ranks w) : Calls Tryd.prog 5 #[.agg (cfL wl wb me fr oa oo).toArray, v] w fun e w' => e = .returned (.bool true) ∧ Below w.heap.size w w' := by
  have b1 := (Below.refl w.heap.size w).alloc (Nat.le_refl _) (.cells (cfL wl wb me fr oa oo).toArray 33)
  have CB := hide (IsB.new w (cfL wl wb me fr oa oo).toArray 33)
  have HR := hide (hR.below b1)
  have B := hide b1
  have L0 := hide (ld_cconf CB.out)
  clear b1 hR
  have NB := hide (new_bad wl wb me fr oa oo hb0 hc0 hm _ HR.out)
  go_enter Tryd.func5, Tryd.ntmps5
  go_wp2_with (first | (focus ((with_reducible refine wpList_load_w ?_ 33 (.tmp 2) ?_ ?_ L0.out ?_); rotate_left; rfl; rfl; rotate_left; rfl)))
  refine NB.out.mono ?_
  rintro e w2 ⟨rfl, hb⟩
  replace CB := hide (CB.out.below hb)
  replace HR := hide (HR.out.below hb)
  replace B := hide (B.out.trans (hb.mono B.out.size))
  clear hb NB L0
  have L0 := hide (ld_cconf CB.out)
  have RB := hide (rnew_bad wl wb me fr oa oo hb0 hc0 hm w2)
  clear hm
  go_wp2_with (first | (focus ((with_reducible refine wpList_load_w ?_ 33 (.tmp 2) ?_ ?_ L0.out ?_); rotate_left; rfl; rfl; rotate_left; rfl)))
  refine RB.out.mono ?_
  rintro e w3 ⟨rfl, hb⟩
  replace HR := hide (HR.out.below hb)
  replace B := hide (B.out.trans (hb.mono B.out.size))
  clear hb RB L0 CB
  go_wp2_with fail
  refine (alive_any w3 HR.out).mono ?_
  rintro e w4 ⟨rfl, hb⟩
  replace B := hide (B.out.trans (hb.mono B.out.size))
  clear hb
  go_wp2
  go_ret
  exact ⟨rfl, B.out⟩

theorem Io.kpb {w0 w w' : World} {v : Value} {l : List Int} {b : Nat} (h : Io w0 w v l) (hk : Kp [b] w w') (hb : w0.heap.size ≤ b) (hn : ∀ cur, ¬ IsB w b cur 3) : Io w0 w' v l :=
  ⟨h.row.kp hk fun k hk2 hm => by
    simp only [List.mem_singleton] at hm
    subst hm
    obtain ⟨-, cur, hc⟩ := h.row.lt _ hk2
    exact hn cur hc, h.new, h.kp.trans hk fun k hk2 => by simp only [List.mem_singleton] at hk2; subst hk2; exact Or.inr hb⟩
theorem SpAt.noint {w : World} {b : Nat} {S : Sp} {t : Option Th} (X : SpAt w b S t) : ∀ cur, ¬ IsB w b cur 3 := by
  obtain ⟨v, J, -⟩ := X
  exact fun cur I => IsB.ne_t J I (by decide) rfl

theorem ld_step {w : World} {b : Nat} {k : Int} {r : Rf} {q x y : Int} {r1 r2 : Rf} {oa oo e : Int} {l r3 : Rf} (I : IsB w b (stL k r q x y r1 r2 oa oo e l r3).toArray 53) : (Instr.loadAt 53 (.pointer (some ⟨b, 0, none⟩))).run Tryd.prog w = .ok (.agg (stL k r q x y r1 r2 oa oo e l r3).toArray) w := load_mid I 0 _ (stL k r q x y r1 r2 oa oo e l r3) _ rfl Tryd.underlying53 rfl (by kernel_rfl)

set_option maxHeartbeats 1000000 in
set_option maxRecDepth 100000 in
theorem frees_good (wl wb : Int) (me fr : Rf) (oa oo : Int) (va0 : Value) (l : List (Bool × An)) (hb0 : 0 ≤ me.bt) (hc0 : 0 ≤ wb) (hm : mayC wl wb me fr oa oo = true) (w : World) (hR : Ranks w) (hO : OpSl w va0 l) : Calls Tryd.prog 5 #[.agg (cfL wl wb me fr oa oo).toArray, va0] w fun e w' => e = .returned (.bool true) ∧ Below w.heap.size w w' := by
  have HRb := hide hR
  have mixed : Tryd.prog.follows .mixedOrders = true := by kernel_rfl
  obtain ⟨va, vc, rfl, -, -⟩ := hO.shape
  have OP := hide hO
  clear hO
  have b1 := (Below.refl w.heap.size w).alloc (Nat.le_refl _) (.cells (cfL wl wb me fr oa oo).toArray 33)
  have CB := hide (IsB.new w (cfL wl wb me fr oa oo).toArray 33)
  have HR := hide (hR.below b1)
  have B := hide b1
  have L0 := hide (ld_cconf CB.out)
  clear b1 hR
  have NB := hide (new_ok wl wb me fr oa oo hb0 hc0 hm _ HR.out)
  generalize hn : l.length = n at *
  replace hn := hide hn
  clear hm
  go_enter Tryd.func5, Tryd.ntmps5
  go_wp2_with (first | (focus ((with_reducible refine wpList_load_w ?_ 33 (.tmp 2) ?_ ?_ L0.out ?_); rotate_left; rfl; rfl; rotate_left; rfl)))
  refine NB.out.mono ?_
  rintro e w2 ⟨b, rfl, X0, hle, hb⟩
  have hBb : Hid (w.heap.size ≤ b) := Nat.le_trans B.out.size hle
  replace B := hide (B.out.trans (hb.mono B.out.size))
  have X := hide X0
  clear hb NB L0 CB X0 hle HR
  have pe := ptr_eq ⟨b, 0, none⟩ w2
  have IO : Hid (Io w w2 (.slice none 0 0) []) := ⟨⟨rfl, Or.inl ⟨rfl, rfl⟩⟩, (fun k hk => by cases hk), Kp.of_below B.out⟩
  go_wp2
  clear pe
  go_loopw [9, 10] (fun v9 v10 wr => ∃ (j : Nat) (qa : Option Addr) (qc : Nat) (m : List Int) (S : Sp) (t : Option Th), j ≤ n ∧ j ≤ 80 ∧ v9 = .slice qa m.length qc ∧ v10 = .int .i64 (j : Int) ∧ Hid (m.length ≤ j) ∧ Hid (SOk S t) ∧ Hid (Fre S m) ∧ Hid (SpAt wr b S t) ∧ Hid (Io w wr (.slice qa m.length qc) m) ∧ Hid (Below w.heap.size w wr)) (fun _ v10 _ => n - (intOf v10).toNat)
  case atStart => exact ⟨0, none, 0, [], newS wl wb me fr oa oo, none, by omega, by omega, rfl, rfl, (Nat.le_refl 0), ⟨Or.inl rfl, fun h => absurd (show (1 : Int) = 9 from h) (by decide), (fun h => by cases h)⟩, Fre.nil, X, IO, B⟩
  case round =>
    clear X IO B
    obtain ⟨j, qa, qc, m, S, t, hj, hj80, rfl, rfl, hmj, ok, fr1, X, IO, B⟩ := hrel
    by_cases hlt0 : j < n ∧ j < 80
    rotate_left
    · have HR2 := hide (HRb.out.below B.out)
      by_cases h80 : j < n
      rotate_left
      · have d1 : decide ((j : Int) < n) = false := by simp; omega
        go_wp2_with fail
        refine (alive_any wr HR2.out).mono ?_
        rintro e w6 ⟨rfl, hbb⟩
        replace B := hide (B.out.trans (hbb.mono B.out.size))
        clear hbb
        go_wp2
        go_ret
        exact ⟨rfl, B.out⟩
      · obtain rfl : j = 80 := by omega
        have i1 : ((80 : Nat) : Int) < n := by omega
        have i2 : decide (((80 : Nat) : Int) < n) = true := decide_eq_true i1
        go_wp2_with fail
        refine (alive_any wr HR2.out).mono ?_
        rintro e w6 ⟨rfl, hbb⟩
        replace B := hide (B.out.trans (hbb.mono B.out.size))
        clear hbb
        go_wp2
        go_ret
        exact ⟨rfl, B.out⟩
    clear HRb
    obtain ⟨i1, i2⟩ := hlt0
    have i3 : (j : Int) < n := by omega
    have i4 : decide ((j : Int) < 80) = true := decide_eq_true (by omega)
    have hjl : j < l.length := by rw [hn.out]; exact i1
    obtain ⟨g, o, c, ev, -, OA0⟩ := OP.out.at2 j hjl
    injection ev with ev el ec
    clear el
    subst ev ec
    have OA := hide OA0
    clear OA0
    obtain ⟨x, y, r1, r2, oa1, oo1, e1, l1, r3, hst0⟩ := step_form ok.out
    generalize hwk : l[j].1 = wk at *
    generalize l[j].2 = aj at *
    replace hwk := hide hwk
    have hlk := fr1.out.look ok.out
    generalize hmn : m.length = mn at *
    replace hmn := hide hmn
    by_cases hkd0 : S.kd = 1
    rotate_left
    · have hm0 : m = [] := Classical.byContradiction fun e => hkd0 (hlk e).1
      have hmn0 : mn = 0 := by rw [← hmn.out, hm0]; rfl
      have hkd : S.kd ≠ 1 := hkd0
      have kb : (S.kd == 1) = false := by simpa using hkd0
      have kb2 : (S.kd != 1) = true := by simpa using hkd0
      clear hkd0 hlk
      replace hm0 := hide hm0
      have i5 : decide ((mn : Int) > 0) = false := decide_eq_false (by omega)
      have i6 : decide (0 < (mn : Int)) = false := decide_eq_false (by omega)
      have i7 : decide (0 < mn) = false := decide_eq_false (by omega)
      have i8 : ¬ 0 < mn := by omega
      clear hmn0
      generalize S.to = to at *
      generalize S.q = q at *
      generalize hkk : S.kd = kd at *
      replace hkk := hide hkk
      replace hkd := hide hkd
      have hst := hide hst0
      clear hst0
      cases wk with
      | true =>
        have NX := next_any b S t ok.out.plok wr X.out
        rw [hst.out] at NX
        replace NX := hide NX
        go_wp2_with fail
        refine NX.out.mono ?_
        rintro e w1 ⟨rfl, hbb⟩
        replace X := hide (X.out.below hbb)
        replace IO := hide (IO.out.below hbb)
        replace B := hide (B.out.trans (hbb.mono B.out.size))
        clear hbb NX
        have b3 := (Below.refl w1.heap.size w1).alloc (Nat.le_refl _) (.cells (stL kd to q x y r1 r2 oa1 oo1 e1 l1 r3).toArray 53)
        have SN := hide (store_step w1 (stL kd to q x y r1 r2 oa1 oo1 e1 l1 r3).toArray rfl (by kernel_rfl))
        have IX := hide (IsB.new w1 (stL kd to q x y r1 r2 oa1 oo1 e1 l1 r3).toArray 53)
        replace X := hide (X.out.below b3)
        replace IO := hide (IO.out.below b3)
        replace B := hide (B.out.trans (b3.mono B.out.size))
        clear b3
        have x0 : (w1.alloc (.cells (stL kd to q x y r1 r2 oa1 oo1 e1 l1 r3).toArray 53)).cell? ⟨w1.heap.size, 0, none⟩ = some (.int .i64 (kd)) := IX.out.cell 0
        have x6 : (w1.alloc (.cells (stL kd to q x y r1 r2 oa1 oo1 e1 l1 r3).toArray 53)).cell? ⟨w1.heap.size, 6, none⟩ = some (.int .i64 (q)) := IX.out.cell 6
        have c0 := (OA.out _ B.out).1
        go_wp2_with (first | (focus ((with_reducible refine wpList_store_w ?_ 53 (.tmp 11) (.tmp 45) ?_ ?_ ?_ SN.out ?_); rotate_left; rfl; rfl; rfl; rotate_left; rfl)))
        refine (wake_any b S t _ X.out).mono ?_
        rintro e w6 ⟨rfl, X6, K6⟩
        replace IO := hide (IO.out.kpb K6 hBb.out X.out.noint)
        replace B := hide (B.out.trans (K6.to_below B.out.size (by simpa using hBb.out)))
        have XN := hide X6
        clear X6 K6
        go_wp2
        exact ⟨⟨j + 1, qa, qc, m, S.wake, t, by omega, by omega, by rw [hmn.out], by simp, (by have := hmj.out; have := hmn.out; show _ ≤ _; omega), hide ok.out.wake, hide fr1.out.wake, XN, by rw [hmn.out]; exact IO, B⟩, by simp [intOf]; omega⟩
      | false =>
        have NX := next_any b S t ok.out.plok wr X.out
        rw [hst.out] at NX
        replace NX := hide NX
        go_wp2_with fail
        refine NX.out.mono ?_
        rintro e w1 ⟨rfl, hbb⟩
        replace X := hide (X.out.below hbb)
        replace IO := hide (IO.out.below hbb)
        replace B := hide (B.out.trans (hbb.mono B.out.size))
        clear hbb NX
        have b3 := (Below.refl w1.heap.size w1).alloc (Nat.le_refl _) (.cells (stL kd to q x y r1 r2 oa1 oo1 e1 l1 r3).toArray 53)
        have SN := hide (store_step w1 (stL kd to q x y r1 r2 oa1 oo1 e1 l1 r3).toArray rfl (by kernel_rfl))
        have IX := hide (IsB.new w1 (stL kd to q x y r1 r2 oa1 oo1 e1 l1 r3).toArray 53)
        replace X := hide (X.out.below b3)
        replace IO := hide (IO.out.below b3)
        replace B := hide (B.out.trans (b3.mono B.out.size))
        clear b3
        have x0 : (w1.alloc (.cells (stL kd to q x y r1 r2 oa1 oo1 e1 l1 r3).toArray 53)).cell? ⟨w1.heap.size, 0, none⟩ = some (.int .i64 (kd)) := IX.out.cell 0
        have x6 : (w1.alloc (.cells (stL kd to q x y r1 r2 oa1 oo1 e1 l1 r3).toArray 53)).cell? ⟨w1.heap.size, 6, none⟩ = some (.int .i64 (q)) := IX.out.cell 6
        have c0 := (OA.out _ B.out).1
        have LA := hide (OA.out _ B.out).2
        go_wp2_with (first | (focus ((with_reducible refine wpList_store_w ?_ 53 (.tmp 11) (.tmp 45) ?_ ?_ ?_ SN.out ?_); rotate_left; rfl; rfl; rfl; rotate_left; rfl)) | (focus ((with_reducible refine wpList_load_w ?_ 57 (.tmp 71) ?_ ?_ LA.out ?_); rotate_left; rfl; rfl; rotate_left; rfl)))
        have hnx := X.out.ne IX.out (by decide)
        refine (tell_any b S t aj ok.out.plok _ X.out).mono ?_
        rintro e w6 ⟨rfl, X6, K6⟩
        replace IO := hide (IO.out.kpb K6 hBb.out X.out.noint)
        replace IX := hide (IX.out.kp K6 (by simpa using hnx))
        replace B := hide (B.out.trans (K6.to_below B.out.size (by simpa using hBb.out)))
        have XN := hide X6
        obtain ⟨XB, hXB⟩ : ∃ XB, w1.heap.size = XB := ⟨_, rfl⟩
        rw [hXB] at IX ⊢
        clear X6 K6 hnx SN x0 x6 c0 LA hXB
        have x0 : w6.cell? ⟨XB, 0, none⟩ = some (.int .i64 (kd)) := IX.out.cell 0
        have ESt := tell_over ok.out aj (by rw [hkk.out]; exact hkd.out)
        rw [ESt] at XN
        go_wp2
        exact ⟨⟨j + 1, qa, qc, m, S, t, by omega, by omega, by rw [hmn.out], by simp, (by have := hmj.out; have := hmn.out; show _ ≤ _; omega), ok, fr1, XN, by rw [hmn.out]; exact IO, B⟩, by simp [intOf]; omega⟩
    have hkd := hide hkd0
    rw [hkd0] at hst0
    clear hkd0
    have hst1 := hide hst0
    clear hst0
    obtain ⟨to, hto0⟩ : ∃ to, S.to = to := ⟨_, rfl⟩
    obtain ⟨q, hqe0⟩ : ∃ q, S.q = q := ⟨_, rfl⟩
    have hst := hst1
    rw [hto0, hqe0] at hst
    clear hst1
    have hto := hide hto0
    have hqe := hide hqe0
    rcases Nat.eq_zero_or_pos mn with hz0 | hz0
    · clear hlk
      have i5 : decide ((mn : Int) > 0) = false := decide_eq_false (by omega)
      have i6 : decide (0 < (mn : Int)) = false := decide_eq_false (by omega)
      have i7 : decide (0 < mn) = false := decide_eq_false (by omega)
      have i8 : ¬ 0 < mn := by omega
      clear hz0
      clear hto0 hqe0
      cases wk with
      | true =>
        have NX := next_any b S t ok.out.plok wr X.out
        rw [hst.out] at NX
        replace NX := hide NX
        go_wp2_with fail
        refine NX.out.mono ?_
        rintro e w1 ⟨rfl, hbb⟩
        replace X := hide (X.out.below hbb)
        replace IO := hide (IO.out.below hbb)
        replace B := hide (B.out.trans (hbb.mono B.out.size))
        clear hbb NX
        have b3 := (Below.refl w1.heap.size w1).alloc (Nat.le_refl _) (.cells (stL 1 to q x y r1 r2 oa1 oo1 e1 l1 r3).toArray 53)
        have SN := hide (store_step w1 (stL 1 to q x y r1 r2 oa1 oo1 e1 l1 r3).toArray rfl (by kernel_rfl))
        have IX := hide (IsB.new w1 (stL 1 to q x y r1 r2 oa1 oo1 e1 l1 r3).toArray 53)
        replace X := hide (X.out.below b3)
        replace IO := hide (IO.out.below b3)
        replace B := hide (B.out.trans (b3.mono B.out.size))
        clear b3
        have x0 : (w1.alloc (.cells (stL 1 to q x y r1 r2 oa1 oo1 e1 l1 r3).toArray 53)).cell? ⟨w1.heap.size, 0, none⟩ = some (.int .i64 (1)) := IX.out.cell 0
        have x6 : (w1.alloc (.cells (stL 1 to q x y r1 r2 oa1 oo1 e1 l1 r3).toArray 53)).cell? ⟨w1.heap.size, 6, none⟩ = some (.int .i64 (q)) := IX.out.cell 6
        have c0 := (OA.out _ B.out).1
        go_wp2_with (first | (focus ((with_reducible refine wpList_store_w ?_ 53 (.tmp 11) (.tmp 45) ?_ ?_ ?_ SN.out ?_); rotate_left; rfl; rfl; rfl; rotate_left; rfl)))
        refine (wake_any b S t _ X.out).mono ?_
        rintro e w6 ⟨rfl, X6, K6⟩
        replace IO := hide (IO.out.kpb K6 hBb.out X.out.noint)
        replace B := hide (B.out.trans (K6.to_below B.out.size (by simpa using hBb.out)))
        have XN := hide X6
        clear X6 K6
        go_wp2
        exact ⟨⟨j + 1, qa, qc, m, S.wake, t, by omega, by omega, by rw [hmn.out], by simp, (by have := hmj.out; have := hmn.out; show _ ≤ _; omega), hide ok.out.wake, hide fr1.out.wake, XN, by rw [hmn.out]; exact IO, B⟩, by simp [intOf]; omega⟩
      | false =>
        have NX := next_any b S t ok.out.plok wr X.out
        rw [hst.out] at NX
        replace NX := hide NX
        go_wp2_with fail
        refine NX.out.mono ?_
        rintro e w1 ⟨rfl, hbb⟩
        replace X := hide (X.out.below hbb)
        replace IO := hide (IO.out.below hbb)
        replace B := hide (B.out.trans (hbb.mono B.out.size))
        clear hbb NX
        have b3 := (Below.refl w1.heap.size w1).alloc (Nat.le_refl _) (.cells (stL 1 to q x y r1 r2 oa1 oo1 e1 l1 r3).toArray 53)
        have SN := hide (store_step w1 (stL 1 to q x y r1 r2 oa1 oo1 e1 l1 r3).toArray rfl (by kernel_rfl))
        have IX := hide (IsB.new w1 (stL 1 to q x y r1 r2 oa1 oo1 e1 l1 r3).toArray 53)
        replace X := hide (X.out.below b3)
        replace IO := hide (IO.out.below b3)
        replace B := hide (B.out.trans (b3.mono B.out.size))
        clear b3
        have x0 : (w1.alloc (.cells (stL 1 to q x y r1 r2 oa1 oo1 e1 l1 r3).toArray 53)).cell? ⟨w1.heap.size, 0, none⟩ = some (.int .i64 (1)) := IX.out.cell 0
        have x6 : (w1.alloc (.cells (stL 1 to q x y r1 r2 oa1 oo1 e1 l1 r3).toArray 53)).cell? ⟨w1.heap.size, 6, none⟩ = some (.int .i64 (q)) := IX.out.cell 6
        have c0 := (OA.out _ B.out).1
        have LA := hide (OA.out _ B.out).2
        go_wp2_with (first | (focus ((with_reducible refine wpList_store_w ?_ 53 (.tmp 11) (.tmp 45) ?_ ?_ ?_ SN.out ?_); rotate_left; rfl; rfl; rfl; rotate_left; rfl)) | (focus ((with_reducible refine wpList_load_w ?_ 57 (.tmp 71) ?_ ?_ LA.out ?_); rotate_left; rfl; rfl; rotate_left; rfl)))
        have hnx := X.out.ne IX.out (by decide)
        refine (tell_any b S t aj ok.out.plok _ X.out).mono ?_
        rintro e w6 ⟨rfl, X6, K6⟩
        replace IO := hide (IO.out.kpb K6 hBb.out X.out.noint)
        replace IX := hide (IX.out.kp K6 (by simpa using hnx))
        replace B := hide (B.out.trans (K6.to_below B.out.size (by simpa using hBb.out)))
        have XN := hide X6
        obtain ⟨XB, hXB⟩ : ∃ XB, w1.heap.size = XB := ⟨_, rfl⟩
        rw [hXB] at IX ⊢
        clear X6 K6 hnx SN x0 x6 c0 LA hXB
        have x0 : w6.cell? ⟨XB, 0, none⟩ = some (.int .i64 (1)) := IX.out.cell 0
        go_wp2_with fail
        have IXd := hide (IX.out.below ((Below.refl _ _).drew))
        have XD := hide (XN.out.below ((Below.refl _ _).drew))
        have IOd := hide (IO.out.below ((Below.refl _ _).drew))
        have BD := hide (B.out.drew)
        have LAd := hide (OA.out _ BD.out).2
        clear IX XN IO B x0
        refine regionL 9 (fun w' => IsB w' XB (stL 1 to q x y r1 r2 oa1 oo1 e1 l1 r3).toArray 53 ∧ (Instr.loadAt 57 (.pointer (some ⟨g, o + j * 14 + 1, none⟩))).run Tryd.prog w' = .ok (.agg (anL aj).toArray) w') mixed ⟨IXd.out, LAd.out⟩ (fun hHeld => ?_)
        generalize w6.drew = WD at *
        refine pickA (v := ?_) 0 (some 77) rfl rfl (by kernel_rfl) (by kernel_rfl) (by kernel_rfl) (by decide) (fun _ _ _ h => h) (by rfl) ?_ (by assumption) ?_
        rotate_left
        · intro w'
          go_simp
          try with_reducible rfl
        try simp only [Act.put, List.setIfInBounds_toArray, List.set_cons_zero, List.set_cons_succ]
        refine pickL (v := .agg (stL 1 to q x y r1 r2 oa1 oo1 e1 l1 r3).toArray) 1 (some 78) rfl rfl (by kernel_rfl) (by kernel_rfl) (by kernel_rfl) (by decide) (by kernel_rfl) (by kernel_rfl) (fun _ _ _ h => h) (by rfl) ?_ (by assumption) ?_
        · intro w' hSw
          obtain ⟨q0, q1⟩ := hSw
          exact exec_load rfl rfl (ld_step q0)
        try simp only [Act.put, List.setIfInBounds_toArray, List.set_cons_zero, List.set_cons_succ]
        refine pickA (v := ?_) 2 (some 79) rfl rfl (by kernel_rfl) (by kernel_rfl) (by kernel_rfl) (by decide) (fun _ _ _ h => h) (by rfl) ?_ (by assumption) ?_
        rotate_left
        · intro w'
          go_simp
          try with_reducible rfl
        try simp only [Act.put, List.setIfInBounds_toArray, List.set_cons_zero, List.set_cons_succ]
        refine pickA (v := ?_) 3 (some 80) rfl rfl (by kernel_rfl) (by kernel_rfl) (by kernel_rfl) (by decide) (fun _ _ _ h => h) (by rfl) ?_ (by assumption) ?_
        rotate_left
        · intro w'
          go_simp
          try with_reducible rfl
        try simp only [Act.put, List.setIfInBounds_toArray, List.set_cons_zero, List.set_cons_succ]
        refine pickA (v := ?_) 4 (some 81) rfl rfl (by kernel_rfl) (by kernel_rfl) (by kernel_rfl) (by decide) (fun _ _ _ h => h) (by rfl) ?_ (by assumption) ?_
        rotate_left
        · intro w'
          go_simp
          try with_reducible rfl
        try simp only [Act.put, List.setIfInBounds_toArray, List.set_cons_zero, List.set_cons_succ]
        refine pickA (v := ?_) 5 (some 82) rfl rfl (by kernel_rfl) (by kernel_rfl) (by kernel_rfl) (by decide) (fun _ _ _ h => h) (by rfl) ?_ (by assumption) ?_
        rotate_left
        · intro w'
          go_simp
          try with_reducible rfl
        try simp only [Act.put, List.setIfInBounds_toArray, List.set_cons_zero, List.set_cons_succ]
        refine pickL (v := .agg (anL aj).toArray) 6 (some 83) rfl rfl (by kernel_rfl) (by kernel_rfl) (by kernel_rfl) (by decide) (by kernel_rfl) (by kernel_rfl) (fun _ _ _ h => h) (by rfl) ?_ (by assumption) ?_
        · intro w' hSw
          obtain ⟨q0, q1⟩ := hSw
          exact exec_load rfl rfl q1
        try simp only [Act.put, List.setIfInBounds_toArray, List.set_cons_zero, List.set_cons_succ]
        refine oneL (i := 7) (by kernel_rfl) rfl (fun K hK => ?_)
        go_simp
        refine (held_any (.slice qa mn qc) m (by have := hmn.out; have := hmj.out; omega) 1 to q x y r1 r2 oa1 oo1 e1 l1 r3 aj WD (by have := IOd.out.row; rw [hmn.out] at this; rw [hmn.out]; exact this)).mono ?_
        rintro e w7 ⟨v7, rfl, hIo⟩
        have hb7 := hIo.bel
        have IO7 := hide (hIo.back BD.out)
        have X7 := hide (XD.out.below hb7)
        have B7 := hide (BD.out.trans (hb7.mono BD.out.size))
        have I7 := hide (IXd.out.below hb7)
        have L7 := hide (OA.out _ B7.out).2
        clear hIo hb7
        refine hK.out _ _ ?_ ?_
        · exact ⟨I7.out, L7.out⟩
        clear hK K
        try simp only [Act.put, List.setIfInBounds_toArray, List.set_cons_zero, List.set_cons_succ]
        clear hHeld
        have hHeld : (fun w' => IsB w' XB (stL 1 to q x y r1 r2 oa1 oo1 e1 l1 r3).toArray 53 ∧ (Instr.loadAt 57 (.pointer (some ⟨g, o + j * 14 + 1, none⟩))).run Tryd.prog w' = .ok (.agg (anL aj).toArray) w') w7 := ⟨I7.out, L7.out⟩
        refine pickA (v := ?_) 8 (some 9) rfl rfl (by kernel_rfl) (by kernel_rfl) (by kernel_rfl) (by decide) (fun _ _ _ h => h) (by rfl) ?_ (by assumption) ?_
        rotate_left
        · intro w'
          go_simp
          try with_reducible rfl
        try simp only [Act.put, List.setIfInBounds_toArray, List.set_cons_zero, List.set_cons_succ]
        refine doneL (by kernel_rfl) ?_ _
        clear hHeld
        obtain ⟨qa2, qc2, rfl, -, -⟩ := IO7.out.row.shape
        go_wp2
        exact ⟨⟨j + 1, qa2, qc2, hld m to.id q aj.k, (S.tell t aj).1, (S.tell t aj).2, by omega, by omega, rfl, by simp, (by have := hmj.out; have := hmn.out; have := hld_len m to.id q aj.k; show _ ≤ _; omega), hide (ok.out.tell aj), hide (by have := fr1.out.tell ok.out aj hkd.out; rw [hto.out, hqe.out] at this; exact this), X7, IO7, B7⟩, by simp [intOf]; omega⟩
    have hq3 : ¬ q = 3 := by
      have := (hlk (fun e => by rw [e] at hmn; have := hmn.out; simp at this; omega)).2
      rwa [hqe0] at this
    have hq3b : (q == 3) = false := by simpa using hq3
    have i5 : decide ((mn : Int) > 0) = true := decide_eq_true (by omega)
    have i6 : decide (0 < (mn : Int)) = true := decide_eq_true (by omega)
    have i7 : decide (0 < mn) = true := decide_eq_true (by omega)
    clear hlk
    clear hto0 hqe0
    cases wk with
    | true =>
      have NX := next_any b S t ok.out.plok wr X.out
      rw [hst.out] at NX
      replace NX := hide NX
      go_wp2_with fail
      refine NX.out.mono ?_
      rintro e w1 ⟨rfl, hbb⟩
      replace X := hide (X.out.below hbb)
      replace IO := hide (IO.out.below hbb)
      replace B := hide (B.out.trans (hbb.mono B.out.size))
      clear hbb NX
      have b3 := (Below.refl w1.heap.size w1).alloc (Nat.le_refl _) (.cells (stL 1 to q x y r1 r2 oa1 oo1 e1 l1 r3).toArray 53)
      have SN := hide (store_step w1 (stL 1 to q x y r1 r2 oa1 oo1 e1 l1 r3).toArray rfl (by kernel_rfl))
      have IX := hide (IsB.new w1 (stL 1 to q x y r1 r2 oa1 oo1 e1 l1 r3).toArray 53)
      replace X := hide (X.out.below b3)
      replace IO := hide (IO.out.below b3)
      replace B := hide (B.out.trans (b3.mono B.out.size))
      clear b3
      have x0 : (w1.alloc (.cells (stL 1 to q x y r1 r2 oa1 oo1 e1 l1 r3).toArray 53)).cell? ⟨w1.heap.size, 0, none⟩ = some (.int .i64 (1)) := IX.out.cell 0
      have x6 : (w1.alloc (.cells (stL 1 to q x y r1 r2 oa1 oo1 e1 l1 r3).toArray 53)).cell? ⟨w1.heap.size, 6, none⟩ = some (.int .i64 (q)) := IX.out.cell 6
      have c0 := (OA.out _ B.out).1
      go_wp2_with (first | (focus ((with_reducible refine wpList_store_w ?_ 53 (.tmp 11) (.tmp 45) ?_ ?_ ?_ SN.out ?_); rotate_left; rfl; rfl; rfl; rotate_left; rfl)))
      refine (wake_any b S t _ X.out).mono ?_
      rintro e w6 ⟨rfl, X6, K6⟩
      replace IO := hide (IO.out.kpb K6 hBb.out X.out.noint)
      replace B := hide (B.out.trans (K6.to_below B.out.size (by simpa using hBb.out)))
      have XN := hide X6
      clear X6 K6
      go_wp2
      exact ⟨⟨j + 1, qa, qc, m, S.wake, t, by omega, by omega, by rw [hmn.out], by simp, (by have := hmj.out; have := hmn.out; show _ ≤ _; omega), hide ok.out.wake, hide fr1.out.wake, XN, by rw [hmn.out]; exact IO, B⟩, by simp [intOf]; omega⟩
    | false =>
      have NX := next_any b S t ok.out.plok wr X.out
      rw [hst.out] at NX
      replace NX := hide NX
      go_wp2_with fail
      refine NX.out.mono ?_
      rintro e w1 ⟨rfl, hbb⟩
      replace X := hide (X.out.below hbb)
      replace IO := hide (IO.out.below hbb)
      replace B := hide (B.out.trans (hbb.mono B.out.size))
      clear hbb NX
      have b3 := (Below.refl w1.heap.size w1).alloc (Nat.le_refl _) (.cells (stL 1 to q x y r1 r2 oa1 oo1 e1 l1 r3).toArray 53)
      have SN := hide (store_step w1 (stL 1 to q x y r1 r2 oa1 oo1 e1 l1 r3).toArray rfl (by kernel_rfl))
      have IX := hide (IsB.new w1 (stL 1 to q x y r1 r2 oa1 oo1 e1 l1 r3).toArray 53)
      replace X := hide (X.out.below b3)
      replace IO := hide (IO.out.below b3)
      replace B := hide (B.out.trans (b3.mono B.out.size))
      clear b3
      have x0 : (w1.alloc (.cells (stL 1 to q x y r1 r2 oa1 oo1 e1 l1 r3).toArray 53)).cell? ⟨w1.heap.size, 0, none⟩ = some (.int .i64 (1)) := IX.out.cell 0
      have x6 : (w1.alloc (.cells (stL 1 to q x y r1 r2 oa1 oo1 e1 l1 r3).toArray 53)).cell? ⟨w1.heap.size, 6, none⟩ = some (.int .i64 (q)) := IX.out.cell 6
      have c0 := (OA.out _ B.out).1
      have LA := hide (OA.out _ B.out).2
      go_wp2_with (first | (focus ((with_reducible refine wpList_store_w ?_ 53 (.tmp 11) (.tmp 45) ?_ ?_ ?_ SN.out ?_); rotate_left; rfl; rfl; rfl; rotate_left; rfl)) | (focus ((with_reducible refine wpList_load_w ?_ 57 (.tmp 71) ?_ ?_ LA.out ?_); rotate_left; rfl; rfl; rotate_left; rfl)))
      have hnx := X.out.ne IX.out (by decide)
      refine (tell_any b S t aj ok.out.plok _ X.out).mono ?_
      rintro e w6 ⟨rfl, X6, K6⟩
      replace IO := hide (IO.out.kpb K6 hBb.out X.out.noint)
      replace IX := hide (IX.out.kp K6 (by simpa using hnx))
      replace B := hide (B.out.trans (K6.to_below B.out.size (by simpa using hBb.out)))
      have XN := hide X6
      obtain ⟨XB, hXB⟩ : ∃ XB, w1.heap.size = XB := ⟨_, rfl⟩
      rw [hXB] at IX ⊢
      clear X6 K6 hnx SN x0 x6 c0 LA hXB
      have x0 : w6.cell? ⟨XB, 0, none⟩ = some (.int .i64 (1)) := IX.out.cell 0
      go_wp2_with fail
      have IXd := hide (IX.out.below ((Below.refl _ _).drew))
      have XD := hide (XN.out.below ((Below.refl _ _).drew))
      have IOd := hide (IO.out.below ((Below.refl _ _).drew))
      have BD := hide (B.out.drew)
      have LAd := hide (OA.out _ BD.out).2
      clear IX XN IO B x0
      refine regionL 9 (fun w' => IsB w' XB (stL 1 to q x y r1 r2 oa1 oo1 e1 l1 r3).toArray 53 ∧ (Instr.loadAt 57 (.pointer (some ⟨g, o + j * 14 + 1, none⟩))).run Tryd.prog w' = .ok (.agg (anL aj).toArray) w') mixed ⟨IXd.out, LAd.out⟩ (fun hHeld => ?_)
      generalize w6.drew = WD at *
      refine pickA (v := ?_) 0 (some 77) rfl rfl (by kernel_rfl) (by kernel_rfl) (by kernel_rfl) (by decide) (fun _ _ _ h => h) (by rfl) ?_ (by assumption) ?_
      rotate_left
      · intro w'
        go_simp
        try with_reducible rfl
      try simp only [Act.put, List.setIfInBounds_toArray, List.set_cons_zero, List.set_cons_succ]
      refine pickL (v := .agg (stL 1 to q x y r1 r2 oa1 oo1 e1 l1 r3).toArray) 1 (some 78) rfl rfl (by kernel_rfl) (by kernel_rfl) (by kernel_rfl) (by decide) (by kernel_rfl) (by kernel_rfl) (fun _ _ _ h => h) (by rfl) ?_ (by assumption) ?_
      · intro w' hSw
        obtain ⟨q0, q1⟩ := hSw
        exact exec_load rfl rfl (ld_step q0)
      try simp only [Act.put, List.setIfInBounds_toArray, List.set_cons_zero, List.set_cons_succ]
      refine pickA (v := ?_) 2 (some 79) rfl rfl (by kernel_rfl) (by kernel_rfl) (by kernel_rfl) (by decide) (fun _ _ _ h => h) (by rfl) ?_ (by assumption) ?_
      rotate_left
      · intro w'
        go_simp
        try with_reducible rfl
      try simp only [Act.put, List.setIfInBounds_toArray, List.set_cons_zero, List.set_cons_succ]
      refine pickA (v := ?_) 3 (some 80) rfl rfl (by kernel_rfl) (by kernel_rfl) (by kernel_rfl) (by decide) (fun _ _ _ h => h) (by rfl) ?_ (by assumption) ?_
      rotate_left
      · intro w'
        go_simp
        try with_reducible rfl
      try simp only [Act.put, List.setIfInBounds_toArray, List.set_cons_zero, List.set_cons_succ]
      refine pickA (v := ?_) 4 (some 81) rfl rfl (by kernel_rfl) (by kernel_rfl) (by kernel_rfl) (by decide) (fun _ _ _ h => h) (by rfl) ?_ (by assumption) ?_
      rotate_left
      · intro w'
        go_simp
        try with_reducible rfl
      try simp only [Act.put, List.setIfInBounds_toArray, List.set_cons_zero, List.set_cons_succ]
      refine pickA (v := ?_) 5 (some 82) rfl rfl (by kernel_rfl) (by kernel_rfl) (by kernel_rfl) (by decide) (fun _ _ _ h => h) (by rfl) ?_ (by assumption) ?_
      rotate_left
      · intro w'
        go_simp
        try with_reducible rfl
      try simp only [Act.put, List.setIfInBounds_toArray, List.set_cons_zero, List.set_cons_succ]
      refine pickL (v := .agg (anL aj).toArray) 6 (some 83) rfl rfl (by kernel_rfl) (by kernel_rfl) (by kernel_rfl) (by decide) (by kernel_rfl) (by kernel_rfl) (fun _ _ _ h => h) (by rfl) ?_ (by assumption) ?_
      · intro w' hSw
        obtain ⟨q0, q1⟩ := hSw
        exact exec_load rfl rfl q1
      try simp only [Act.put, List.setIfInBounds_toArray, List.set_cons_zero, List.set_cons_succ]
      refine oneL (i := 7) (by kernel_rfl) rfl (fun K hK => ?_)
      go_simp
      refine (held_any (.slice qa mn qc) m (by have := hmn.out; have := hmj.out; omega) 1 to q x y r1 r2 oa1 oo1 e1 l1 r3 aj WD (by have := IOd.out.row; rw [hmn.out] at this; rw [hmn.out]; exact this)).mono ?_
      rintro e w7 ⟨v7, rfl, hIo⟩
      have hb7 := hIo.bel
      have IO7 := hide (hIo.back BD.out)
      have X7 := hide (XD.out.below hb7)
      have B7 := hide (BD.out.trans (hb7.mono BD.out.size))
      have I7 := hide (IXd.out.below hb7)
      have L7 := hide (OA.out _ B7.out).2
      clear hIo hb7
      refine hK.out _ _ ?_ ?_
      · exact ⟨I7.out, L7.out⟩
      clear hK K
      try simp only [Act.put, List.setIfInBounds_toArray, List.set_cons_zero, List.set_cons_succ]
      clear hHeld
      have hHeld : (fun w' => IsB w' XB (stL 1 to q x y r1 r2 oa1 oo1 e1 l1 r3).toArray 53 ∧ (Instr.loadAt 57 (.pointer (some ⟨g, o + j * 14 + 1, none⟩))).run Tryd.prog w' = .ok (.agg (anL aj).toArray) w') w7 := ⟨I7.out, L7.out⟩
      refine pickA (v := ?_) 8 (some 9) rfl rfl (by kernel_rfl) (by kernel_rfl) (by kernel_rfl) (by decide) (fun _ _ _ h => h) (by rfl) ?_ (by assumption) ?_
      rotate_left
      · intro w'
        go_simp
        try with_reducible rfl
      try simp only [Act.put, List.setIfInBounds_toArray, List.set_cons_zero, List.set_cons_succ]
      refine doneL (by kernel_rfl) ?_ _
      clear hHeld
      obtain ⟨qa2, qc2, rfl, -, -⟩ := IO7.out.row.shape
      go_wp2
      exact ⟨⟨j + 1, qa2, qc2, hld m to.id q aj.k, (S.tell t aj).1, (S.tell t aj).2, by omega, by omega, rfl, by simp, (by have := hmj.out; have := hmn.out; have := hld_len m to.id q aj.k; show _ ≤ _; omega), hide (ok.out.tell aj), hide (by have := fr1.out.tell ok.out aj hkd.out; rw [hto.out, hqe.out] at this; exact this), X7, IO7, B7⟩, by simp [intOf]; omega⟩

theorem frees_any (wl wb : Int) (me fr : Rf) (oa oo : Int) (v : Value) (l : List (Bool × An)) (hb0 : 0 ≤ me.bt) (hc0 : 0 ≤ wb) (w : World) (hR : Ranks w) (hO : OpSl w v l) : Calls Tryd.prog 5 #[.agg (cfL wl wb me fr oa oo).toArray, v] w fun e w' => e = .returned (.bool true) ∧ Below w.heap.size w w' := by
  cases hm : mayC wl wb me fr oa oo with
  | false => exact frees_bad wl wb me fr oa oo v hb0 hc0 hm w hR
  | true => exact frees_good wl wb me fr oa oo v l hb0 hc0 hm w hR hO

end Go.Proofs.YtofmommoeligoaaDoor
