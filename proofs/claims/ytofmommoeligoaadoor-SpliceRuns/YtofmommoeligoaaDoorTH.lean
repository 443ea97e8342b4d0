/- may, New; the document's ends; at, conf, alive. -/
import Derived.Test.YtofmommoeligoaaDoorTG
namespace Go.Proofs.YtofmommoeligoaaDoor
open Go.RowKit Go.Maps Go.ChangeMaps

/-- May an owner be? -/
def okO (a o : Int) : Bool := decide (0 ≤ a ∧ a < 1024 ∧ 1 ≤ o ∧ o ≤ 1073741824)
def chE (a o : Int) : Int := if okO a o then 0 else 70
theorem chE_yes {a o : Int} (h : okO a o = true) : chE a o = 0 := by simp [chE, h]
theorem chE_no {a o : Int} (h : okO a o = false) : chE a o = 70 := by simp [chE, h]

set_option maxHeartbeats 800000 in
theorem check_any (a o : Int) (w : World) : Calls Tryd.prog 59 #[.agg #[.int .i64 a, .int .i64 o]] w fun e w' => e = .returned (.int .i64 (chE a o)) ∧ Below w.heap.size w w' := by
  have fin : Below w.heap.size w (w.alloc (.cells #[.int .i64 a, .int .i64 o] 31)) := (Below.refl _ _).alloc (Nat.le_refl _) _
  by_cases h0 : a < 0
  · rw [chE_no (by unfold okO; simp; omega)]
    go_enter Tryd.func59, Tryd.ntmps59
    go_wp2
    go_ret
    exact ⟨rfl, fin⟩
  · by_cases h1 : 1024 ≤ a
    · rw [chE_no (by unfold okO; simp; omega)]
      go_enter Tryd.func59, Tryd.ntmps59
      go_wp2
      go_ret
      exact ⟨rfl, fin⟩
    · by_cases h2 : o < 1
      · rw [chE_no (by unfold okO; simp; omega)]
        go_enter Tryd.func59, Tryd.ntmps59
        go_wp2
        go_ret
        exact ⟨rfl, fin⟩
      · by_cases h3 : 1073741824 < o
        · rw [chE_no (by unfold okO; simp; omega)]
          go_enter Tryd.func59, Tryd.ntmps59
          go_wp2
          go_ret
          exact ⟨rfl, fin⟩
        · rw [chE_yes (by unfold okO; simp; omega)]
          go_enter Tryd.func59, Tryd.ntmps59
          go_wp2
          go_ret
          exact ⟨rfl, fin⟩

theorem ret_rt {fn : Func} {p u : Tmp} (hf : fn.results = #[.cell p 29, .tmp u]) {Q : Ending → World → Prop} {tmps : Array Value} {w : World} {b : Nat} {cs : Array Value} {v : Value} (hs : cs.size = 5)
    (hp : tmps.getD p undef = .pointer (some ⟨b, 0, none⟩)) (hu : tmps.getD u undef = v) (I : IsB w b cs 29) (hQ : Q (.returned (.tuple #[.agg cs, v])) w) :
    bodyPost Tryd.prog fn Q .ret ⟨tmps, []⟩ w := by
  refine bodyPost_ret ?_ rfl hQ
  rw [results_cell_tmp hf, hp, hu]
  have h := run_loadVar_row (P := Tryd.prog) w b 29 29 cs (0, 0) _ I Tryd.underlying29 rfl (by rw [hs]; exact ref_info)
  simp [asAddr, h, Result.andThen]

set_option maxHeartbeats 1000000 in
set_option maxRecDepth 100000 in
theorem rhead_ok (n : Int) (h0 : 0 ≤ n) (h1 : n ≤ 32) (w : World) : Calls Tryd.prog 54 #[.int .i64 n] w fun e w' => e = .returned (.tuple #[.agg #[.int .i64 0, .int .i64 1, .int .u64 0, .int .i64 n, .int .u64 0], .int .i64 0]) ∧ Below w.heap.size w w' := by
  have d0 : decide (n < 0) = false := decide_eq_false (by omega)
  have d1 : decide (32 < n) = false := decide_eq_false (by omega)
  go_enter Tryd.func54, Tryd.ntmps54
  go_wp2
  refine ret_rt (p := 2) (u := 3) (b := w.heap.size) Tryd.results54 rfl rfl rfl (IsB.new w #[.int .i64 0, .int .i64 1, .int .u64 0, .int .i64 n, .int .u64 0] 29) ?_
  exact ⟨rfl, (Below.refl _ w).alloc (Nat.le_refl _) _⟩

set_option maxHeartbeats 1000000 in
set_option maxRecDepth 100000 in
theorem rtail_ok (n : Int) (h0 : 0 ≤ n) (h1 : n ≤ 32) (w : World) : Calls Tryd.prog 33 #[.int .i64 n] w fun e w' => e = .returned (.tuple #[.agg #[.int .i64 1, .int .i64 3, .int .u64 0, .int .i64 n, .int .u64 0], .int .i64 0]) ∧ Below w.heap.size w w' := by
  have d0 : decide (n < 0) = false := decide_eq_false (by omega)
  have d1 : decide (32 < n) = false := decide_eq_false (by omega)
  go_enter Tryd.func33, Tryd.ntmps33
  go_wp2
  refine ret_rt (p := 2) (u := 3) (b := w.heap.size) Tryd.results33 rfl rfl rfl (IsB.new w #[.int .i64 1, .int .i64 3, .int .u64 0, .int .i64 n, .int .u64 0] 29) ?_
  exact ⟨rfl, (Below.refl _ w).alloc (Nat.le_refl _) _⟩

/-- May settings be? -/
def mayC (wl wb : Int) (me fr : Rf) (oa oo : Int) : Bool := me.rk == 2 && (bgS me.ln me.bt wl wb && (decide (ckE fr.rk fr.kn = 0) && (klt (fr.rk, fr.kn) (me.rk, me.kn) && okO oa oo)))

set_option maxHeartbeats 2000000 in
set_option maxRecDepth 100000 in
theorem may_any (wl wb : Int) (me fr : Rf) (oa oo : Int) (hb0 : 0 ≤ me.bt) (hc0 : 0 ≤ wb) (w : World) (hR : Ranks w) : Calls Tryd.prog 27 #[.agg (cfL wl wb me fr oa oo).toArray] w fun e w' => e = .returned (.bool (mayC wl wb me fr oa oo)) ∧ Below w.heap.size w w' := by
  have b1 := (Below.refl w.heap.size w).alloc (Nat.le_refl _) (.cells (cfL wl wb me fr oa oo).toArray 33)
  have CB := hide (IsB.new w (cfL wl wb me fr oa oo).toArray 33)
  have HR := hide (hR.below b1)
  have B := hide b1
  generalize hE : mayC wl wb me fr oa oo = E
  unfold mayC at hE
  clear b1 hR
  have y3 : (w.alloc (.cells (cfL wl wb me fr oa oo).toArray 33)).cell? ⟨w.heap.size, 3, none⟩ = some (.int .i64 me.rk) := CB.out.cell 3
  by_cases h0 : me.rk = 2
  rotate_left
  · have e2 : (me.rk == 2) = false := by simpa using h0
    have E0 : Hid (E = false) := by rw [← hE, e2]; rfl
    clear hE
    generalize me.rk = rk at *
    go_enter Tryd.func27, Tryd.ntmps27
    go_wp2
    go_ret
    exact ⟨by rw [E0.out]; rfl, B.out⟩
  have e2 : (me.rk == 2) = true := by simpa using h0
  rw [e2, Bool.true_and] at hE
  rw [h0] at y3
  replace h0 := hide h0
  clear e2
  have L1 := hide (ld_cmev CB.out)
  have L2 := hide (ld_cw CB.out)
  go_enter Tryd.func27, Tryd.ntmps27
  go_wp2_with (first | (focus ((with_reducible refine wpList_load_w ?_ 24 (.tmp 10) ?_ ?_ L1.out ?_); rotate_left; rfl; rfl; rotate_left; rfl)) | (focus ((with_reducible refine wpList_load_w ?_ 24 (.tmp 12) ?_ ?_ L2.out ?_); rotate_left; rfl; rfl; rotate_left; rfl)))
  generalize (w.alloc (.cells (cfL wl wb me fr oa oo).toArray 33)) = W1 at *
  refine (vBegins_any me.ln me.bt wl wb hb0 hc0 W1).mono ?_
  rintro e w2 ⟨rfl, hb⟩
  replace CB := hide (CB.out.below hb)
  replace HR := hide (HR.out.below hb)
  replace B := hide (B.out.trans (hb.mono B.out.size))
  clear hb
  clear L1 L2 y3
  by_cases h1 : bgS me.ln me.bt wl wb = true
  rotate_left
  · replace h1 : bgS me.ln me.bt wl wb = false := by simpa using h1
    rw [h1]
    have E0 : Hid (E = false) := by rw [← hE, h1]; rfl
    clear hE h1
    go_wp2
    go_ret
    exact ⟨by rw [E0.out]; rfl, B.out⟩
  rw [h1]
  rw [h1, Bool.true_and] at hE
  replace h1 := hide h1
  have L3 := hide (ld_cfrk CB.out)
  go_wp2_with (first | (focus ((with_reducible refine wpList_load_w ?_ 27 (.tmp 18) ?_ ?_ L3.out ?_); rotate_left; rfl; rfl; rotate_left; rfl)))
  refine (kCheck_any fr.rk fr.kn w2 HR.out).mono ?_
  rintro e w3 ⟨rfl, hg⟩
  have hb := hg.below
  replace CB := hide (CB.out.below hb)
  replace HR := hide (HR.out.below hb)
  replace B := hide (B.out.trans (hb.mono B.out.size))
  clear hb
  clear hg L3
  rcases ck_cases fr.rk fr.kn with ⟨h3, -⟩ | ⟨h3, -⟩
  · rw [h3]
    have E0 : Hid (E = false) := by rw [← hE, h3]; rfl
    clear hE h3
    go_wp2
    go_ret
    exact ⟨by rw [E0.out]; rfl, B.out⟩
  rw [h3]
  rw [h3] at hE
  simp only [decide_true, Bool.true_and] at hE
  replace h3 := hide h3
  have L4 := hide (ld_cfrk CB.out)
  have L5 := hide (ld_cmek CB.out)
  go_wp2_with (first | (focus ((with_reducible refine wpList_load_w ?_ 27 (.tmp 25) ?_ ?_ L4.out ?_); rotate_left; rfl; rfl; rotate_left; rfl)) | (focus ((with_reducible refine wpList_load_w ?_ 27 (.tmp 28) ?_ ?_ L5.out ?_); rotate_left; rfl; rfl; rotate_left; rfl)))
  refine (kLess_any fr.rk fr.kn me.rk me.kn w3).mono ?_
  rintro e w4 ⟨rfl, hg⟩
  have hb := hg.below
  replace CB := hide (CB.out.below hb)
  replace HR := hide (HR.out.below hb)
  replace B := hide (B.out.trans (hb.mono B.out.size))
  clear hb
  clear hg L4 L5
  by_cases h5 : klt (fr.rk, fr.kn) (me.rk, me.kn) = true
  rotate_left
  · replace h5 : klt (fr.rk, fr.kn) (me.rk, me.kn) = false := by simpa using h5
    rw [h5]
    have E0 : Hid (E = false) := by rw [← hE, h5]; rfl
    clear hE h5
    go_wp2
    go_ret
    exact ⟨by rw [E0.out]; rfl, B.out⟩
  rw [h5]
  rw [h5, Bool.true_and] at hE
  replace h5 := hide h5
  have L6 := hide (ld_cow CB.out)
  go_wp2_with (first | (focus ((with_reducible refine wpList_load_w ?_ 31 (.tmp 33) ?_ ?_ L6.out ?_); rotate_left; rfl; rfl; rotate_left; rfl)))
  refine (check_any oa oo w4).mono ?_
  rintro e w5 ⟨rfl, hb⟩
  replace CB := hide (CB.out.below hb)
  replace HR := hide (HR.out.below hb)
  replace B := hide (B.out.trans (hb.mono B.out.size))
  clear hb
  clear L6
  by_cases h6 : okO oa oo = true
  · rw [chE_yes h6]
    have E0 : Hid (E = true) := hE.symm.trans h6
    clear hE h6
    go_wp2
    go_ret
    exact ⟨by rw [E0.out]; rfl, B.out⟩
  · replace h6 : okO oa oo = false := by simpa using h6
    rw [chE_no h6]
    have E0 : Hid (E = false) := hE.symm.trans h6
    clear hE h6
    go_wp2
    go_ret
    exact ⟨by rw [E0.out]; rfl, B.out⟩

set_option maxHeartbeats 2000000 in
set_option maxRecDepth 100000 in
theorem new_bad (wl wb : Int) (me fr : Rf) (oa oo : Int) (hb0 : 0 ≤ me.bt) (hc0 : 0 ≤ wb) (hm : mayC wl wb me fr oa oo = false) (w : World) (hR : Ranks w) : Calls Tryd.prog 8 #[.agg (cfL wl wb me fr oa oo).toArray] w fun e w' => e = .returned (.tuple #[.pointer none, .int .i64 130]) ∧ Below w.heap.size w w' := by
  have b1 := (Below.refl w.heap.size w).alloc (Nat.le_refl _) (.cells (cfL wl wb me fr oa oo).toArray 33)
  have CB := hide (IsB.new w (cfL wl wb me fr oa oo).toArray 33)
  have L1 := hide (ld_cconf CB.out)
  have MY := hide (may_any wl wb me fr oa oo hb0 hc0 _ (hR.below b1))
  have B := hide b1
  rw [hm] at MY
  clear b1 hR hm
  go_enter Tryd.func8, Tryd.ntmps8
  go_wp2_with (first | (focus ((with_reducible refine wpList_load_w ?_ 33 (.tmp 1) ?_ ?_ L1.out ?_); rotate_left; rfl; rfl; rotate_left; rfl)))
  refine MY.out.mono ?_
  rintro e w2 ⟨rfl, hb⟩
  replace CB := hide (CB.out.below hb)
  replace B := hide (B.out.trans (hb.mono B.out.size))
  clear hb MY L1
  clear CB
  go_wp2
  refine bodyPost_ret (results_tmp2 Tryd.results8 _ _ _) rfl ?_
  exact ⟨rfl, B.out⟩

/-- A new splice. -/
def newS (wl wb : Int) (me fr : Rf) (oa oo : Int) : Sp := ⟨wl, wb, me, fr, oa, oo, 1, fr, false, zr, false, zr, 0, zr, zr⟩
theorem newS_ok (wl wb : Int) (me fr : Rf) (oa oo : Int) : PlOk (newS wl wb me fr oa oo) none := ⟨Or.inl rfl, fun h => by cases h⟩

set_option maxHeartbeats 2000000 in
set_option maxRecDepth 100000 in
theorem new_ok (wl wb : Int) (me fr : Rf) (oa oo : Int) (hb0 : 0 ≤ me.bt) (hc0 : 0 ≤ wb) (hm : mayC wl wb me fr oa oo = true) (w : World) (hR : Ranks w) : Calls Tryd.prog 8 #[.agg (cfL wl wb me fr oa oo).toArray] w fun e w' => ∃ b, e = .returned (.tuple #[.pointer (some ⟨b, 0, none⟩), .int .i64 0]) ∧ SpAt w' b (newS wl wb me fr oa oo) none ∧ w.heap.size ≤ b ∧ Below w.heap.size w w' := by
  have b1 := (Below.refl w.heap.size w).alloc (Nat.le_refl _) (.cells (cfL wl wb me fr oa oo).toArray 33)
  have CB := hide (IsB.new w (cfL wl wb me fr oa oo).toArray 33)
  have L1 := hide (ld_cconf CB.out)
  have MY := hide (may_any wl wb me fr oa oo hb0 hc0 _ (hR.below b1))
  have B := hide b1
  rw [hm] at MY
  clear b1 hR hm
  go_enter Tryd.func8, Tryd.ntmps8
  go_wp2_with (first | (focus ((with_reducible refine wpList_load_w ?_ 33 (.tmp 1) ?_ ?_ L1.out ?_); rotate_left; rfl; rfl; rotate_left; rfl)))
  refine MY.out.mono ?_
  rintro e w2 ⟨rfl, hb⟩
  replace CB := hide (CB.out.below hb)
  replace B := hide (B.out.trans (hb.mono B.out.size))
  clear hb MY L1
  have LC : Hid ((Instr.loadAt 33 (.pointer (some ⟨w.heap.size, 0, none⟩))).run Tryd.prog w2 = .ok (.agg #[.int .i64 wl, .int .u64 wb, .int .i64 me.id, .int .i64 me.rk, .int .u64 me.kn, .int .i64 me.ln, .int .u64 me.bt, .int .i64 fr.id, .int .i64 fr.rk, .int .u64 fr.kn, .int .i64 fr.ln, .int .u64 fr.bt, .int .i64 oa, .int .i64 oo]) w2) := ld_cconf CB.out
  have LF : Hid ((Instr.loadAt 29 (.pointer (some ⟨w.heap.size, 7, none⟩))).run Tryd.prog w2 = .ok (.agg #[.int .i64 fr.id, .int .i64 fr.rk, .int .u64 fr.kn, .int .i64 fr.ln, .int .u64 fr.bt]) w2) := ld_cfr CB.out
  have bS := (Below.refl w2.heap.size w2).alloc (Nat.le_refl _) (.cells (spL (newS wl wb me fr oa oo) .nilFunc).toArray 85)
  have F0 : Hid (SpAt (w2.alloc (.cells (spL (newS wl wb me fr oa oo) .nilFunc).toArray 85)) w2.heap.size (newS wl wb me fr oa oo) none) := ⟨_, IsB.new w2 _ _, trivial⟩
  have hsz := hide B.out.size
  replace B := hide (B.out.trans (bS.mono B.out.size))
  clear bS CB
  go_wp2_with (first | (focus ((with_reducible refine wpList_load_w ?_ 33 (.tmp 1) ?_ ?_ LC.out ?_); rotate_left; rfl; rfl; rotate_left; rfl)) | (focus ((with_reducible refine wpList_load_w ?_ 29 (.tmp 8) ?_ ?_ LF.out ?_); rotate_left; rfl; rfl; rotate_left; rfl)))
  refine bodyPost_ret (results_tmp2 Tryd.results8 _ _ _) rfl ?_
  exact ⟨w2.heap.size, rfl, F0.out, hsz.out, B.out⟩

end Go.Proofs.YtofmommoeligoaaDoor
