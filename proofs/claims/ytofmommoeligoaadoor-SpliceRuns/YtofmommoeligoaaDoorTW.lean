/- The document's IsKey (chapter 3), IsOwner (7), Less (9), New (13). -/
import Derived.Test.YtofmommoeligoaaDoorTV
namespace Go.Proofs.YtofmommoeligoaaDoor
open Go.RowKit Go.Maps Go.ChangeMaps

theorem klt_dec (r n s m : Int) : klt (r, n) (s, m) = decide (r < s ∨ r = s ∧ n < m) := by
  unfold klt
  rcases Int.lt_trichotomy r s with h | h | h
  · rw [kcmp_lt (Or.inl h)]; simp [h]
  · subst h
    rcases Int.lt_trichotomy n m with k | k | k
    · rw [kcmp_lt (Or.inr ⟨rfl, k⟩)]; simp [k]
    · subst k; rw [kcmp_eq]; simp
    · rw [kcmp_gt (Or.inr ⟨rfl, k⟩)]; simp; omega
  · rw [kcmp_gt (Or.inl h)]; simp; omega

set_option maxHeartbeats 400000 in
set_option maxRecDepth 100000 in
theorem r9Less_any (r n s m : Int) (w : World) : Calls Tryd.prog 21 #[(.agg #[.int .i64 (r), .int .u64 (n)]), (.agg #[.int .i64 (s), .int .u64 (m)])] w fun e w' => e = .returned (.bool (klt (r, n) (s, m))) ∧ Below w.heap.size w w' := by
  rw [klt_dec]
  by_cases h1 : r < s
  · have d1 : decide (r < s) = true := decide_eq_true h1
    have e1 : decide (r < s ∨ r = s ∧ n < m) = true := decide_eq_true (Or.inl h1)
    rw [e1]
    go_enter Tryd.func21, Tryd.ntmps21
    go_wp2
    go_ret
    exact ⟨rfl, by repeat (first | exact Below.refl _ _ | refine Below.alloc ?_ (by simp) _)⟩
  have d1 : decide (r < s) = false := decide_eq_false h1
  by_cases h2 : r = s
  · subst h2
    have d2 : (r == r) = true := by simp
    by_cases h3 : n < m
    · have d3 : decide (n < m) = true := decide_eq_true h3
      have e1 : decide (r < r ∨ r = r ∧ n < m) = true := decide_eq_true (Or.inr ⟨rfl, h3⟩)
      rw [e1]
      go_enter Tryd.func21, Tryd.ntmps21
      go_wp2
      go_ret
      exact ⟨rfl, by repeat (first | exact Below.refl _ _ | refine Below.alloc ?_ (by simp) _)⟩
    · have d3 : decide (n < m) = false := decide_eq_false h3
      have e1 : decide (r < r ∨ r = r ∧ n < m) = false := decide_eq_false (by omega)
      rw [e1]
      go_enter Tryd.func21, Tryd.ntmps21
      go_wp2
      go_ret
      exact ⟨rfl, by repeat (first | exact Below.refl _ _ | refine Below.alloc ?_ (by simp) _)⟩
  · have d2 : (r == s) = false := by simpa using h2
    have e1 : decide (r < s ∨ r = s ∧ n < m) = false := decide_eq_false (by omega)
    rw [e1]
    go_enter Tryd.func21, Tryd.ntmps21
    go_wp2
    go_ret
    exact ⟨rfl, by repeat (first | exact Below.refl _ _ | refine Below.alloc ?_ (by simp) _)⟩

set_option maxHeartbeats 400000 in
set_option maxRecDepth 100000 in
theorem isKey_any (r n : Int) (w : World) : Calls Tryd.prog 30 #[(.agg #[.int .i64 (r), .int .u64 (n)])] w fun e w' => e = .returned (.bool (decide (ckE r n = 0))) ∧ Below w.heap.size w w' := by
  rcases ck_cases r n with ⟨h, h'⟩ | ⟨h, h'⟩
  · rw [h, show decide ((20 : Int) = 0) = false from rfl]
    have h2 : ¬ r = 2 := fun e => h' (Or.inl e)
    have e2 : (r == 2) = false := by simpa using h2
    by_cases hn : n = 0
    · subst hn
      have h1 : ¬ r = 1 := fun e => h' (Or.inr ⟨Or.inl e, rfl⟩)
      have h3 : ¬ r = 3 := fun e => h' (Or.inr ⟨Or.inr e, rfl⟩)
      have e1 : (r == 1) = false := by simpa using h1
      have e3 : (r == 3) = false := by simpa using h3
      clear h h'
      go_enter Tryd.func30, Tryd.ntmps30
      go_wp2
      go_ret
      exact ⟨rfl, by repeat (first | exact Below.refl _ _ | refine Below.alloc ?_ (by simp) _)⟩
    · have e0 : (n == 0) = false := by simpa using hn
      clear h h'
      go_enter Tryd.func30, Tryd.ntmps30
      go_wp2
      go_ret
      exact ⟨rfl, by repeat (first | exact Below.refl _ _ | refine Below.alloc ?_ (by simp) _)⟩
  · rw [h, show decide ((0 : Int) = 0) = true from rfl]
    rcases h' with rfl | ⟨rfl, rfl⟩ | ⟨rfl, rfl⟩
    · clear h
      go_enter Tryd.func30, Tryd.ntmps30
      go_wp2
      go_ret
      exact ⟨rfl, by repeat (first | exact Below.refl _ _ | refine Below.alloc ?_ (by simp) _)⟩
    · clear h
      go_enter Tryd.func30, Tryd.ntmps30
      go_wp2
      go_ret
      exact ⟨rfl, by repeat (first | exact Below.refl _ _ | refine Below.alloc ?_ (by simp) _)⟩
    · clear h
      go_enter Tryd.func30, Tryd.ntmps30
      go_wp2
      go_ret
      exact ⟨rfl, by repeat (first | exact Below.refl _ _ | refine Below.alloc ?_ (by simp) _)⟩

set_option maxHeartbeats 400000 in
set_option maxRecDepth 100000 in
theorem isOwner_any (a o : Int) (w : World) : Calls Tryd.prog 31 #[.agg #[.int .i64 a, .int .i64 o]] w fun e w' => e = .returned (.bool (okO a o)) ∧ Below w.heap.size w w' := by
  by_cases h0 : a < 0
  · have E : okO a o = false := decide_eq_false (by omega)
    rw [E]
    have d0 : decide (0 ≤ a) = false := decide_eq_false (by omega)
    go_enter Tryd.func31, Tryd.ntmps31
    go_wp2
    go_ret
    exact ⟨rfl, by repeat (first | exact Below.refl _ _ | refine Below.alloc ?_ (by simp) _)⟩
  by_cases h1 : 1024 ≤ a
  · have E : okO a o = false := decide_eq_false (by omega)
    rw [E]
    have d0 : decide (0 ≤ a) = true := decide_eq_true (by omega)
    have d1 : decide (a < 1024) = false := decide_eq_false (by omega)
    go_enter Tryd.func31, Tryd.ntmps31
    go_wp2
    go_ret
    exact ⟨rfl, by repeat (first | exact Below.refl _ _ | refine Below.alloc ?_ (by simp) _)⟩
  by_cases h2 : o < 1
  · have E : okO a o = false := decide_eq_false (by omega)
    rw [E]
    have d0 : decide (0 ≤ a) = true := decide_eq_true (by omega)
    have d1 : decide (a < 1024) = true := decide_eq_true (by omega)
    have d2 : decide (1 ≤ o) = false := decide_eq_false (by omega)
    go_enter Tryd.func31, Tryd.ntmps31
    go_wp2
    go_ret
    exact ⟨rfl, by repeat (first | exact Below.refl _ _ | refine Below.alloc ?_ (by simp) _)⟩
  by_cases h3 : 1073741824 < o
  · have E : okO a o = false := decide_eq_false (by omega)
    rw [E]
    have d0 : decide (0 ≤ a) = true := decide_eq_true (by omega)
    have d1 : decide (a < 1024) = true := decide_eq_true (by omega)
    have d2 : decide (1 ≤ o) = true := decide_eq_true (by omega)
    have d3 : decide (o ≤ 1073741824) = false := decide_eq_false (by omega)
    go_enter Tryd.func31, Tryd.ntmps31
    go_wp2
    go_ret
    exact ⟨rfl, by repeat (first | exact Below.refl _ _ | refine Below.alloc ?_ (by simp) _)⟩
  have E : okO a o = true := decide_eq_true (by omega)
  rw [E]
  have d0 : decide (0 ≤ a) = true := decide_eq_true (by omega)
  have d1 : decide (a < 1024) = true := decide_eq_true (by omega)
  have d2 : decide (1 ≤ o) = true := decide_eq_true (by omega)
  have d3 : decide (o ≤ 1073741824) = true := decide_eq_true (by omega)
  go_enter Tryd.func31, Tryd.ntmps31
  go_wp2
  go_ret
  exact ⟨rfl, by repeat (first | exact Below.refl _ _ | refine Below.alloc ?_ (by simp) _)⟩

/-- The document's splice. -/
structure Ds where
  wl : Int
  wb : Int
  me : Rf
  fr : Rf
  oa : Int
  oo : Int
  st : Int
  th : Int
  p : Rf
  la : Rf
  has : Bool
  r : Rf
  pd : Bool
  e : Int
  rl : Rf
  rr : Rf
def dsL (S : Ds) : List Value := [.int .i64 S.wl, .int .u64 S.wb, .int .i64 S.me.id, .int .i64 S.me.rk, .int .u64 S.me.kn, .int .i64 S.me.ln, .int .u64 S.me.bt, .int .i64 S.fr.id, .int .i64 S.fr.rk, .int .u64 S.fr.kn, .int .i64 S.fr.ln, .int .u64 S.fr.bt, .int .i64 S.oa, .int .i64 S.oo, .int .i64 S.st, .int .i64 S.th, .int .i64 S.p.id, .int .i64 S.p.rk, .int .u64 S.p.kn, .int .i64 S.p.ln, .int .u64 S.p.bt, .int .i64 S.la.id, .int .i64 S.la.rk, .int .u64 S.la.kn, .int .i64 S.la.ln, .int .u64 S.la.bt, .bool S.has, .int .i64 S.r.id, .int .i64 S.r.rk, .int .u64 S.r.kn, .int .i64 S.r.ln, .int .u64 S.r.bt, .bool S.pd, .int .i64 S.e, .int .u64 0, .slice none 0 0, .slice none 0 0, .int .i64 S.rl.id, .int .i64 S.rl.rk, .int .u64 S.rl.kn, .int .i64 S.rl.ln, .int .u64 S.rl.bt, .int .i64 S.rr.id, .int .i64 S.rr.rk, .int .u64 S.rr.kn, .int .i64 S.rr.ln, .int .u64 S.rr.bt, .bool false]
def newD (wl wb : Int) (me fr : Rf) (oa oo : Int) : Ds := ⟨wl, wb, me, fr, oa, oo, 1, 0, fr, zr, false, zr, false, 0, zr, zr⟩

set_option maxHeartbeats 400000 in
set_option maxRecDepth 100000 in
theorem rnew_bad (wl wb : Int) (me fr : Rf) (oa oo : Int) (hb0 : 0 ≤ me.bt) (hc0 : 0 ≤ wb) (hm : mayC wl wb me fr oa oo = false) (w : World) : Calls Tryd.prog 9 #[.agg (cfL wl wb me fr oa oo).toArray] w fun e w' => e = .returned (.tuple #[.pointer none, .int .i64 130]) ∧ Below w.heap.size w w' := by
  replace hm := hide hm
  have b1 := (Below.refl w.heap.size w).alloc (Nat.le_refl _) (.cells (cfL wl wb me fr oa oo).toArray 33)
  have CB := hide (IsB.new w (cfL wl wb me fr oa oo).toArray 33)
  have B := hide b1
  clear b1
  have L0 := hide (ld_cw CB.out)
  go_enter Tryd.func9, Tryd.ntmps9
  go_wp2_with (first | (focus ((with_reducible refine wpList_load_w ?_ 24 (.tmp 4) ?_ ?_ L0.out ?_); rotate_left; rfl; rfl; rotate_left; rfl)))
  generalize (w.alloc (.cells (cfL wl wb me fr oa oo).toArray 33)) = W1 at *
  refine (rright_any wl wb W1).mono ?_
  rintro e w1 ⟨rfl, hb⟩
  replace CB := hide (CB.out.below hb)
  replace B := hide (B.out.trans (hb.mono B.out.size))
  clear hb
  clear L0
  by_cases h0 : rt wl wb = true
  rotate_left
  · replace h0 : rt wl wb = false := by simpa using h0
    rw [h0]
    clear hm h0
    go_wp2
    refine bodyPost_ret (results_tmp2 Tryd.results9 _ _ _) rfl ?_
    exact ⟨rfl, B.out⟩
  rw [h0]
  replace h0 := hide h0
  have y3 : w1.cell? ⟨w.heap.size, 3, none⟩ = some (.int .i64 me.rk) := CB.out.cell 3
  by_cases h1 : me.rk = 2
  rotate_left
  · have e1 : (me.rk == 2) = false := by simpa using h1
    have e2 : (me.rk != 2) = true := by simpa using h1
    clear hm h0
    generalize me.rk = rk at *
    go_wp2
    refine bodyPost_ret (results_tmp2 Tryd.results9 _ _ _) rfl ?_
    exact ⟨rfl, B.out⟩
  rw [h1] at y3
  replace h1 := hide h1
  have L1 := hide (ld_cmev CB.out)
  have L2 := hide (ld_cw CB.out)
  go_wp2_with (first | (focus ((with_reducible refine wpList_load_w ?_ 24 (.tmp 17) ?_ ?_ L1.out ?_); rotate_left; rfl; rfl; rotate_left; rfl)) | (focus ((with_reducible refine wpList_load_w ?_ 24 (.tmp 19) ?_ ?_ L2.out ?_); rotate_left; rfl; rfl; rotate_left; rfl)))
  refine (rBegins_any me.ln me.bt wl wb hb0 hc0 w1).mono ?_
  rintro e w2 ⟨rfl, hb⟩
  replace CB := hide (CB.out.below hb)
  replace B := hide (B.out.trans (hb.mono B.out.size))
  clear hb
  clear L1 L2 y3
  by_cases h2 : bgS me.ln me.bt wl wb = true
  rotate_left
  · replace h2 : bgS me.ln me.bt wl wb = false := by simpa using h2
    rw [h2]
    clear hm h0 h1 h2
    go_wp2
    refine bodyPost_ret (results_tmp2 Tryd.results9 _ _ _) rfl ?_
    exact ⟨rfl, B.out⟩
  rw [h2]
  replace h2 := hide h2
  have L3 := hide (ld_cfrk CB.out)
  go_wp2_with (first | (focus ((with_reducible refine wpList_load_w ?_ 27 (.tmp 26) ?_ ?_ L3.out ?_); rotate_left; rfl; rfl; rotate_left; rfl)))
  refine (isKey_any fr.rk fr.kn w2).mono ?_
  rintro e w3 ⟨rfl, hb⟩
  replace CB := hide (CB.out.below hb)
  replace B := hide (B.out.trans (hb.mono B.out.size))
  clear hb
  clear L3
  by_cases h3 : decide (ckE fr.rk fr.kn = 0) = true
  rotate_left
  · replace h3 : decide (ckE fr.rk fr.kn = 0) = false := by simpa using h3
    rw [h3]
    clear hm h0 h1 h2 h3
    go_wp2
    refine bodyPost_ret (results_tmp2 Tryd.results9 _ _ _) rfl ?_
    exact ⟨rfl, B.out⟩
  rw [h3]
  replace h3 := hide h3
  have L4 := hide (ld_cfrk CB.out)
  have L5 := hide (ld_cmek CB.out)
  go_wp2_with (first | (focus ((with_reducible refine wpList_load_w ?_ 27 (.tmp 33) ?_ ?_ L4.out ?_); rotate_left; rfl; rfl; rotate_left; rfl)) | (focus ((with_reducible refine wpList_load_w ?_ 27 (.tmp 36) ?_ ?_ L5.out ?_); rotate_left; rfl; rfl; rotate_left; rfl)))
  refine (r9Less_any fr.rk fr.kn me.rk me.kn w3).mono ?_
  rintro e w4 ⟨rfl, hb⟩
  replace CB := hide (CB.out.below hb)
  replace B := hide (B.out.trans (hb.mono B.out.size))
  clear hb
  clear L4 L5
  by_cases h4 : klt (fr.rk, fr.kn) (me.rk, me.kn) = true
  rotate_left
  · replace h4 : klt (fr.rk, fr.kn) (me.rk, me.kn) = false := by simpa using h4
    rw [h4]
    clear hm h0 h1 h2 h3 h4
    go_wp2
    refine bodyPost_ret (results_tmp2 Tryd.results9 _ _ _) rfl ?_
    exact ⟨rfl, B.out⟩
  rw [h4]
  replace h4 := hide h4
  have L6 := hide (ld_cow CB.out)
  go_wp2_with (first | (focus ((with_reducible refine wpList_load_w ?_ 31 (.tmp 42) ?_ ?_ L6.out ?_); rotate_left; rfl; rfl; rotate_left; rfl)))
  refine (isOwner_any oa oo w4).mono ?_
  rintro e w5 ⟨rfl, hb⟩
  replace CB := hide (CB.out.below hb)
  replace B := hide (B.out.trans (hb.mono B.out.size))
  clear hb
  clear L6
  have h5 : okO oa oo = false := by
    cases h5 : okO oa oo with
    | false => rfl
    | true => have hm2 := hm.out; unfold mayC at hm2; rw [h2.out, h3.out, h4.out, h5, h1.out] at hm2; simp at hm2
  rw [h5]
  clear hm h0 h1 h2 h3 h4 h5
  go_wp2
  refine bodyPost_ret (results_tmp2 Tryd.results9 _ _ _) rfl ?_
  exact ⟨rfl, B.out⟩

set_option maxHeartbeats 400000 in
set_option maxRecDepth 100000 in
theorem rnew_ok (wl wb : Int) (me fr : Rf) (oa oo : Int) (hb0 : 0 ≤ me.bt) (hc0 : 0 ≤ wb) (hm : mayC wl wb me fr oa oo = true) (w : World) : Calls Tryd.prog 9 #[.agg (cfL wl wb me fr oa oo).toArray] w fun e w' => ∃ d, e = .returned (.tuple #[.pointer (some ⟨d, 0, none⟩), .int .i64 0]) ∧ IsB w' d (dsL (newD wl wb me fr oa oo)).toArray 94 ∧ w.heap.size ≤ d ∧ Below w.heap.size w w' := by
  unfold mayC at hm
  simp only [Bool.and_eq_true, beq_iff_eq] at hm
  obtain ⟨h1, h2, h3, h4, h5⟩ := hm
  replace h1 := hide h1
  replace h2 := hide h2
  replace h3 := hide h3
  replace h4 := hide h4
  replace h5 := hide h5
  have h0 : rt wl wb = true := by
    have g2 := h2.out
    unfold bgS at g2
    simp only [Bool.and_eq_true] at g2
    exact g2.1.1.2
  replace h0 := hide h0
  skip
  have b1 := (Below.refl w.heap.size w).alloc (Nat.le_refl _) (.cells (cfL wl wb me fr oa oo).toArray 33)
  have CB := hide (IsB.new w (cfL wl wb me fr oa oo).toArray 33)
  have B := hide b1
  clear b1
  have L0 := hide (ld_cw CB.out)
  go_enter Tryd.func9, Tryd.ntmps9
  go_wp2_with (first | (focus ((with_reducible refine wpList_load_w ?_ 24 (.tmp 4) ?_ ?_ L0.out ?_); rotate_left; rfl; rfl; rotate_left; rfl)))
  generalize (w.alloc (.cells (cfL wl wb me fr oa oo).toArray 33)) = W1 at *
  refine (rright_any wl wb W1).mono ?_
  rintro e w1 ⟨rfl, hb⟩
  replace CB := hide (CB.out.below hb)
  replace B := hide (B.out.trans (hb.mono B.out.size))
  clear hb
  clear L0
  rw [h0.out]
  have y3 : w1.cell? ⟨w.heap.size, 3, none⟩ = some (.int .i64 me.rk) := CB.out.cell 3
  rw [h1.out] at y3
  have L1 := hide (ld_cmev CB.out)
  have L2 := hide (ld_cw CB.out)
  go_wp2_with (first | (focus ((with_reducible refine wpList_load_w ?_ 24 (.tmp 17) ?_ ?_ L1.out ?_); rotate_left; rfl; rfl; rotate_left; rfl)) | (focus ((with_reducible refine wpList_load_w ?_ 24 (.tmp 19) ?_ ?_ L2.out ?_); rotate_left; rfl; rfl; rotate_left; rfl)))
  refine (rBegins_any me.ln me.bt wl wb hb0 hc0 w1).mono ?_
  rintro e w2 ⟨rfl, hb⟩
  replace CB := hide (CB.out.below hb)
  replace B := hide (B.out.trans (hb.mono B.out.size))
  clear hb
  clear L1 L2 y3
  rw [h2.out]
  have L3 := hide (ld_cfrk CB.out)
  go_wp2_with (first | (focus ((with_reducible refine wpList_load_w ?_ 27 (.tmp 26) ?_ ?_ L3.out ?_); rotate_left; rfl; rfl; rotate_left; rfl)))
  refine (isKey_any fr.rk fr.kn w2).mono ?_
  rintro e w3 ⟨rfl, hb⟩
  replace CB := hide (CB.out.below hb)
  replace B := hide (B.out.trans (hb.mono B.out.size))
  clear hb
  clear L3
  rw [h3.out]
  have L4 := hide (ld_cfrk CB.out)
  have L5 := hide (ld_cmek CB.out)
  go_wp2_with (first | (focus ((with_reducible refine wpList_load_w ?_ 27 (.tmp 33) ?_ ?_ L4.out ?_); rotate_left; rfl; rfl; rotate_left; rfl)) | (focus ((with_reducible refine wpList_load_w ?_ 27 (.tmp 36) ?_ ?_ L5.out ?_); rotate_left; rfl; rfl; rotate_left; rfl)))
  refine (r9Less_any fr.rk fr.kn me.rk me.kn w3).mono ?_
  rintro e w4 ⟨rfl, hb⟩
  replace CB := hide (CB.out.below hb)
  replace B := hide (B.out.trans (hb.mono B.out.size))
  clear hb
  clear L4 L5
  rw [h4.out]
  have L6 := hide (ld_cow CB.out)
  go_wp2_with (first | (focus ((with_reducible refine wpList_load_w ?_ 31 (.tmp 42) ?_ ?_ L6.out ?_); rotate_left; rfl; rfl; rotate_left; rfl)))
  refine (isOwner_any oa oo w4).mono ?_
  rintro e w5 ⟨rfl, hb⟩
  replace CB := hide (CB.out.below hb)
  replace B := hide (B.out.trans (hb.mono B.out.size))
  clear hb
  clear L6
  rw [h5.out]
  have LC : Hid ((Instr.loadAt 33 (.pointer (some ⟨w.heap.size, 0, none⟩))).run Tryd.prog w5 = .ok (.agg #[.int .i64 wl, .int .u64 wb, .int .i64 me.id, .int .i64 me.rk, .int .u64 me.kn, .int .i64 me.ln, .int .u64 me.bt, .int .i64 fr.id, .int .i64 fr.rk, .int .u64 fr.kn, .int .i64 fr.ln, .int .u64 fr.bt, .int .i64 oa, .int .i64 oo]) w5) := ld_cconf CB.out
  have LF : Hid ((Instr.loadAt 29 (.pointer (some ⟨w.heap.size, 7, none⟩))).run Tryd.prog w5 = .ok (.agg #[.int .i64 fr.id, .int .i64 fr.rk, .int .u64 fr.kn, .int .i64 fr.ln, .int .u64 fr.bt]) w5) := ld_cfr CB.out
  have bS := (Below.refl w5.heap.size w5).alloc (Nat.le_refl _) (.cells (dsL (newD wl wb me fr oa oo)).toArray 94)
  have F0 : Hid (IsB (w5.alloc (.cells (dsL (newD wl wb me fr oa oo)).toArray 94)) w5.heap.size (dsL (newD wl wb me fr oa oo)).toArray 94) := IsB.new w5 _ _
  have hsz := hide B.out.size
  replace B := hide (B.out.trans (bS.mono B.out.size))
  clear bS CB h0 h1 h2 h3 h4 h5
  go_wp2_with (first | (focus ((with_reducible refine wpList_load_w ?_ 33 (.tmp 1) ?_ ?_ LC.out ?_); rotate_left; rfl; rfl; rotate_left; rfl)) | (focus ((with_reducible refine wpList_load_w ?_ 29 (.tmp 48) ?_ ?_ LF.out ?_); rotate_left; rfl; rfl; rotate_left; rfl)))
  refine bodyPost_ret (results_tmp2 Tryd.results9 _ _ _) rfl ?_
  exact ⟨w5.heap.size, rfl, F0.out, hsz.out, B.out⟩

end Go.Proofs.YtofmommoeligoaaDoor
