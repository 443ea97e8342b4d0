/- Package net: five cells that are stored; own, mayBe, checkPlaces. -/
import Derived.Test.YtoinjmddmahpkaaNC
namespace Go.Proofs.Ytoinjmddmahpkaa
open Go.RowKit Go.Maps

/-- Five cells, stored one by one. -/
@[reducible] def put5 (w : World) (b : Nat) (x0 x1 x2 x3 x4 : Value) : World :=
  ((((w.setCell ⟨b, 0, none⟩ x0).setCell ⟨b, 1, none⟩ x1).setCell ⟨b, 2, none⟩ x2).setCell ⟨b, 3, none⟩ x3).setCell ⟨b, 4, none⟩ x4
theorem put5_is {w : World} {b : Nat} {t : TypeId} {y0 y1 y2 y3 y4 : Value} (h : IsB w b #[y0, y1, y2, y3, y4] t) (x0 x1 x2 x3 x4 : Value) : IsB (put5 w b x0 x1 x2 x3 x4) b #[x0, x1, x2, x3, x4] t := by
  have := ((((h.set 0 x0).set 1 x1).set 2 x2).set 3 x3).set 4 x4
  simpa using this
theorem put5_kp (w : World) (b : Nat) (x0 x1 x2 x3 x4 : Value) : Kp [b] w (put5 w b x0 x1 x2 x3 x4) :=
  (((((Kp.refl _ w).set _ x0 (Or.inl (by simp))).set _ x1 (Or.inl (by simp))).set _ x2 (Or.inl (by simp))).set _ x3 (Or.inl (by simp))).set _ x4 (Or.inl (by simp))
theorem put5_size (w : World) (b : Nat) (x0 x1 x2 x3 x4 : Value) : (put5 w b x0 x1 x2 x3 x4).heap.size = w.heap.size := by simp [put5, World.setCell]

theorem parcel_info : (Try.prog.info? 35).map (·.size) = some 5 := by kernel_rfl
theorem IsB.cells5 {w : World} {b : Nat} {t : TypeId} {y0 y1 y2 y3 y4 : Value} (h : IsB w b #[y0, y1, y2, y3, y4] t) : w.cell? ⟨b, 0, none⟩ = some y0 ∧ w.cell? ⟨b, 1, none⟩ = some y1 ∧ w.cell? ⟨b, 2, none⟩ = some y2 ∧ w.cell? ⟨b, 3, none⟩ = some y3 ∧ w.cell? ⟨b, 4, none⟩ = some y4 :=
  ⟨h.cell 0, h.cell 1, h.cell 2, h.cell 3, h.cell 4⟩
theorem IsB.free5 {w : World} {b : Nat} {t : TypeId} {cs : Array Value} (h : IsB w b cs t) : w.frozen? ⟨b, 0, none⟩ = false ∧ w.frozen? ⟨b, 1, none⟩ = false ∧ w.frozen? ⟨b, 2, none⟩ = false ∧ w.frozen? ⟨b, 3, none⟩ = false ∧ w.frozen? ⟨b, 4, none⟩ = false :=
  ⟨h.free 0, h.free 1, h.free 2, h.free 3, h.free 4⟩
/-- A parcel is returned out of the block of its variable. -/
theorem ret_p {fn : Func} {p : Tmp} (hf : fn.results = #[.cell p 35]) {Q : Ending → World → Prop} {tmps : Array Value} {w : World} {b : Nat} {y0 y1 y2 y3 y4 x0 x1 x2 x3 x4 : Value}
    (hp : tmps.getD p undef = .pointer (some ⟨b, 0, none⟩)) (I : IsB w b #[y0, y1, y2, y3, y4] 35) (hQ : ∀ W, Kp [b] w W → Q (.returned (.agg #[x0, x1, x2, x3, x4])) W) :
    bodyPost Try.prog fn Q .ret ⟨tmps, []⟩ (put5 w b x0 x1 x2 x3 x4) :=
  bodyPost_ret (results_cell_row hf tmps _ b 35 _ (0, 0) _ hp (put5_is I x0 x1 x2 x3 x4) Try.underlying35 rfl parcel_info) rfl (hQ _ (put5_kp _ _ _ _ _ _ _))
/-- .. with an error. -/
theorem ret_pe {fn : Func} {p u : Tmp} (hf : fn.results = #[.cell p 35, .tmp u]) {Q : Ending → World → Prop} {tmps : Array Value} {w : World} {b : Nat} {y0 y1 y2 y3 y4 x0 x1 x2 x3 x4 v : Value}
    (hp : tmps.getD p undef = .pointer (some ⟨b, 0, none⟩)) (hu : tmps.getD u undef = v) (I : IsB w b #[y0, y1, y2, y3, y4] 35) (hQ : ∀ W, Kp [b] w W → Q (.returned (.tuple #[.agg #[x0, x1, x2, x3, x4], v])) W) :
    bodyPost Try.prog fn Q .ret ⟨tmps, []⟩ (put5 w b x0 x1 x2 x3 x4) := by
  refine bodyPost_ret ?_ rfl (hQ _ (put5_kp _ _ _ _ _ _ _))
  rw [results_cell_tmp hf, hp, hu]
  have h := run_loadVar_row (P := Try.prog) (put5 w b x0 x1 x2 x3 x4) b 35 35 #[x0, x1, x2, x3, x4] (0, 0) _ (put5_is I x0 x1 x2 x3 x4) Try.underlying35 rfl parcel_info
  simp [asAddr, h, Result.andThen]

theorem noBy_new {w : World} {b : Nat} {cs : Array Value} (h : IsB w b cs 35) : NoBy w [b] := by
  intro k hk cur hc
  simp at hk; subst hk
  unfold IsB at h; rw [hc] at h; injection h with h; injection h with _ h; cases h

set_option maxHeartbeats 2000000 in
set_option maxRecDepth 100000 in
theorem own_any (fa : Bool) (fn : Int) (ta : Bool) (tn : Int) (a : Option Addr) (cap : Nat) (bs : List Int) (hl : bs.length ≤ 262144) (hn : a = none → cap = 0) (w : World) (hr : Rd8 w a bs) :
    Calls Try.prog 36 #[.agg #[.bool fa, .int .i64 fn, .bool ta, .int .i64 tn, .slice a bs.length cap]] w fun e w' => ∃ a' c', e = .returned (.agg #[.bool fa, .int .i64 fn, .bool ta, .int .i64 tn, .slice a' bs.length c']) ∧ By w' a' c' bs ∧ (∀ ad, a' = some ad → w.heap.size ≤ ad.block) ∧ (a' = none → c' = 0) ∧ Below w.heap.size w w' := by
  have hr2 := hide ((hr.below ((Below.refl _ w).alloc (Nat.le_refl _) (.cells #[.bool fa, .int .i64 fn, .bool ta, .int .i64 tn, .slice a bs.length cap] 35))).below ((Below.refl _ _).alloc (Nat.le_refl _) (.cells #[.bool false, .int .i64 0, .bool false, .int .i64 0, .slice none 0 0] 35)))
  replace hn := hide hn
  clear hr
  go_enter Try.func36, Try.ntmps36
  go_wp2_with fail
  refine (clone_any a cap bs hl hn.out _ hr2.out).mono ?_
  rintro e w1 ⟨a', c', rfl, hby, hfr, hnn, hb⟩
  have I1 : IsB w1 w.heap.size #[.bool fa, .int .i64 fn, .bool ta, .int .i64 tn, .slice a bs.length cap] 35 := ((IsB.new w _ _).below ((Below.refl _ _).alloc (Nat.le_refl _) _)).below hb
  have I2 : IsB w1 (w.heap.size + 1) #[.bool false, .int .i64 0, .bool false, .int .i64 0, .slice none 0 0] 35 := by
    have := (IsB.new (w.alloc (.cells #[.bool fa, .int .i64 fn, .bool ta, .int .i64 tn, .slice a bs.length cap] 35)) #[.bool false, .int .i64 0, .bool false, .int .i64 0, .slice none 0 0] 35).below hb
    simpa using this
  have HF : Hid (∀ ad, a' = some ad → w.heap.size ≤ ad.block) := fun ad h => by have := hfr ad h; simp at this; omega
  have HB : Hid (Kp [] w w1) := (((Kp.refl [] w).alloc _).alloc _).bel hb
  have HY := hide hby
  have HN := hide hnn
  obtain ⟨a0, a1, a2, a3, a4⟩ := I1.cells5
  obtain ⟨f0, f1, f2, f3, f4⟩ := I1.free5
  obtain ⟨g0, g1, g2, g3, g4⟩ := I2.free5
  obtain ⟨d0, d1, d2, d3, d4⟩ := I2.cells5
  have J1 := hide I1
  have J2 := hide I2
  clear I1 I2 hb hby hfr hnn hr2
  go_wp2
  refine ret_p (p := 2) (b := w.heap.size + 1) ?_ ?_ (J2.out.setOther (a := ⟨w.heap.size, 4, none⟩) (by simp only []; omega) _) ?_
  · rfl
  · rfl
  intro W hk
  have hk2 : Kp [w.heap.size, w.heap.size + 1] w1 W := ((Kp.refl _ w1).set _ _ (Or.inl (by simp))).trans hk (by simp)
  have hnb : NoBy w1 [w.heap.size, w.heap.size + 1] := by
    intro k hk' cur hc
    simp at hk'
    rcases hk' with rfl | rfl
    · exact noBy_new J1.out _ (by simp) cur hc
    · exact noBy_new J2.out _ (by simp) cur hc
  refine ⟨a', c', rfl, HY.out.kp hk2 hnb, HF.out, HN.out, ?_⟩
  exact (HB.out.trans hk2 (by simp)).to_below (Nat.le_refl _) (by simp)

/-- May a parcel be? -/
def okP (fn tn : Int) (l : Nat) : Bool := okA fn && okA tn && decide (l ≤ 262144)
set_option maxHeartbeats 2000000 in
set_option maxRecDepth 100000 in
theorem mayBe_any (fa : Bool) (fn : Int) (ta : Bool) (tn : Int) (a : Option Addr) (len cap : Nat) (w : World) :
    Calls Try.prog 37 #[.agg #[.bool fa, .int .i64 fn, .bool ta, .int .i64 tn, .slice a len cap]] w fun e w' => e = .returned (.bool (okP fn tn len)) ∧ Below w.heap.size w w' := by
  have I0 := hide (IsB.new w #[.bool fa, .int .i64 fn, .bool ta, .int .i64 tn, .slice a len cap] 35)
  by_cases h1 : okA fn = true
  · by_cases h2 : okA tn = true
    · go_enter Try.func37, Try.ntmps37
      go_wp2_with fail
      refine (check_any fa fn _).mono ?_; rintro e w1 ⟨rfl, hb⟩
      rw [if_pos h1]
      obtain ⟨a0, a1, a2, a3, a4⟩ := (I0.out.below hb).cells5
      have HB := hide (((Below.refl _ w).alloc (Nat.le_refl _) _).trans (hb.mono (by simp)))
      have I1 := hide (I0.out.below hb)
      clear hb
      go_wp2_with fail
      clear a0 a1 a2 a3 a4
      refine (check_any ta tn _).mono ?_; rintro e w2 ⟨rfl, hb⟩
      rw [if_pos h2]
      obtain ⟨a0, a1, a2, a3, a4⟩ := (I1.out.below hb).cells5
      have HB2 := hide (HB.out.trans (hb.mono HB.out.size))
      clear hb HB
      go_wp2
      go_ret
      refine ⟨?_, HB2.out⟩
      unfold okP
      rw [h1, h2]
      simp
      omega
    · have h2' : okA tn = false := by simpa using h2
      go_enter Try.func37, Try.ntmps37
      go_wp2_with fail
      refine (check_any fa fn _).mono ?_; rintro e w1 ⟨rfl, hb⟩
      rw [if_pos h1]
      obtain ⟨a0, a1, a2, a3, a4⟩ := (I0.out.below hb).cells5
      have HB := hide (((Below.refl _ w).alloc (Nat.le_refl _) _).trans (hb.mono (by simp)))
      clear hb
      go_wp2_with fail
      clear a0 a1 a2 a3 a4
      refine (check_any ta tn _).mono ?_; rintro e w2 ⟨rfl, hb⟩
      rw [if_neg h2]
      have HB2 := hide (HB.out.trans (hb.mono HB.out.size))
      clear hb HB
      go_wp2
      go_ret
      refine ⟨?_, HB2.out⟩
      unfold okP
      rw [h1, h2']
      simp
  · have h1' : okA fn = false := by simpa using h1
    go_enter Try.func37, Try.ntmps37
    go_wp2_with fail
    refine (check_any fa fn _).mono ?_; rintro e w1 ⟨rfl, hb⟩
    rw [if_neg h1]
    have HB := hide (((Below.refl _ w).alloc (Nat.le_refl _) _).trans (hb.mono (by simp)))
    clear hb
    go_wp2
    go_ret
    refine ⟨?_, HB.out⟩
    unfold okP
    rw [h1']
    simp

set_option maxHeartbeats 2000000 in
theorem places_no (p : Value) (v : Value) (w : World) (h : NoNet w p) : Calls Try.prog 35 #[p, v] w fun e w' => e = .returned (.int .i64 4) ∧ w' = w := by
  replace h := hide h
  go_enter Try.func35, Try.ntmps35
  go_wp2_with fail
  refine (made_no p w h.out).mono ?_; rintro e w1 ⟨rfl, rfl⟩
  go_wp2
  go_ret
  exact ⟨rfl, rfl⟩

end Go.Proofs.Ytoinjmddmahpkaa
