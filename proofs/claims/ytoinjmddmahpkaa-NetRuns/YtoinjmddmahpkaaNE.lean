/- Package net: a network that nobody made. -/
import Derived.Test.YtoinjmddmahpkaaND
namespace Go.Proofs.Ytoinjmddmahpkaa
open Go.RowKit Go.Maps

/-- .. where a block was laid besides. -/
theorem ret_pea {fn : Func} {p u : Tmp} (hf : fn.results = #[.cell p 35, .tmp u]) {Q : Ending → World → Prop} {tmps : Array Value} {w : World} {b : Nat} {y0 y1 y2 y3 y4 x0 x1 x2 x3 x4 v : Value} {o : Obj}
    (hp : tmps.getD p undef = .pointer (some ⟨b, 0, none⟩)) (hu : tmps.getD u undef = v) (I : IsB w b #[y0, y1, y2, y3, y4] 35) (hQ : ∀ W, Kp [b] w W → Q (.returned (.tuple #[.agg #[x0, x1, x2, x3, x4], v])) W) :
    bodyPost Try.prog fn Q .ret ⟨tmps, []⟩ ((put5 w b x0 x1 x2 x3 x4).alloc o) := by
  refine bodyPost_ret ?_ rfl (hQ _ ((put5_kp _ _ _ _ _ _ _).alloc o))
  rw [results_cell_tmp hf, hp, hu]
  have h := run_loadVar_row (P := Try.prog) ((put5 w b x0 x1 x2 x3 x4).alloc o) b 35 35 #[x0, x1, x2, x3, x4] (0, 0) _ ((put5_is I x0 x1 x2 x3 x4).below ((Below.refl _ _).alloc (Nat.le_refl _) o)) Try.underlying35 rfl parcel_info
  simp [asAddr, h, Result.andThen]

/-- The zero parcel, with an error. -/
def zeroE (e : Int) : Value := .tuple #[.agg #[.bool false, .int .i64 0, .bool false, .int .i64 0, .slice none 0 0], .int .i64 e]

set_option maxHeartbeats 2000000 in
set_option maxRecDepth 100000 in
theorem at_no (p : Value) (i : Int) (w : World) (h : NoNet w p) : Calls Try.prog 14 #[p, .int .i64 i] w fun e w' => e = .returned (zeroE 4) ∧ Below w.heap.size w w' := by
  have h2 := hide ((h.below ((Below.refl _ w).alloc (Nat.le_refl _) (.cells #[.bool false, .int .i64 0, .bool false, .int .i64 0, .slice none 0 0] 35))).below ((Below.refl _ _).alloc (Nat.le_refl _) (.cells #[.int .i64 i] 3)))
  have J := hide ((IsB.new w #[.bool false, .int .i64 0, .bool false, .int .i64 0, .slice none 0 0] 35).below ((Below.refl _ _).alloc (Nat.le_refl _) (.cells #[.int .i64 i] 3)))
  go_enter Try.func14, Try.ntmps14
  go_wp2_with fail
  refine (places_no p _ _ h2.out).mono ?_; intro e w1 hE; obtain ⟨rfl, hw⟩ := hE
  rw [← hw] at J
  have HB := hide (((Kp.refl [] w).alloc (.cells #[.bool false, .int .i64 0, .bool false, .int .i64 0, .slice none 0 0] 35)).alloc (.cells #[.int .i64 i] 3))
  rw [← hw] at HB
  clear hw h2
  obtain ⟨a0, a1, a2, a3, a4⟩ := J.out.cells5
  obtain ⟨f0, f1, f2, f3, f4⟩ := J.out.free5
  go_wp2
  refine ret_pe (p := 4) (u := 5) (b := w.heap.size) (v := .int .i64 4) Try.results14 ?_ ?_ J.out ?_
  · rfl
  · rfl
  intro W hk
  exact ⟨rfl, (HB.out.trans hk (by simp)).to_below (Nat.le_refl _) (by simp)⟩

set_option maxHeartbeats 2000000 in
set_option maxRecDepth 100000 in
theorem twin_no (p : Value) (i : Int) (w : World) (h : NoNet w p) : Calls Try.prog 21 #[p, .int .i64 i] w fun e w' => e = .returned (zeroE 4) ∧ Below w.heap.size w w' := by
  have h2 := hide (h.below ((Below.refl _ w).alloc (Nat.le_refl _) (.cells #[.bool false, .int .i64 0, .bool false, .int .i64 0, .slice none 0 0] 35)))
  have J := IsB.new w #[.bool false, .int .i64 0, .bool false, .int .i64 0, .slice none 0 0] 35
  go_enter Try.func21, Try.ntmps21
  go_wp2_with fail
  refine (at_no p i _ h2.out).mono ?_; rintro e w1 ⟨rfl, hb⟩
  unfold zeroE
  have HB := hide (((Kp.refl [] w).alloc (.cells #[.bool false, .int .i64 0, .bool false, .int .i64 0, .slice none 0 0] 35)).bel hb)
  have J1 := J.below hb
  obtain ⟨a0, a1, a2, a3, a4⟩ := J1.cells5
  obtain ⟨f0, f1, f2, f3, f4⟩ := J1.free5
  replace J1 := hide J1
  have hlt : w.heap.size < w1.heap.size := J1.out.lt
  clear J h2 hb
  go_wp2
  refine ret_pea (p := 4) (u := 5) (b := w.heap.size) (v := .int .i64 4) Try.results21 ?_ ?_ J1.out ?_
  · rfl
  · rfl
  intro W hk
  exact ⟨rfl, (HB.out.trans hk (by simp)).to_below (Nat.le_refl _) (by simp)⟩

set_option maxHeartbeats 2000000 in
set_option maxRecDepth 100000 in
theorem take_no (p : Value) (i : Int) (w : World) (h : NoNet w p) : Calls Try.prog 20 #[p, .int .i64 i] w fun e w' => e = .returned (zeroE 4) ∧ Below w.heap.size w w' := by
  have h2 := hide (h.below ((Below.refl _ w).alloc (Nat.le_refl _) (.cells #[.bool false, .int .i64 0, .bool false, .int .i64 0, .slice none 0 0] 35)))
  have J := IsB.new w #[.bool false, .int .i64 0, .bool false, .int .i64 0, .slice none 0 0] 35
  go_enter Try.func20, Try.ntmps20
  go_wp2_with fail
  refine (twin_no p i _ h2.out).mono ?_; rintro e w1 ⟨rfl, hb⟩
  unfold zeroE
  have HB := hide (((Kp.refl [] w).alloc (.cells #[.bool false, .int .i64 0, .bool false, .int .i64 0, .slice none 0 0] 35)).bel hb)
  have J1 := J.below hb
  obtain ⟨a0, a1, a2, a3, a4⟩ := J1.cells5
  obtain ⟨f0, f1, f2, f3, f4⟩ := J1.free5
  replace J1 := hide J1
  have hlt : w.heap.size < w1.heap.size := J1.out.lt
  clear J h2 hb
  go_wp2
  refine ret_pea (p := 4) (u := 5) (b := w.heap.size) (v := .int .i64 4) Try.results20 ?_ ?_ J1.out ?_
  · rfl
  · rfl
  intro W hk
  exact ⟨rfl, (HB.out.trans hk (by simp)).to_below (Nat.le_refl _) (by simp)⟩

theorem NoNet.alloc {w : World} {p : Value} (h : NoNet w p) (o : Obj) : NoNet (w.alloc o) p := h.below ((Below.refl _ _).alloc (Nat.le_refl _) o)

set_option maxHeartbeats 2000000 in
theorem drop_no (p : Value) (i : Int) (w : World) (h : NoNet w p) : Calls Try.prog 18 #[p, .int .i64 i] w fun e w' => e = .returned (.int .i64 4) ∧ Below w.heap.size w w' := by
  replace h := hide (h.alloc (.cells #[.int .i64 i] 3))
  go_enter Try.func18, Try.ntmps18
  go_wp2_with fail
  refine (places_no p _ _ h.out).mono ?_; rintro e w1 ⟨rfl, rfl⟩
  go_wp2
  go_ret
  exact ⟨rfl, (Below.refl _ _).alloc (Nat.le_refl _) _⟩

set_option maxHeartbeats 2000000 in
theorem swap_no (p : Value) (i k : Int) (w : World) (h : NoNet w p) : Calls Try.prog 22 #[p, .int .i64 i, .int .i64 k] w fun e w' => e = .returned (.int .i64 4) ∧ Below w.heap.size w w' := by
  replace h := hide (h.alloc (.cells #[.int .i64 i, .int .i64 k] 3))
  go_enter Try.func22, Try.ntmps22
  go_wp2_with fail
  refine (places_no p _ _ h.out).mono ?_; rintro e w1 ⟨rfl, rfl⟩
  go_wp2
  go_ret
  exact ⟨rfl, (Below.refl _ _).alloc (Nat.le_refl _) _⟩

set_option maxHeartbeats 2000000 in
theorem cut_no (p : Value) (g : Bool) (n : Int) (w : World) (h : NoNet w p) : Calls Try.prog 23 #[p, .agg #[.bool g, .int .i64 n]] w fun e w' => e = .returned (.tuple #[.int .i64 0, .int .i64 4]) ∧ Below w.heap.size w w' := by
  replace h := hide (h.alloc (.cells #[.bool g, .int .i64 n] 32))
  go_enter Try.func23, Try.ntmps23
  go_wp2_with fail
  refine (made_no p _ h.out).mono ?_; rintro e w1 ⟨rfl, rfl⟩
  go_wp2
  go_ret2
  exact ⟨rfl, (Below.refl _ _).alloc (Nat.le_refl _) _⟩

set_option maxHeartbeats 2000000 in
theorem put_no (p : Value) (fa : Bool) (fn : Int) (ta : Bool) (tn : Int) (a : Option Addr) (len cap : Nat) (w : World) (h : NoNet w p) : Calls Try.prog 17 #[p, .agg #[.bool fa, .int .i64 fn, .bool ta, .int .i64 tn, .slice a len cap]] w fun e w' => e = .returned (.int .i64 4) ∧ Below w.heap.size w w' := by
  replace h := hide (h.alloc (.cells #[.bool fa, .int .i64 fn, .bool ta, .int .i64 tn, .slice a len cap] 35))
  go_enter Try.func17, Try.ntmps17
  go_wp2_with fail
  refine (made_no p _ h.out).mono ?_; rintro e w1 ⟨rfl, rfl⟩
  go_wp2
  go_ret
  exact ⟨rfl, (Below.refl _ _).alloc (Nat.le_refl _) _⟩

set_option maxHeartbeats 2000000 in
theorem len_no (p : Value) (w : World) (h : NoNet w p) : Calls Try.prog 10 #[p] w fun e w' => e = .returned (.int .i64 0) ∧ w' = w := by
  replace h := hide h
  go_enter Try.func10, Try.ntmps10
  go_wp2_with fail
  refine (made_no p _ h.out).mono ?_; rintro e w1 ⟨rfl, rfl⟩
  go_wp2
  go_ret
  exact ⟨rfl, rfl⟩

set_option maxHeartbeats 2000000 in
theorem to_no (p : Value) (g : Bool) (n : Int) (w : World) (h : NoNet w p) : Calls Try.prog 24 #[p, .agg #[.bool g, .int .i64 n]] w fun e w' => e = .returned (.slice none 0 0) ∧ Below w.heap.size w w' := by
  replace h := hide (h.alloc (.cells #[.bool g, .int .i64 n] 32))
  go_enter Try.func24, Try.ntmps24
  go_wp2_with fail
  refine (made_no p _ h.out).mono ?_; rintro e w1 ⟨rfl, rfl⟩
  go_wp2
  go_ret
  exact ⟨rfl, (Below.refl _ _).alloc (Nat.le_refl _) _⟩

theorem stats_info : (Try.prog.info? 28).map (·.size) = some 4 := by kernel_rfl
/-- Counts as a value. -/
def statV (a b c d : Int) : Value := .agg #[.int .i64 a, .int .i64 b, .int .i64 c, .int .i64 d]
@[reducible] def put4 (w : World) (b : Nat) (x0 x1 x2 x3 : Value) : World :=
  (((w.setCell ⟨b, 0, none⟩ x0).setCell ⟨b, 1, none⟩ x1).setCell ⟨b, 2, none⟩ x2).setCell ⟨b, 3, none⟩ x3
theorem put4_is {w : World} {b : Nat} {t : TypeId} {y0 y1 y2 y3 : Value} (h : IsB w b #[y0, y1, y2, y3] t) (x0 x1 x2 x3 : Value) : IsB (put4 w b x0 x1 x2 x3) b #[x0, x1, x2, x3] t := by
  have := (((h.set 0 x0).set 1 x1).set 2 x2).set 3 x3
  simpa using this
theorem put4_kp (w : World) (b : Nat) (x0 x1 x2 x3 : Value) : Kp [b] w (put4 w b x0 x1 x2 x3) :=
  ((((Kp.refl _ w).set _ x0 (Or.inl (by simp))).set _ x1 (Or.inl (by simp))).set _ x2 (Or.inl (by simp))).set _ x3 (Or.inl (by simp))
theorem IsB.cells4 {w : World} {b : Nat} {t : TypeId} {y0 y1 y2 y3 : Value} (h : IsB w b #[y0, y1, y2, y3] t) : w.cell? ⟨b, 0, none⟩ = some y0 ∧ w.cell? ⟨b, 1, none⟩ = some y1 ∧ w.cell? ⟨b, 2, none⟩ = some y2 ∧ w.cell? ⟨b, 3, none⟩ = some y3 :=
  ⟨h.cell 0, h.cell 1, h.cell 2, h.cell 3⟩
theorem ret_s {fn : Func} {p : Tmp} (hf : fn.results = #[.cell p 28]) {Q : Ending → World → Prop} {tmps : Array Value} {w : World} {b : Nat} {y0 y1 y2 y3 x0 x1 x2 x3 : Value}
    (hp : tmps.getD p undef = .pointer (some ⟨b, 0, none⟩)) (I : IsB w b #[y0, y1, y2, y3] 28) (hQ : ∀ W, Kp [b] w W → Q (.returned (.agg #[x0, x1, x2, x3])) W) :
    bodyPost Try.prog fn Q .ret ⟨tmps, []⟩ (put4 w b x0 x1 x2 x3) :=
  bodyPost_ret (results_cell_row hf tmps _ b 28 _ (0, 0) _ hp (put4_is I x0 x1 x2 x3) Try.underlying28 rfl stats_info) rfl (hQ _ (put4_kp _ _ _ _ _ _))

set_option maxHeartbeats 2000000 in
theorem stats_no (p : Value) (w : World) (h : NoNet w p) : Calls Try.prog 11 #[p] w fun e w' => e = .returned (statV 0 0 0 0) ∧ Below w.heap.size w w' := by
  replace h := hide (h.alloc (.cells #[.int .i64 0, .int .i64 0, .int .i64 0, .int .i64 0] 28))
  have J := hide (IsB.new w #[.int .i64 0, .int .i64 0, .int .i64 0, .int .i64 0] 28)
  go_enter Try.func11, Try.ntmps11
  go_wp2_with fail
  refine (made_no p _ h.out).mono ?_; intro e w1 hE; obtain ⟨rfl, hw⟩ := hE
  rw [← hw] at J
  have HB := hide ((Kp.refl [] w).alloc (.cells #[.int .i64 0, .int .i64 0, .int .i64 0, .int .i64 0] 28))
  rw [← hw] at HB
  clear hw h
  obtain ⟨a0, a1, a2, a3⟩ := J.out.cells4
  obtain ⟨f0, f1, f2, f3, -⟩ := J.out.free5
  go_wp2
  refine ret_s (p := 2) (b := w.heap.size) Try.results11 ?_ J.out ?_
  · rfl
  intro W hk
  exact ⟨rfl, (HB.out.trans hk (by simp)).to_below (Nat.le_refl _) (by simp)⟩

end Go.Proofs.Ytoinjmddmahpkaa
