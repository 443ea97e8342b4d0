/- Package lock: slices.Clone; the calls of a lock. -/
import Derived.Test.YtdogdinkopocaaaDoorLD
import Derived.Laws.ResultCell
namespace Go.Proofs.YtdogdinkopocaaaDoor
open Go.RowKit Go.Maps

/-- Two cells, stored one by one. -/
@[reducible] def put2 (w : World) (b : Nat) (x0 x1 : Value) : World := (w.setCell ⟨b, 0, none⟩ x0).setCell ⟨b, 1, none⟩ x1
theorem put2_is {w : World} {b : Nat} {t : TypeId} {y0 y1 : Value} (h : IsB w b #[y0, y1] t) (x0 x1 : Value) : IsB (put2 w b x0 x1) b #[x0, x1] t := by
  have := (h.set 0 x0).set 1 x1
  simpa using this
theorem put2_kp (w : World) (b : Nat) (x0 x1 : Value) : Kp [b] w (put2 w b x0 x1) := ((Kp.refl _ w).set _ x0 (Or.inl (by simp))).set _ x1 (Or.inl (by simp))
theorem owner_info : (Tryd.prog.info? 52).map (·.size) = some 2 := by kernel_rfl
theorem results_ctt {fn : Func} {p u v : Tmp} {ty : TypeId} (h : fn.results = #[.cell p ty, .tmp u, .tmp v]) (tmps : Array Value) (P : Program) (w : World) :
    (results fn tmps).run P w =
      ((asAddr (tmps.getD p undef)).run P w).andThen fun a w₁ => ((loadVar ty a).run P w₁).andThen fun x w₂ => .ok (.tuple #[x, tmps.getD u undef, tmps.getD v undef]) w₂ := by
  simp only [results, h]
  simp [Sem.run_bind, Result.andThen]
/-- An owner is returned out of the block of its variable, with one thing more, or two. -/
theorem ret_o1 {fn : Func} {p u : Tmp} (hf : fn.results = #[.cell p 52, .tmp u]) {Q : Ending → World → Prop} {tmps : Array Value} {w : World} {b : Nat} {x0 x1 v : Value}
    (hp : tmps.getD p undef = .pointer (some ⟨b, 0, none⟩)) (hu : tmps.getD u undef = v) (I : IsB w b #[x0, x1] 52) (hQ : Q (.returned (.tuple #[.agg #[x0, x1], v])) w) :
    bodyPost Tryd.prog fn Q .ret ⟨tmps, []⟩ w := by
  refine bodyPost_ret ?_ rfl hQ
  rw [results_cell_tmp hf, hp, hu]
  have h := run_loadVar_row (P := Tryd.prog) w b 52 52 #[x0, x1] (0, 0) _ I Tryd.underlying52 rfl owner_info
  simp [asAddr, h, Result.andThen]
theorem ret_o2 {fn : Func} {p u t : Tmp} (hf : fn.results = #[.cell p 52, .tmp u, .tmp t]) {Q : Ending → World → Prop} {tmps : Array Value} {w : World} {b : Nat} {x0 x1 v y : Value}
    (hp : tmps.getD p undef = .pointer (some ⟨b, 0, none⟩)) (hu : tmps.getD u undef = v) (ht : tmps.getD t undef = y) (I : IsB w b #[x0, x1] 52) (hQ : Q (.returned (.tuple #[.agg #[x0, x1], v, y])) w) :
    bodyPost Tryd.prog fn Q .ret ⟨tmps, []⟩ w := by
  refine bodyPost_ret ?_ rfl hQ
  rw [results_ctt hf, hp, hu, ht]
  have h := run_loadVar_row (P := Tryd.prog) w b 52 52 #[x0, x1] (0, 0) _ I Tryd.underlying52 rfl owner_info
  simp [asAddr, h, Result.andThen]

theorem slice_nil (a : Addr) (len cap : Nat) (w : World) : (binOp .eql 105 (.slice (some a) len cap) (.slice none 0 0)).run Tryd.prog w = .ok (.bool false) w := by kernel_rfl
theorem slice_nil_nil (w : World) : (binOp .eql 105 (.slice none 0 0) (.slice none 0 0)).run Tryd.prog w = .ok (.bool true) w := by kernel_rfl

set_option maxHeartbeats 1000000 in
set_option maxRecDepth 100000 in
theorem clone_any (v : Value) (l : List Ow) (hl : l.length ≤ 100000) (w : World) (h : Sl w v l) :
    Calls Tryd.prog 89 #[v] w fun e w' => ∃ x, e = .returned x ∧ Rw w' 52 2 x l.length (ows l) ∧ (∀ k, x.ownBlock = some k → w.heap.size ≤ k) ∧ Below w.heap.size w w' := by
  have hsrc := (h.below ((Below.refl _ w).alloc (Nat.le_refl _) (.cells #[] 52))).src
  rcases h with ⟨rfl, rfl⟩ | ⟨g, o, c, rfl, -, -, -, -⟩
  · have hsn := slice_nil_nil
    clear hsrc
    go_enter Tryd.func89, Tryd.ntmps89
    go_wp2
    go_ret
    exact ⟨_, rfl, ⟨rfl, Or.inl ⟨rfl, rfl⟩⟩, fun k hk => by simp [Value.ownBlock] at hk, Below.refl _ _⟩
  · obtain ⟨i0, hi, hz0, hz1, hz2⟩ := info_parts Tryd.infoO
    have hown0 : Rw (w.alloc (.cells #[] 52)) 52 2 (.slice (some ⟨w.heap.size, 0, none⟩) 0 0) 0 [] := ⟨rfl, Or.inr ⟨_, 0, #[], rfl, heap_new w _, Nat.le_refl _, by unfold maxLen; omega, by simp, rfl⟩⟩
    obtain ⟨v', w4, hrun, hrw, hgr, hat, hnn⟩ := run_append_rw (P := Tryd.prog) (w.alloc (.cells #[] 52)) 105 105 52 i0 _ 2 16 Tryd.underlying105 hi hz0 hz1 hz2 rfl _ 0 [] hown0
      (.slice (some ⟨g, o, none⟩) l.length c) l.length (ows l) (ows_len l) hsrc (ows_one l) (by unfold maxLen; omega) (by omega)
    rw [Nat.zero_add, List.nil_append] at hrw
    have HB := hide (((Below.refl _ w).alloc (Nat.le_refl _) (.cells #[] 52)).grown hgr (by simp) (fun k hk => by simp [Value.ownBlock] at hk; omega))
    have HT : Hid (∀ k, v'.ownBlock = some k → w.heap.size ≤ k) := fun k hk => by
      rcases hat with h | h
      · rw [h] at hk; simp [Value.ownBlock] at hk; omega
      · rw [h] at hk; simp at hk; omega
    have HW := hide hrw
    clear hgr hat hrw hnn hown0 hsrc
    have hsn := slice_nil
    have HR := hide hrun
    clear hrun
    generalize hL : l.length = L at *
    go_enter Tryd.func89, Tryd.ntmps89
    go_wp2_with (at_builtin; refine wpList_append_eq rfl (.tmp 5) (.tmp 6) 105 rfl _ _ v' w4 rfl rfl HR.out ?_)
    go_ret
    exact ⟨v', rfl, HW.out, HT.out, HB.out⟩

set_option maxHeartbeats 2000000 in
theorem ask_no (p : Value) (a o : Int) (w : World) (h : NoLock w p) : Calls Tryd.prog 61 #[p, .agg #[.int .i64 a, .int .i64 o]] w fun e w' => e = .returned (.tuple #[.bool false, .int .i64 4]) ∧ Below w.heap.size w w' := by
  replace h := hide (h.alloc (.cells #[.int .i64 a, .int .i64 o] 52))
  go_enter Tryd.func61, Tryd.ntmps61
  go_wp2_with fail
  refine (chk_no p a o _ h.out).mono ?_; rintro e w1 ⟨rfl, hb⟩
  have HB := hide (((Below.refl _ w).alloc (Nat.le_refl _) (.cells #[.int .i64 a, .int .i64 o] 52)).trans (hb.mono (by simp)))
  clear hb
  go_wp2
  go_ret2
  exact ⟨rfl, HB.out⟩



set_option maxHeartbeats 2000000 in
theorem free_no (p : Value) (a o : Int) (w : World) (h : NoLock w p) : Calls Tryd.prog 69 #[p, .agg #[.int .i64 a, .int .i64 o]] w fun e w' => e = .returned (.tuple #[.agg #[.int .i64 0, .int .i64 0], .bool false, .int .i64 4]) ∧ Below w.heap.size w w' := by
  have J := (IsB.new (w.alloc (.cells #[.int .i64 a, .int .i64 o] 52)) #[.int .i64 0, .int .i64 0] 52)
  have HB0 := ((Below.refl w.heap.size w).alloc (Nat.le_refl _) (.cells #[.int .i64 a, .int .i64 o] 52)).alloc (by simp) (.cells #[.int .i64 0, .int .i64 0] 52)
  rw [World.size_alloc] at J
  replace h := hide ((h.alloc (.cells #[.int .i64 a, .int .i64 o] 52)).alloc (.cells #[.int .i64 0, .int .i64 0] 52))
  go_enter Tryd.func69, Tryd.ntmps69
  go_wp2_with fail
  refine (chk_no p a o _ h.out).mono ?_; rintro e w1 ⟨rfl, hb⟩
  have J1 := J.below hb
  have HB := hide (HB0.trans (hb.mono HB0.size))
  have a0 := J1.cell 0
  have a1 := J1.cell 1
  have f0 := J1.free 0
  have f1 := J1.free 1
  simp at a0 a1
  have J2 := hide J1
  have hlt : w.heap.size + 1 < w1.heap.size := J1.lt
  clear J1 J hb h HB0
  go_wp2
  refine ret_o2 (p := 4) (u := 5) (t := 6) (b := w.heap.size + 1) Tryd.results69 rfl rfl rfl (put2_is J2.out (.int .i64 0) (.int .i64 0)) ?_
  exact ⟨rfl, (Kp.trans (Kp.of_below (S := []) HB.out) (put2_kp w1 (w.heap.size + 1) _ _) (by simp)).to_below (Nat.le_refl _) (by simp)⟩

set_option maxHeartbeats 2000000 in
theorem holder_no (p : Value) (w : World) (h : NoLock w p) : Calls Tryd.prog 72 #[p] w fun e w' => e = .returned (.tuple #[.agg #[.int .i64 0, .int .i64 0], .bool false]) ∧ Below w.heap.size w w' := by
  have J := hide (IsB.new w #[.int .i64 0, .int .i64 0] 52)
  have HB := hide ((Below.refl w.heap.size w).alloc (Nat.le_refl _) (.cells #[.int .i64 0, .int .i64 0] 52))
  replace h := hide (h.alloc (.cells #[.int .i64 0, .int .i64 0] 52))
  go_enter Tryd.func72, Tryd.ntmps72
  go_wp2_with fail
  refine (made_no p _ h.out).mono ?_; intro e w1 hE; obtain ⟨rfl, hw⟩ := hE
  rw [← hw] at J HB
  clear hw h
  have a0 := J.out.cell 0
  have a1 := J.out.cell 1
  have f0 := J.out.free 0
  have f1 := J.out.free 1
  simp at a0 a1
  go_wp2
  refine ret_o1 (p := 2) (u := 3) (b := w.heap.size) Tryd.results72 rfl rfl (put2_is J.out (.int .i64 0) (.int .i64 0)) ?_
  exact ⟨rfl, (Kp.trans (Kp.of_below (S := []) HB.out) (put2_kp w1 w.heap.size _ _) (by simp)).to_below (Nat.le_refl _) (by simp)⟩

set_option maxHeartbeats 2000000 in
theorem waits_no (p : Value) (w : World) (h : NoLock w p) : Calls Tryd.prog 82 #[p] w fun e w' => e = .returned (.slice none 0 0) ∧ w' = w := by
  replace h := hide h
  go_enter Tryd.func82, Tryd.ntmps82
  go_wp2_with fail
  refine (made_no p _ h.out).mono ?_; rintro e w1 ⟨rfl, rfl⟩
  go_wp2
  go_ret
  exact ⟨rfl, rfl⟩

set_option maxHeartbeats 2000000 in
theorem end_no (p : Value) (w : World) (h : NoLock w p) : Calls Tryd.prog 80 #[p] w fun e w' => e = .returned (.tuple #[.slice none 0 0, .int .i64 4]) ∧ w' = w := by
  replace h := hide h
  go_enter Tryd.func80, Tryd.ntmps80
  go_wp2_with fail
  refine (made_no p _ h.out).mono ?_; rintro e w1 ⟨rfl, rfl⟩
  go_wp2
  go_ret2
  exact ⟨rfl, rfl⟩

end Go.Proofs.YtdogdinkopocaaaDoor
