/- Cells put one by one; vec.Prefix. -/
import Derived.Test.YtokehogcenjefaaGreatDoorSC
namespace Go.Proofs.YtokehogcenjefaaGreatDoor
open Go.RowKit Go.Maps Go.ChangeMaps

def putCells (w : World) (b : Nat) : Nat → List Value → World
 | _, [] => w
 | j, v :: vs => putCells (w.setCell ⟨b, j, none⟩ v) b (j + 1) vs
theorem IsB.setj {w : World} {b : Nat} {cs : Array Value} {t : TypeId} (h : IsB w b cs t) (j : Nat) (v : Value) : IsB (w.setCell ⟨b, j, none⟩ v) b (cs.setIfInBounds j v) t := by
 unfold IsB at *
 rw [Sort.setCell_eq]
 simp only [Sort.mapBlock, Array.getElem?_modify, if_true, h, Option.map_some, Sort.onCells]
theorem putCells_at {b : Nat} {t : TypeId} (vs : List Value) : ∀ (w : World) (j : Nat) (pre : List Value) (cs : List Value), IsB w b cs.toArray t → cs.length = j + vs.length → cs.take j = pre → pre.length = j → IsB (putCells w b j vs) b (pre ++ vs).toArray t := by
 induction vs with
 | nil =>
   intro w j pre cs h hl hp hpl
   have : cs = pre := by rw [← hp, List.take_of_length_le (by simp at hl; omega)]
   unfold putCells
   rw [List.append_nil, ← this]; exact h
 | cons v vs ih =>
   intro w j pre cs h hl hp hpl
   unfold putCells
   have h2 := h.setj j v
   rw [List.setIfInBounds_toArray] at h2
   have := ih _ (j + 1) (pre ++ [v]) (cs.set j v) h2 (by simp at hl ⊢; omega) (by
     rw [List.take_succ_eq_append_getElem (by simp at hl ⊢; omega), List.take_set_of_le (Nat.le_refl _), hp]
     simp) (by simp [hpl])
   rw [List.append_assoc] at this
   exact this
theorem putCells_is {w : World} {b : Nat} {t : TypeId} {cs : List Value} (h : IsB w b cs.toArray t) (vs : List Value) (hl : cs.length = vs.length) : IsB (putCells w b 0 vs) b vs.toArray t := by
 have := putCells_at vs w 0 [] cs h (by omega) rfl rfl
 exact this
theorem putCells_other {b c : Nat} {cs : Array Value} {t : TypeId} (hne : c ≠ b) (vs : List Value) : ∀ (w : World) (j : Nat), IsB w c cs t → IsB (putCells w b j vs) c cs t := by
 induction vs with
 | nil => intro w j h; exact h
 | cons v vs ih => intro w j h; exact ih _ (j + 1) (h.setOther (a := ⟨b, j, none⟩) hne v)
theorem putCells_kp (b : Nat) (vs : List Value) : ∀ (w : World) (j : Nat), Kp [b] w (putCells w b j vs) := by
 induction vs with
 | nil => intro w j; exact Kp.refl _ _
 | cons v vs ih => intro w j; exact ((Kp.refl [b] w).set ⟨b, j, none⟩ v (Or.inl (by simp))).trans (ih _ (j + 1)) (by simp)
theorem ret_rt {fn : Func} {p u : Tmp} (hf : fn.results = #[.cell p 29, .tmp u]) {Q : Ending → World → Prop} {tmps : Array Value} {w : World} {b : Nat} {cs : Array Value} {v : Value} (hs : cs.size = 5)
   (hp : tmps.getD p undef = .pointer (some ⟨b, 0, none⟩)) (hu : tmps.getD u undef = v) (I : IsB w b cs 29) (hQ : Q (.returned (.tuple #[.agg cs, v])) w) :
   bodyPost Tryz.prog fn Q .ret ⟨tmps, []⟩ w := by
 refine bodyPost_ret ?_ rfl hQ
 rw [results_cell_tmp hf, hp, hu]
 have h := run_loadVar_row (P := Tryz.prog) w b 29 29 cs (0, 0) _ I Tryz.underlying29 rfl (by rw [hs]; exact ref_info)
 simp [asAddr, h, Result.andThen]


set_option maxHeartbeats 1000000 in

set_option maxHeartbeats 1000000 in
theorem hasCut_ok (n b k : Int) (hr : rt n b = true) (hb : 0 ≤ b) (h0 : 0 ≤ k) (h1 : k ≤ n) (w : World) : Calls Tryz.prog 112 #[(.agg #[.int .i64 (n), .int .u64 (b)]), .int .i64 k] w fun e w' => e = .returned (.int .i64 0) ∧ Below w.heap.size w w' := by
 have d0 : decide (k < 0) = false := decide_eq_false (by omega)
 have d1 : decide (n < k) = false := decide_eq_false (by omega)
 have Vb := hide (IsB.new w #[.int .i64 n, .int .u64 b] 27)
 have B := hide ((Below.refl w.heap.size w).alloc (Nat.le_refl _) (.cells #[.int .i64 n, .int .u64 b] 27))
 have VR := hide (vright_yes n b hr hb (w.alloc (.cells #[.int .i64 n, .int .u64 b] 27)))
 go_enter Tryz.func112, Tryz.ntmps112
 go_wp2_with fail
 generalize w.alloc (.cells #[.int .i64 n, .int .u64 b] 27) = W1 at *
 generalize hH : w.heap.size = H at Vb ⊢
 replace hH := hide hH
 refine VR.out.mono ?_
 rintro e w2 ⟨rfl, hb2⟩
 have y0 := (Vb.out.below hb2).cell 0
 simp at y0
 replace B := hide (B.out.trans (hb2.mono B.out.size))
 clear hb2 VR
 go_wp2
 go_ret
 exact ⟨rfl, B.out⟩
theorem vec_info : (Tryz.prog.info? 27).map (·.size) = some 2 := by kernel_rfl
theorem ret_vt {fn : Func} {p u : Tmp} (hf : fn.results = #[.cell p 27, .tmp u]) {Q : Ending → World → Prop} {tmps : Array Value} {w : World} {b : Nat} {cs : Array Value} {v : Value} (hs : cs.size = 2)
   (hp : tmps.getD p undef = .pointer (some ⟨b, 0, none⟩)) (hu : tmps.getD u undef = v) (I : IsB w b cs 27) (hQ : Q (.returned (.tuple #[.agg cs, v])) w) :
   bodyPost Tryz.prog fn Q .ret ⟨tmps, []⟩ w := by
 refine bodyPost_ret ?_ rfl hQ
 rw [results_cell_tmp hf, hp, hu]
 have h := run_loadVar_row (P := Tryz.prog) w b 27 27 cs (0, 0) _ I Tryz.underlying27 rfl (by rw [hs]; exact vec_info)
 simp [asAddr, h, Result.andThen]

set_option maxHeartbeats 1000000 in
theorem prefix_ok (n b k : Int) (hr : rt n b = true) (hb : 0 ≤ b) (h0 : 0 ≤ k) (h1 : k ≤ n) (w : World) : Calls Tryz.prog 88 #[(.agg #[.int .i64 (n), .int .u64 (b)]), .int .i64 k] w fun e w' => e = .returned (.tuple #[(.agg #[.int .i64 (k), .int .u64 ((pre n.toNat b.toNat k.toNat : Nat))]), .int .i64 0]) ∧ Below w.heap.size w w' := by
 have h32 : n ≤ 32 := (of_decide_eq_true hr).2.1
 have b2 := ((Below.refl w.heap.size w).alloc (Nat.le_refl _) (.cells #[.int .i64 n, .int .u64 b] 27)).alloc (by simp) (.cells #[.int .i64 0, .int .u64 0] 27)
 have Vb : Hid (IsB ((w.alloc (.cells #[.int .i64 n, .int .u64 b] 27)).alloc (.cells #[.int .i64 0, .int .u64 0] 27)) w.heap.size #[.int .i64 n, .int .u64 b] 27) := (IsB.new w #[.int .i64 n, .int .u64 b] _).below ((Below.refl _ _).alloc (Nat.le_refl _) _)
 have Rb : Hid (IsB ((w.alloc (.cells #[.int .i64 n, .int .u64 b] 27)).alloc (.cells #[.int .i64 0, .int .u64 0] 27)) (w.heap.size + 1) #[.int .i64 0, .int .u64 0] 27) := by
   have := IsB.new (w.alloc (.cells #[.int .i64 n, .int .u64 b] 27)) #[.int .i64 0, .int .u64 0] 27
   rwa [World.size_alloc] at this
 have HC := hide (hasCut_ok n b k hr hb h0 h1 ((w.alloc (.cells #[.int .i64 n, .int .u64 b] 27)).alloc (.cells #[.int .i64 0, .int .u64 0] 27)))
 have B := hide b2
 clear b2
 go_enter Tryz.func88, Tryz.ntmps88
 go_wp2_with fail
 generalize ((w.alloc (.cells #[.int .i64 n, .int .u64 b] 27)).alloc (.cells #[.int .i64 0, .int .u64 0] 27)) = W1 at *
 generalize hH : w.heap.size = H at Vb Rb ⊢
 replace hH := hide hH
 refine HC.out.mono ?_
 rintro e w2 ⟨rfl, hb2⟩
 replace Vb := hide (Vb.out.below hb2)
 replace Rb := hide (Rb.out.below hb2)
 replace B := hide (B.out.trans (hb2.mono B.out.size))
 clear hb2 HC
 have y0 := Vb.out.cell 0
 have y1 := Vb.out.cell 1
 simp at y0 y1
 go_wp2_with fail
 refine (first_any n b k h0 h1 h32 hb w2).mono ?_
 rintro e w3 ⟨rfl, hb2⟩
 replace Rb := hide (Rb.out.below hb2)
 replace B := hide (B.out.trans (hb2.mono B.out.size))
 clear hb2 y0 y1
 generalize hP : ((pre n.toNat b.toNat k.toNat : Nat) : Int) = P
 replace hP := hide hP
 have z0 : w3.frozen? ⟨H + 1, 0, none⟩ = false := Rb.out.free 0
 have c0 : w3.cell? ⟨H + 1, 0, none⟩ = some (.int .i64 0) := Rb.out.cell 0
 have z1 : w3.frozen? ⟨H + 1, 1, none⟩ = false := Rb.out.free 1
 have c1 : w3.cell? ⟨H + 1, 1, none⟩ = some (.int .u64 0) := Rb.out.cell 1
 have fl := Rb.out.lt
 go_wp2
 clear z0 c0 z1 c1
 have hW : ((w3.setCell ⟨H + 1, 0, none⟩ (.int .i64 k)).setCell ⟨H + 1, 1, none⟩ (.int .u64 P)) = putCells w3 (H + 1) 0 [.int .i64 k, .int .u64 P] := rfl
 rw [hW]
 clear hW
 have F9 := putCells_is (cs := [.int .i64 0, .int .u64 0]) Rb.out [.int .i64 k, .int .u64 P] rfl
 have k9 := putCells_kp (H + 1) [.int .i64 k, .int .u64 P] w3 0
 refine ret_vt (p := 4) (u := 5) (b := H + 1) Tryz.results88 rfl rfl rfl F9 ?_
 exact ⟨by rw [hP.out]; rfl, (Kp.of_below (S := []) B.out).trans k9 (fun j hj => by simp at hj; right; rw [hj, hH.out]; omega) |>.to_below (Nat.le_refl _) (by simp)⟩

end Go.Proofs.YtokehogcenjefaaGreatDoor
