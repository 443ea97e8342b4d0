/- The document's lock: Ask. -/
import Derived.Test.YtapknlmplhjfeaaLL
namespace Go.Proofs.Ytapknlmplhjfeaa
open Go.RowKit Go.Maps

theorem RS.cons {w : World} {b : Nat} {v : Value} {h : Ow} {tl : List Ow} (r : RS w b v (h :: tl)) : IsB w b #[.bool true, .int .i64 h.1, .int .i64 h.2, v] 30 := by
  have := r.blk
  simpa [hd] using this
theorem RS.nil {w : World} {b : Nat} {v : Value} (r : RS w b v []) : IsB w b #[.bool false, .int .i64 0, .int .i64 0, v] 30 := by
  have := r.blk
  simpa [hd] using this

/-- A row is laid anew upon an empty one. -/
theorem run_clone {W : World} {p : Nat} (hp : IsB W p #[] 27) {x : Value} {l : List Ow} (hx : Sl W x l) (hl : l.length ≤ 100000) (ty : TypeId) :
    ∃ va vc W1, (Builtin.append_ #[28, 28] ty #[.slice (some ⟨p, 0, none⟩) 0 0, x]).run Try.prog W = .ok (.slice va l.length vc) W1 ∧ Rw W1 27 2 (.slice va l.length vc) l.length (ows l) ∧ (∀ k, (Value.slice va l.length vc).ownBlock = some k → k = p ∨ W.heap.size ≤ k) ∧ W.grownBy W1 (some p) := by
  obtain ⟨i0, hi, hz0, hz1, hz2⟩ := info_parts Try.infoO
  have hown0 : Rw W 27 2 (.slice (some ⟨p, 0, none⟩) 0 0) 0 [] := ⟨rfl, Or.inr ⟨_, 0, #[], rfl, hp, Nat.le_refl _, by unfold maxLen; omega, by simp, rfl⟩⟩
  obtain ⟨v', W1, hrun, hrw, hgr, hat, -⟩ := run_append_rw (P := Try.prog) W 28 ty 27 i0 _ 2 16 Try.underlying28 hi hz0 hz1 hz2 rfl _ 0 [] hown0 x l.length (ows l) (ows_len l) hx.src (ows_one l) (by unfold maxLen; omega) (by omega)
  rw [Nat.zero_add, List.nil_append] at hrw
  obtain ⟨va, vc, rfl, -, -⟩ := hrw.shape
  refine ⟨va, vc, W1, hrun, hrw, fun k hk => ?_, hgr⟩
  · rcases hat with h | h
    · rw [h] at hk; simp [Value.ownBlock] at hk; exact Or.inl hk.symm
    · rw [h] at hk; simp at hk; exact Or.inr (by omega)
/-- One owner more, upon a row of one's own. -/
theorem run_more {W : World} {B : Nat} {u : Value} {l : List Ow} (hu : Rw W 27 2 u l.length (ows l)) (hB : ∀ k, u.ownBlock = some k → B ≤ k) (hBW : B ≤ W.heap.size) (hl : l.length ≤ 100000) {x : Value} {m : List Ow} (hx : Sl W x m) (hm : m.length ≤ 100000) (ty : TypeId) :
    ∃ va vc W1, (Builtin.append_ #[28, 28] ty #[u, x]).run Try.prog W = .ok (.slice va (l ++ m).length vc) W1 ∧ Rw W1 27 2 (.slice va (l ++ m).length vc) (l ++ m).length (ows (l ++ m)) ∧ (∀ k, (Value.slice va (l ++ m).length vc).ownBlock = some k → B ≤ k) ∧ Below B W W1 := by
  obtain ⟨i0, hi, hz0, hz1, hz2⟩ := info_parts Try.infoO
  obtain ⟨v', W1, hrun, hrw, hgr, hat, -⟩ := run_append_rw (P := Try.prog) W 28 ty 27 i0 _ 2 16 Try.underlying28 hi hz0 hz1 hz2 rfl u l.length (ows l) hu x m.length (ows m) (ows_len m) hx.src (ows_one m) (by unfold maxLen; omega) (by omega)
  rw [← ows_app, ← List.length_append] at hrw
  obtain ⟨va, vc, rfl, -, -⟩ := hrw.shape
  refine ⟨va, vc, W1, hrun, hrw, fun k hk => ?_, ?_⟩
  · rcases hat with h | h
    · exact hB k (h ▸ hk)
    · rw [h] at hk; simp at hk; omega
  · exact (Below.refl B W).grown hgr hBW (fun k hk => hB k hk)
theorem Sl.one {W : World} {q : Nat} {a o : Int} (h : IsB W q #[.int .i64 a, .int .i64 o] 27) : Sl W (.slice (some ⟨q, 0, none⟩) 1 1) [(a, o)] := by
  refine Or.inr ⟨_, 0, 1, rfl, Nat.le_refl _, by unfold maxLen; omega, h.lt, fun j u hu => ?_⟩
  rw [Nat.zero_add, h.cell j]
  match j, hu with
  | 0, hu => exact hu
  | 1, hu => exact hu
  | j + 2, hu => simp [ows] at hu

theorem rask_bad (b : Nat) (w : World) (a o : Int) (hok : okO a o = false) : Calls Try.prog 23 #[.pointer (some ⟨b, 0, none⟩), .agg #[.int .i64 a, .int .i64 o]] w fun e w' => e = .returned (.tuple #[.bool false, .int .i64 70]) ∧ Below w.heap.size w w' := by
  go_enter Try.func23, Try.ntmps23
  go_wp2_with fail
  refine (isOwner_any a o _).mono ?_; rintro e w1 ⟨rfl, hb⟩
  rw [hok]
  have HB := hide (((Below.refl _ w).alloc (Nat.le_refl _) (.cells #[.int .i64 a, .int .i64 o] 27)).trans (hb.mono (by simp)))
  clear hb
  go_wp2
  go_ret2
  exact ⟨rfl, HB.out⟩

set_option maxHeartbeats 4000000 in
set_option maxRecDepth 100000 in
theorem rask_hold (b : Nat) (v : Value) (x y : Int) (tl : List Ow) (w : World) (a o : Int) (h : RS w b v ((x, y) :: tl)) (hok : okO a o = true) (hxy : x = a ∧ y = o) : Calls Try.prog 23 #[.pointer (some ⟨b, 0, none⟩), .agg #[.int .i64 a, .int .i64 o]] w fun e w' => e = .returned (.tuple #[.bool true, .int .i64 0]) ∧ Below w.heap.size w w' := by
  replace hxy := hide hxy
  have mixed : Try.prog.follows .mixedOrders = true := by kernel_rfl
  have bel0 := (Below.refl w.heap.size w).alloc (Nat.le_refl _) (.cells #[.int .i64 a, .int .i64 o] 27)
  have L1 := hide (h.below bel0)
  have J1 := hide (IsB.new w #[.int .i64 a, .int .i64 o] 27)
  have B1 := hide bel0
  have hlen := h.len
  obtain ⟨va, vc, rfl⟩ := h.nat
  replace hok := hide hok
  have h0 := hide h
  clear bel0 h
  simp only [List.tail_cons, List.length_cons] at *
  generalize hn : tl.length = n at *
  replace hn := hide hn
  go_enter Try.func23, Try.ntmps23
  go_wp2_with fail
  refine (isOwner_any a o _).mono ?_; rintro e w2 ⟨rfl, hb⟩
  rw [hok.out]
  have L2 := hide (L1.out.below hb)
  have J2 := hide (J1.out.below hb)
  have B2 := hide (B1.out.trans (hb.mono B1.out.size))
  clear hb L1 J1 B1
  generalize hH : w.heap.size = H at J2 ⊢
  replace hH := hide hH
  have hC := hide L2.out.cons
  have c0 := hC.out.cell 0
  have c1 := hC.out.cell 1
  have c2 := hC.out.cell 2
  have c3 := hC.out.cell 3
  have j0 := J2.out.cell 0
  have j1 := J2.out.cell 1
  simp at c0 c1 c2 c3 j0 j1
  go_wp2
  refine regionL 13 (fun w' => w'.cell? ⟨b, 0, none⟩ = some (.bool true) ∧ w'.cell? ⟨b, 1, none⟩ = some (.int .i64 x) ∧ w'.cell? ⟨b, 2, none⟩ = some (.int .i64 y) ∧ w'.cell? ⟨H, 0, none⟩ = some (.int .i64 a) ∧ w'.cell? ⟨H, 1, none⟩ = some (.int .i64 o)) mixed ⟨c0, c1, c2, j0, j1⟩ (fun hHeld => ?_)
  refine pickA (v := ?_) 0 (some 11) rfl rfl (by kernel_rfl) (by kernel_rfl) (by kernel_rfl) (by decide) (fun _ _ _ h => h) (by rfl) ?_ (by assumption) ?_
  rotate_left
  · intro w'
    go_simp
    try with_reducible rfl
  try simp only [Act.put, List.setIfInBounds_toArray, List.set_cons_zero, List.set_cons_succ]
  refine pickA (v := ?_) 1 (some 12) rfl rfl (by kernel_rfl) (by kernel_rfl) (by kernel_rfl) (by decide) (fun _ _ _ h => h) (by rfl) ?_ (by assumption) ?_
  rotate_left
  · intro w'
    go_simp
    try with_reducible rfl
  try simp only [Act.put, List.setIfInBounds_toArray, List.set_cons_zero, List.set_cons_succ]
  refine pickA (v := ?_) 2 (some 13) rfl rfl (by kernel_rfl) (by kernel_rfl) (by kernel_rfl) (by decide) (fun _ _ _ h => h) (by rfl) ?_ (by assumption) ?_
  rotate_left
  · intro w'
    go_simp
    try with_reducible rfl
  try simp only [Act.put, List.setIfInBounds_toArray, List.set_cons_zero, List.set_cons_succ]
  refine pickL (v := ?_) 3 (some 14) rfl rfl (by kernel_rfl) (by kernel_rfl) (by kernel_rfl) (by decide) (by kernel_rfl) (by kernel_rfl) (fun _ _ _ h => h) (by rfl) ?_ (by assumption) ?_
  rotate_left
  · intro w' hSw
    obtain ⟨q0, q1, q2, q3, q4⟩ := hSw
    go_simp
    try with_reducible rfl
  try simp only [Act.put, List.setIfInBounds_toArray, List.set_cons_zero, List.set_cons_succ]
  refine pickA (v := ?_) 4 (some 15) rfl rfl (by kernel_rfl) (by kernel_rfl) (by kernel_rfl) (by decide) (fun _ _ _ h => h) (by rfl) ?_ (by assumption) ?_
  rotate_left
  · intro w'
    go_simp
    try with_reducible rfl
  try simp only [Act.put, List.setIfInBounds_toArray, List.set_cons_zero, List.set_cons_succ]
  refine pickA (v := ?_) 5 (some 16) rfl rfl (by kernel_rfl) (by kernel_rfl) (by kernel_rfl) (by decide) (fun _ _ _ h => h) (by rfl) ?_ (by assumption) ?_
  rotate_left
  · intro w'
    go_simp
    try with_reducible rfl
  try simp only [Act.put, List.setIfInBounds_toArray, List.set_cons_zero, List.set_cons_succ]
  refine pickA (v := ?_) 6 (some 17) rfl rfl (by kernel_rfl) (by kernel_rfl) (by kernel_rfl) (by decide) (fun _ _ _ h => h) (by rfl) ?_ (by assumption) ?_
  rotate_left
  · intro w'
    go_simp
    try with_reducible rfl
  try simp only [Act.put, List.setIfInBounds_toArray, List.set_cons_zero, List.set_cons_succ]
  refine pickA (v := ?_) 7 (some 18) rfl rfl (by kernel_rfl) (by kernel_rfl) (by kernel_rfl) (by decide) (fun _ _ _ h => h) (by rfl) ?_ (by assumption) ?_
  rotate_left
  · intro w'
    go_simp
    try with_reducible rfl
  try simp only [Act.put, List.setIfInBounds_toArray, List.set_cons_zero, List.set_cons_succ]
  refine pickL (v := ?_) 8 (some 19) rfl rfl (by kernel_rfl) (by kernel_rfl) (by kernel_rfl) (by decide) (by kernel_rfl) (by kernel_rfl) (fun _ _ _ h => h) (by rfl) ?_ (by assumption) ?_
  rotate_left
  · intro w' hSw
    obtain ⟨q0, q1, q2, q3, q4⟩ := hSw
    go_simp
    try with_reducible rfl
  try simp only [Act.put, List.setIfInBounds_toArray, List.set_cons_zero, List.set_cons_succ]
  refine pickL (v := ?_) 9 (some 20) rfl rfl (by kernel_rfl) (by kernel_rfl) (by kernel_rfl) (by decide) (by kernel_rfl) (by kernel_rfl) (fun _ _ _ h => h) (by rfl) ?_ (by assumption) ?_
  rotate_left
  · intro w' hSw
    obtain ⟨q0, q1, q2, q3, q4⟩ := hSw
    go_simp
    try with_reducible rfl
  try simp only [Act.put, List.setIfInBounds_toArray, List.set_cons_zero, List.set_cons_succ]
  refine pickA (v := .bool true) 10 (some 21) rfl rfl (by kernel_rfl) (by kernel_rfl) (by kernel_rfl) (by decide) (fun _ _ _ h => h) (by rfl) ?_ (by assumption) ?_
  · intro w'
    go_simp
    simp [hxy.out.1, hxy.out.2]
  try simp only [Act.put, List.setIfInBounds_toArray, List.set_cons_zero, List.set_cons_succ]
  refine pickA (v := ?_) 11 (some 22) rfl rfl (by kernel_rfl) (by kernel_rfl) (by kernel_rfl) (by decide) (fun _ _ _ h => h) (by rfl) ?_ (by assumption) ?_
  rotate_left
  · intro w'
    go_simp
    try with_reducible rfl
  try simp only [Act.put, List.setIfInBounds_toArray, List.set_cons_zero, List.set_cons_succ]
  refine pickA (v := ?_) 12 (some 10) rfl rfl (by kernel_rfl) (by kernel_rfl) (by kernel_rfl) (by decide) (fun _ _ _ h => h) (by rfl) ?_ (by assumption) ?_
  rotate_left
  · intro w'
    go_simp
    try with_reducible rfl
  try simp only [Act.put, List.setIfInBounds_toArray, List.set_cons_zero, List.set_cons_succ]
  refine doneL (by kernel_rfl) ?_ _
  clear hHeld
  have LD := hide (L2.out.below ((Below.refl w2.heap.size w2).drew))
  have JD := hide (J2.out.below ((Below.refl w2.heap.size w2).drew))
  have BD := hide (B2.out.drew)
  clear L2 J2 B2 hC c0 c1 c2 c3 j0 j1
  generalize w2.drew = w3 at *
  go_wp2
  go_ret2
  exact ⟨rfl, BD.out⟩

set_option maxHeartbeats 4000000 in
set_option maxRecDepth 100000 in
theorem rask_wait (b : Nat) (v : Value) (x y : Int) (tl : List Ow) (w : World) (a o : Int) (h : RS w b v ((x, y) :: tl)) (hok : okO a o = true) (hxy : x = a → ¬y = o) (P : Nat) (hP : plc (a, o) tl = (P : Int)) : Calls Try.prog 23 #[.pointer (some ⟨b, 0, none⟩), .agg #[.int .i64 a, .int .i64 o]] w fun e w' => e = .returned (.tuple #[.bool false, .int .i64 0]) ∧ Below w.heap.size w w' := by
  replace hxy := hide hxy
  replace hP := hide hP
  have mixed : Try.prog.follows .mixedOrders = true := by kernel_rfl
  have bel0 := (Below.refl w.heap.size w).alloc (Nat.le_refl _) (.cells #[.int .i64 a, .int .i64 o] 27)
  have L1 := hide (h.below bel0)
  have J1 := hide (IsB.new w #[.int .i64 a, .int .i64 o] 27)
  have B1 := hide bel0
  have hlen := h.len
  obtain ⟨va, vc, rfl⟩ := h.nat
  replace hok := hide hok
  have h0 := hide h
  clear bel0 h
  simp only [List.tail_cons, List.length_cons] at *
  generalize hn : tl.length = n at *
  replace hn := hide hn
  go_enter Try.func23, Try.ntmps23
  go_wp2_with fail
  refine (isOwner_any a o _).mono ?_; rintro e w2 ⟨rfl, hb⟩
  rw [hok.out]
  have L2 := hide (L1.out.below hb)
  have J2 := hide (J1.out.below hb)
  have B2 := hide (B1.out.trans (hb.mono B1.out.size))
  clear hb L1 J1 B1
  generalize hH : w.heap.size = H at J2 ⊢
  replace hH := hide hH
  have hC := hide L2.out.cons
  have c0 := hC.out.cell 0
  have c1 := hC.out.cell 1
  have c2 := hC.out.cell 2
  have c3 := hC.out.cell 3
  have j0 := J2.out.cell 0
  have j1 := J2.out.cell 1
  simp at c0 c1 c2 c3 j0 j1
  go_wp2
  refine regionL 13 (fun w' => w'.cell? ⟨b, 0, none⟩ = some (.bool true) ∧ w'.cell? ⟨b, 1, none⟩ = some (.int .i64 x) ∧ w'.cell? ⟨b, 2, none⟩ = some (.int .i64 y) ∧ w'.cell? ⟨H, 0, none⟩ = some (.int .i64 a) ∧ w'.cell? ⟨H, 1, none⟩ = some (.int .i64 o)) mixed ⟨c0, c1, c2, j0, j1⟩ (fun hHeld => ?_)
  refine pickA (v := ?_) 0 (some 11) rfl rfl (by kernel_rfl) (by kernel_rfl) (by kernel_rfl) (by decide) (fun _ _ _ h => h) (by rfl) ?_ (by assumption) ?_
  rotate_left
  · intro w'
    go_simp
    try with_reducible rfl
  try simp only [Act.put, List.setIfInBounds_toArray, List.set_cons_zero, List.set_cons_succ]
  refine pickA (v := ?_) 1 (some 12) rfl rfl (by kernel_rfl) (by kernel_rfl) (by kernel_rfl) (by decide) (fun _ _ _ h => h) (by rfl) ?_ (by assumption) ?_
  rotate_left
  · intro w'
    go_simp
    try with_reducible rfl
  try simp only [Act.put, List.setIfInBounds_toArray, List.set_cons_zero, List.set_cons_succ]
  refine pickA (v := ?_) 2 (some 13) rfl rfl (by kernel_rfl) (by kernel_rfl) (by kernel_rfl) (by decide) (fun _ _ _ h => h) (by rfl) ?_ (by assumption) ?_
  rotate_left
  · intro w'
    go_simp
    try with_reducible rfl
  try simp only [Act.put, List.setIfInBounds_toArray, List.set_cons_zero, List.set_cons_succ]
  refine pickL (v := ?_) 3 (some 14) rfl rfl (by kernel_rfl) (by kernel_rfl) (by kernel_rfl) (by decide) (by kernel_rfl) (by kernel_rfl) (fun _ _ _ h => h) (by rfl) ?_ (by assumption) ?_
  rotate_left
  · intro w' hSw
    obtain ⟨q0, q1, q2, q3, q4⟩ := hSw
    go_simp
    try with_reducible rfl
  try simp only [Act.put, List.setIfInBounds_toArray, List.set_cons_zero, List.set_cons_succ]
  refine pickA (v := ?_) 4 (some 15) rfl rfl (by kernel_rfl) (by kernel_rfl) (by kernel_rfl) (by decide) (fun _ _ _ h => h) (by rfl) ?_ (by assumption) ?_
  rotate_left
  · intro w'
    go_simp
    try with_reducible rfl
  try simp only [Act.put, List.setIfInBounds_toArray, List.set_cons_zero, List.set_cons_succ]
  refine pickA (v := ?_) 5 (some 16) rfl rfl (by kernel_rfl) (by kernel_rfl) (by kernel_rfl) (by decide) (fun _ _ _ h => h) (by rfl) ?_ (by assumption) ?_
  rotate_left
  · intro w'
    go_simp
    try with_reducible rfl
  try simp only [Act.put, List.setIfInBounds_toArray, List.set_cons_zero, List.set_cons_succ]
  refine pickA (v := ?_) 6 (some 17) rfl rfl (by kernel_rfl) (by kernel_rfl) (by kernel_rfl) (by decide) (fun _ _ _ h => h) (by rfl) ?_ (by assumption) ?_
  rotate_left
  · intro w'
    go_simp
    try with_reducible rfl
  try simp only [Act.put, List.setIfInBounds_toArray, List.set_cons_zero, List.set_cons_succ]
  refine pickA (v := ?_) 7 (some 18) rfl rfl (by kernel_rfl) (by kernel_rfl) (by kernel_rfl) (by decide) (fun _ _ _ h => h) (by rfl) ?_ (by assumption) ?_
  rotate_left
  · intro w'
    go_simp
    try with_reducible rfl
  try simp only [Act.put, List.setIfInBounds_toArray, List.set_cons_zero, List.set_cons_succ]
  refine pickL (v := ?_) 8 (some 19) rfl rfl (by kernel_rfl) (by kernel_rfl) (by kernel_rfl) (by decide) (by kernel_rfl) (by kernel_rfl) (fun _ _ _ h => h) (by rfl) ?_ (by assumption) ?_
  rotate_left
  · intro w' hSw
    obtain ⟨q0, q1, q2, q3, q4⟩ := hSw
    go_simp
    try with_reducible rfl
  try simp only [Act.put, List.setIfInBounds_toArray, List.set_cons_zero, List.set_cons_succ]
  refine pickL (v := ?_) 9 (some 20) rfl rfl (by kernel_rfl) (by kernel_rfl) (by kernel_rfl) (by decide) (by kernel_rfl) (by kernel_rfl) (fun _ _ _ h => h) (by rfl) ?_ (by assumption) ?_
  rotate_left
  · intro w' hSw
    obtain ⟨q0, q1, q2, q3, q4⟩ := hSw
    go_simp
    try with_reducible rfl
  try simp only [Act.put, List.setIfInBounds_toArray, List.set_cons_zero, List.set_cons_succ]
  refine pickA (v := .bool false) 10 (some 21) rfl rfl (by kernel_rfl) (by kernel_rfl) (by kernel_rfl) (by decide) (fun _ _ _ h => h) (by rfl) ?_ (by assumption) ?_
  · intro w'
    go_simp
    exact hxy.out
  try simp only [Act.put, List.setIfInBounds_toArray, List.set_cons_zero, List.set_cons_succ]
  refine pickA (v := ?_) 11 (some 22) rfl rfl (by kernel_rfl) (by kernel_rfl) (by kernel_rfl) (by decide) (fun _ _ _ h => h) (by rfl) ?_ (by assumption) ?_
  rotate_left
  · intro w'
    go_simp
    try with_reducible rfl
  try simp only [Act.put, List.setIfInBounds_toArray, List.set_cons_zero, List.set_cons_succ]
  refine pickA (v := ?_) 12 (some 10) rfl rfl (by kernel_rfl) (by kernel_rfl) (by kernel_rfl) (by decide) (fun _ _ _ h => h) (by rfl) ?_ (by assumption) ?_
  rotate_left
  · intro w'
    go_simp
    try with_reducible rfl
  try simp only [Act.put, List.setIfInBounds_toArray, List.set_cons_zero, List.set_cons_succ]
  refine doneL (by kernel_rfl) ?_ _
  clear hHeld
  have LD := hide (L2.out.below ((Below.refl w2.heap.size w2).drew))
  have JD := hide (J2.out.below ((Below.refl w2.heap.size w2).drew))
  have BD := hide (B2.out.drew)
  clear L2 J2 B2 hC c0 c1 c2 c3 j0 j1
  generalize w2.drew = w3 at *
  have j0 := JD.out.cell 0
  have j1 := JD.out.cell 1
  simp at j0 j1
  go_wp2_with fail
  clear j0 j1
  refine (rplace_any b _ _ a o _ LD.out).mono ?_; rintro e w4 ⟨rfl, hb⟩
  rw [show plc (a, o) (List.tail ((x, y) :: tl)) = _ from hP.out]
  have L4 := hide (LD.out.below hb)
  have J4 := hide (JD.out.below hb)
  have B4 := hide (BD.out.trans (hb.mono BD.out.size))
  clear hb LD JD BD
  have hP0 : (0 : Int) ≤ (P : Int) := by omega
  go_wp2
  go_ret2
  exact ⟨rfl, B4.out⟩

set_option maxHeartbeats 4000000 in
set_option maxRecDepth 100000 in
theorem rask_many (b : Nat) (v : Value) (x y : Int) (tl : List Ow) (w : World) (a o : Int) (h : RS w b v ((x, y) :: tl)) (hok : okO a o = true) (hxy : x = a → ¬y = o) (hP : plc (a, o) tl = -1) (hl : tl.length = 64) : Calls Try.prog 23 #[.pointer (some ⟨b, 0, none⟩), .agg #[.int .i64 a, .int .i64 o]] w fun e w' => e = .returned (.tuple #[.bool false, .int .i64 3]) ∧ Below w.heap.size w w' := by
  replace hxy := hide hxy
  replace hP := hide hP
  replace hl := hide hl
  have mixed : Try.prog.follows .mixedOrders = true := by kernel_rfl
  have bel0 := (Below.refl w.heap.size w).alloc (Nat.le_refl _) (.cells #[.int .i64 a, .int .i64 o] 27)
  have L1 := hide (h.below bel0)
  have J1 := hide (IsB.new w #[.int .i64 a, .int .i64 o] 27)
  have B1 := hide bel0
  have hlen := h.len
  obtain ⟨va, vc, rfl⟩ := h.nat
  replace hok := hide hok
  have h0 := hide h
  clear bel0 h
  simp only [List.tail_cons, List.length_cons] at *
  generalize hn : tl.length = n at *
  replace hn := hide hn
  go_enter Try.func23, Try.ntmps23
  go_wp2_with fail
  refine (isOwner_any a o _).mono ?_; rintro e w2 ⟨rfl, hb⟩
  rw [hok.out]
  have L2 := hide (L1.out.below hb)
  have J2 := hide (J1.out.below hb)
  have B2 := hide (B1.out.trans (hb.mono B1.out.size))
  clear hb L1 J1 B1
  generalize hH : w.heap.size = H at J2 ⊢
  replace hH := hide hH
  have hC := hide L2.out.cons
  have c0 := hC.out.cell 0
  have c1 := hC.out.cell 1
  have c2 := hC.out.cell 2
  have c3 := hC.out.cell 3
  have j0 := J2.out.cell 0
  have j1 := J2.out.cell 1
  simp at c0 c1 c2 c3 j0 j1
  go_wp2
  refine regionL 13 (fun w' => w'.cell? ⟨b, 0, none⟩ = some (.bool true) ∧ w'.cell? ⟨b, 1, none⟩ = some (.int .i64 x) ∧ w'.cell? ⟨b, 2, none⟩ = some (.int .i64 y) ∧ w'.cell? ⟨H, 0, none⟩ = some (.int .i64 a) ∧ w'.cell? ⟨H, 1, none⟩ = some (.int .i64 o)) mixed ⟨c0, c1, c2, j0, j1⟩ (fun hHeld => ?_)
  refine pickA (v := ?_) 0 (some 11) rfl rfl (by kernel_rfl) (by kernel_rfl) (by kernel_rfl) (by decide) (fun _ _ _ h => h) (by rfl) ?_ (by assumption) ?_
  rotate_left
  · intro w'
    go_simp
    try with_reducible rfl
  try simp only [Act.put, List.setIfInBounds_toArray, List.set_cons_zero, List.set_cons_succ]
  refine pickA (v := ?_) 1 (some 12) rfl rfl (by kernel_rfl) (by kernel_rfl) (by kernel_rfl) (by decide) (fun _ _ _ h => h) (by rfl) ?_ (by assumption) ?_
  rotate_left
  · intro w'
    go_simp
    try with_reducible rfl
  try simp only [Act.put, List.setIfInBounds_toArray, List.set_cons_zero, List.set_cons_succ]
  refine pickA (v := ?_) 2 (some 13) rfl rfl (by kernel_rfl) (by kernel_rfl) (by kernel_rfl) (by decide) (fun _ _ _ h => h) (by rfl) ?_ (by assumption) ?_
  rotate_left
  · intro w'
    go_simp
    try with_reducible rfl
  try simp only [Act.put, List.setIfInBounds_toArray, List.set_cons_zero, List.set_cons_succ]
  refine pickL (v := ?_) 3 (some 14) rfl rfl (by kernel_rfl) (by kernel_rfl) (by kernel_rfl) (by decide) (by kernel_rfl) (by kernel_rfl) (fun _ _ _ h => h) (by rfl) ?_ (by assumption) ?_
  rotate_left
  · intro w' hSw
    obtain ⟨q0, q1, q2, q3, q4⟩ := hSw
    go_simp
    try with_reducible rfl
  try simp only [Act.put, List.setIfInBounds_toArray, List.set_cons_zero, List.set_cons_succ]
  refine pickA (v := ?_) 4 (some 15) rfl rfl (by kernel_rfl) (by kernel_rfl) (by kernel_rfl) (by decide) (fun _ _ _ h => h) (by rfl) ?_ (by assumption) ?_
  rotate_left
  · intro w'
    go_simp
    try with_reducible rfl
  try simp only [Act.put, List.setIfInBounds_toArray, List.set_cons_zero, List.set_cons_succ]
  refine pickA (v := ?_) 5 (some 16) rfl rfl (by kernel_rfl) (by kernel_rfl) (by kernel_rfl) (by decide) (fun _ _ _ h => h) (by rfl) ?_ (by assumption) ?_
  rotate_left
  · intro w'
    go_simp
    try with_reducible rfl
  try simp only [Act.put, List.setIfInBounds_toArray, List.set_cons_zero, List.set_cons_succ]
  refine pickA (v := ?_) 6 (some 17) rfl rfl (by kernel_rfl) (by kernel_rfl) (by kernel_rfl) (by decide) (fun _ _ _ h => h) (by rfl) ?_ (by assumption) ?_
  rotate_left
  · intro w'
    go_simp
    try with_reducible rfl
  try simp only [Act.put, List.setIfInBounds_toArray, List.set_cons_zero, List.set_cons_succ]
  refine pickA (v := ?_) 7 (some 18) rfl rfl (by kernel_rfl) (by kernel_rfl) (by kernel_rfl) (by decide) (fun _ _ _ h => h) (by rfl) ?_ (by assumption) ?_
  rotate_left
  · intro w'
    go_simp
    try with_reducible rfl
  try simp only [Act.put, List.setIfInBounds_toArray, List.set_cons_zero, List.set_cons_succ]
  refine pickL (v := ?_) 8 (some 19) rfl rfl (by kernel_rfl) (by kernel_rfl) (by kernel_rfl) (by decide) (by kernel_rfl) (by kernel_rfl) (fun _ _ _ h => h) (by rfl) ?_ (by assumption) ?_
  rotate_left
  · intro w' hSw
    obtain ⟨q0, q1, q2, q3, q4⟩ := hSw
    go_simp
    try with_reducible rfl
  try simp only [Act.put, List.setIfInBounds_toArray, List.set_cons_zero, List.set_cons_succ]
  refine pickL (v := ?_) 9 (some 20) rfl rfl (by kernel_rfl) (by kernel_rfl) (by kernel_rfl) (by decide) (by kernel_rfl) (by kernel_rfl) (fun _ _ _ h => h) (by rfl) ?_ (by assumption) ?_
  rotate_left
  · intro w' hSw
    obtain ⟨q0, q1, q2, q3, q4⟩ := hSw
    go_simp
    try with_reducible rfl
  try simp only [Act.put, List.setIfInBounds_toArray, List.set_cons_zero, List.set_cons_succ]
  refine pickA (v := .bool false) 10 (some 21) rfl rfl (by kernel_rfl) (by kernel_rfl) (by kernel_rfl) (by decide) (fun _ _ _ h => h) (by rfl) ?_ (by assumption) ?_
  · intro w'
    go_simp
    exact hxy.out
  try simp only [Act.put, List.setIfInBounds_toArray, List.set_cons_zero, List.set_cons_succ]
  refine pickA (v := ?_) 11 (some 22) rfl rfl (by kernel_rfl) (by kernel_rfl) (by kernel_rfl) (by decide) (fun _ _ _ h => h) (by rfl) ?_ (by assumption) ?_
  rotate_left
  · intro w'
    go_simp
    try with_reducible rfl
  try simp only [Act.put, List.setIfInBounds_toArray, List.set_cons_zero, List.set_cons_succ]
  refine pickA (v := ?_) 12 (some 10) rfl rfl (by kernel_rfl) (by kernel_rfl) (by kernel_rfl) (by decide) (fun _ _ _ h => h) (by rfl) ?_ (by assumption) ?_
  rotate_left
  · intro w'
    go_simp
    try with_reducible rfl
  try simp only [Act.put, List.setIfInBounds_toArray, List.set_cons_zero, List.set_cons_succ]
  refine doneL (by kernel_rfl) ?_ _
  clear hHeld
  have LD := hide (L2.out.below ((Below.refl w2.heap.size w2).drew))
  have JD := hide (J2.out.below ((Below.refl w2.heap.size w2).drew))
  have BD := hide (B2.out.drew)
  clear L2 J2 B2 hC c0 c1 c2 c3 j0 j1
  generalize w2.drew = w3 at *
  have j0 := JD.out.cell 0
  have j1 := JD.out.cell 1
  simp at j0 j1
  go_wp2_with fail
  clear j0 j1
  refine (rplace_any b _ _ a o _ LD.out).mono ?_; rintro e w4 ⟨rfl, hb⟩
  rw [show plc (a, o) (List.tail ((x, y) :: tl)) = _ from hP.out]
  have L4 := hide (LD.out.below hb)
  have J4 := hide (JD.out.below hb)
  have B4 := hide (BD.out.trans (hb.mono BD.out.size))
  clear hb LD JD BD
  have c0 := L4.out.cons.cell 0
  have c3 := L4.out.cons.cell 3
  simp at c0 c3
  obtain rfl : n = 64 := hl.out
  go_wp2
  go_ret2
  exact ⟨rfl, B4.out⟩

set_option maxHeartbeats 4000000 in
set_option maxRecDepth 100000 in
theorem rask_first (b : Nat) (v : Value)  (w : World) (a o : Int) (h : RS w b v []) (hok : okO a o = true)  : Calls Try.prog 23 #[.pointer (some ⟨b, 0, none⟩), .agg #[.int .i64 a, .int .i64 o]] w fun e w' => e = .returned (.tuple #[.bool true, .int .i64 0]) ∧ ∃ v', Rx w w' b v v' [(a, o)] := by
  have hP : Hid (plc (a, o) [] = -1) := plc_no fun q hq => by simp at hq
  have mixed : Try.prog.follows .mixedOrders = true := by kernel_rfl
  have bel0 := (Below.refl w.heap.size w).alloc (Nat.le_refl _) (.cells #[.int .i64 a, .int .i64 o] 27)
  have L1 := hide (h.below bel0)
  have J1 := hide (IsB.new w #[.int .i64 a, .int .i64 o] 27)
  have B1 := hide bel0
  have hlen := h.len
  obtain ⟨va, vc, rfl⟩ := h.nat
  replace hok := hide hok
  have h0 := hide h
  clear bel0 h
  simp only [List.tail_nil, List.length_nil] at *
  go_enter Try.func23, Try.ntmps23
  go_wp2_with fail
  refine (isOwner_any a o _).mono ?_; rintro e w2 ⟨rfl, hb⟩
  rw [hok.out]
  have L2 := hide (L1.out.below hb)
  have J2 := hide (J1.out.below hb)
  have B2 := hide (B1.out.trans (hb.mono B1.out.size))
  clear hb L1 J1 B1
  generalize hH : w.heap.size = H at J2 ⊢
  replace hH := hide hH
  have hC := hide L2.out.nil
  have c0 := hC.out.cell 0
  have c1 := hC.out.cell 1
  have c2 := hC.out.cell 2
  have c3 := hC.out.cell 3
  have j0 := J2.out.cell 0
  have j1 := J2.out.cell 1
  simp at c0 c1 c2 c3 j0 j1
  go_wp2
  refine regionL 13 (fun w' => w'.cell? ⟨b, 0, none⟩ = some (.bool false) ∧ w'.cell? ⟨b, 1, none⟩ = some (.int .i64 0) ∧ w'.cell? ⟨b, 2, none⟩ = some (.int .i64 0) ∧ w'.cell? ⟨H, 0, none⟩ = some (.int .i64 a) ∧ w'.cell? ⟨H, 1, none⟩ = some (.int .i64 o)) mixed ⟨c0, c1, c2, j0, j1⟩ (fun hHeld => ?_)
  refine pickA (v := ?_) 0 (some 11) rfl rfl (by kernel_rfl) (by kernel_rfl) (by kernel_rfl) (by decide) (fun _ _ _ h => h) (by rfl) ?_ (by assumption) ?_
  rotate_left
  · intro w'
    go_simp
    try with_reducible rfl
  try simp only [Act.put, List.setIfInBounds_toArray, List.set_cons_zero, List.set_cons_succ]
  refine pickA (v := ?_) 1 (some 12) rfl rfl (by kernel_rfl) (by kernel_rfl) (by kernel_rfl) (by decide) (fun _ _ _ h => h) (by rfl) ?_ (by assumption) ?_
  rotate_left
  · intro w'
    go_simp
    try with_reducible rfl
  try simp only [Act.put, List.setIfInBounds_toArray, List.set_cons_zero, List.set_cons_succ]
  refine pickA (v := ?_) 2 (some 13) rfl rfl (by kernel_rfl) (by kernel_rfl) (by kernel_rfl) (by decide) (fun _ _ _ h => h) (by rfl) ?_ (by assumption) ?_
  rotate_left
  · intro w'
    go_simp
    try with_reducible rfl
  try simp only [Act.put, List.setIfInBounds_toArray, List.set_cons_zero, List.set_cons_succ]
  refine pickL (v := ?_) 3 (some 14) rfl rfl (by kernel_rfl) (by kernel_rfl) (by kernel_rfl) (by decide) (by kernel_rfl) (by kernel_rfl) (fun _ _ _ h => h) (by rfl) ?_ (by assumption) ?_
  rotate_left
  · intro w' hSw
    obtain ⟨q0, q1, q2, q3, q4⟩ := hSw
    go_simp
    try with_reducible rfl
  try simp only [Act.put, List.setIfInBounds_toArray, List.set_cons_zero, List.set_cons_succ]
  refine pickA (v := ?_) 4 (some 15) rfl rfl (by kernel_rfl) (by kernel_rfl) (by kernel_rfl) (by decide) (fun _ _ _ h => h) (by rfl) ?_ (by assumption) ?_
  rotate_left
  · intro w'
    go_simp
    try with_reducible rfl
  try simp only [Act.put, List.setIfInBounds_toArray, List.set_cons_zero, List.set_cons_succ]
  refine pickN 5 (some 16) rfl rfl (by kernel_rfl) (by kernel_rfl) (by kernel_rfl) (by decide) (fun _ _ _ h => h) (by rfl) (by assumption) ?_
  try simp only [Act.put, List.setIfInBounds_toArray, List.set_cons_zero, List.set_cons_succ]
  refine pickN 6 (some 17) rfl rfl (by kernel_rfl) (by kernel_rfl) (by kernel_rfl) (by decide) (fun _ _ _ h => h) (by rfl) (by assumption) ?_
  try simp only [Act.put, List.setIfInBounds_toArray, List.set_cons_zero, List.set_cons_succ]
  refine pickN 7 (some 18) rfl rfl (by kernel_rfl) (by kernel_rfl) (by kernel_rfl) (by decide) (fun _ _ _ h => h) (by rfl) (by assumption) ?_
  try simp only [Act.put, List.setIfInBounds_toArray, List.set_cons_zero, List.set_cons_succ]
  refine pickN 8 (some 19) rfl rfl (by kernel_rfl) (by kernel_rfl) (by kernel_rfl) (by decide) (fun _ _ _ h => h) (by rfl) (by assumption) ?_
  try simp only [Act.put, List.setIfInBounds_toArray, List.set_cons_zero, List.set_cons_succ]
  refine pickN 9 (some 20) rfl rfl (by kernel_rfl) (by kernel_rfl) (by kernel_rfl) (by decide) (fun _ _ _ h => h) (by rfl) (by assumption) ?_
  try simp only [Act.put, List.setIfInBounds_toArray, List.set_cons_zero, List.set_cons_succ]
  refine pickN 10 (some 21) rfl rfl (by kernel_rfl) (by kernel_rfl) (by kernel_rfl) (by decide) (fun _ _ _ h => h) (by rfl) (by assumption) ?_
  try simp only [Act.put, List.setIfInBounds_toArray, List.set_cons_zero, List.set_cons_succ]
  refine pickA (v := ?_) 11 (some 22) rfl rfl (by kernel_rfl) (by kernel_rfl) (by kernel_rfl) (by decide) (fun _ _ _ h => h) (by rfl) ?_ (by assumption) ?_
  rotate_left
  · intro w'
    go_simp
    try with_reducible rfl
  try simp only [Act.put, List.setIfInBounds_toArray, List.set_cons_zero, List.set_cons_succ]
  refine pickA (v := ?_) 12 (some 10) rfl rfl (by kernel_rfl) (by kernel_rfl) (by kernel_rfl) (by decide) (fun _ _ _ h => h) (by rfl) ?_ (by assumption) ?_
  rotate_left
  · intro w'
    go_simp
    try with_reducible rfl
  try simp only [Act.put, List.setIfInBounds_toArray, List.set_cons_zero, List.set_cons_succ]
  refine doneL (by kernel_rfl) ?_ _
  clear hHeld
  have LD := hide (L2.out.below ((Below.refl w2.heap.size w2).drew))
  have JD := hide (J2.out.below ((Below.refl w2.heap.size w2).drew))
  have BD := hide (B2.out.drew)
  clear L2 J2 B2 hC c0 c1 c2 c3 j0 j1
  generalize w2.drew = w3 at *
  have j0 := JD.out.cell 0
  have j1 := JD.out.cell 1
  simp at j0 j1
  go_wp2_with fail
  clear j0 j1
  refine (rplace_any b _ _ a o _ LD.out).mono ?_; rintro e w4 ⟨rfl, hb⟩
  rw [show plc (a, o) (List.tail []) = _ from hP.out]
  have L4 := hide (LD.out.below hb)
  have J4 := hide (JD.out.below hb)
  have B4 := hide (BD.out.trans (hb.mono BD.out.size))
  clear hb LD JD BD
  have hB := hide L4.out.nil
  have c0 := hB.out.cell 0
  have c1 := hB.out.cell 1
  have c2 := hB.out.cell 2
  have f0 := hB.out.free 0
  have f1 := hB.out.free 1
  have f2 := hB.out.free 2
  simp at c0 c1 c2
  have hbH : Hid (b ≠ H) := fun e => by
    have h1 := h0.out.blk.lt
    have := hH.out
    omega
  go_wp2
  have HS8 : Hid ((fun w' => w'.cell? ⟨H, 0, none⟩ = some (.int .i64 a) ∧ w'.cell? ⟨H, 1, none⟩ = some (.int .i64 o)) w4.drew) := ⟨J4.out.cell 0, J4.out.cell 1⟩
  have JS : ∀ c u, IsB (w4.drew.setCell ⟨b, c, none⟩ u) H #[.int .i64 a, .int .i64 o] 27 := fun c u => IsB.setOther (show IsB w4.drew H _ _ from J4.out) (Ne.symm hbH.out) u
  have HS9 : Hid ((fun w' => w'.cell? ⟨H, 0, none⟩ = some (.int .i64 a) ∧ w'.cell? ⟨H, 1, none⟩ = some (.int .i64 o)) (w4.drew.setCell ⟨b, 0, none⟩ (.bool true))) := ⟨(JS _ _).cell 0, (JS _ _).cell 1⟩
  have HS10 : Hid ((fun w' => w'.cell? ⟨H, 0, none⟩ = some (.int .i64 a) ∧ w'.cell? ⟨H, 1, none⟩ = some (.int .i64 o)) (((w4.drew.setCell ⟨b, 0, none⟩ (.bool true)).setCell ⟨b, 1, none⟩ (.int .i64 a)).setCell ⟨b, 2, none⟩ (.int .i64 o))) := ⟨(((JS _ _).setOther (Ne.symm hbH.out) _).setOther (Ne.symm hbH.out) _).cell 0, (((JS _ _).setOther (Ne.symm hbH.out) _).setOther (Ne.symm hbH.out) _).cell 1⟩
  clear JS
  refine regionL 9 (fun w' => w'.cell? ⟨H, 0, none⟩ = some (.int .i64 a) ∧ w'.cell? ⟨H, 1, none⟩ = some (.int .i64 o)) mixed HS8.out (fun hHeld => ?_)
  refine pickA (v := ?_) 0 (some 34) rfl rfl (by kernel_rfl) (by kernel_rfl) (by kernel_rfl) (by decide) (fun _ _ _ h => h) (by rfl) ?_ (by assumption) ?_
  rotate_left
  · intro w'
    go_simp
    try with_reducible rfl
  try simp only [Act.put, List.setIfInBounds_toArray, List.set_cons_zero, List.set_cons_succ]
  refine pickA (v := ?_) 1 (some 35) rfl rfl (by kernel_rfl) (by kernel_rfl) (by kernel_rfl) (by decide) (fun _ _ _ h => h) (by rfl) ?_ (by assumption) ?_
  rotate_left
  · intro w'
    go_simp
    try with_reducible rfl
  try simp only [Act.put, List.setIfInBounds_toArray, List.set_cons_zero, List.set_cons_succ]
  refine pickL (v := ?_) 2 (some 36) rfl rfl (by kernel_rfl) (by kernel_rfl) (by kernel_rfl) (by decide) (by kernel_rfl) (by kernel_rfl) (fun _ _ _ h => h) (by rfl) ?_ (by assumption) ?_
  rotate_left
  · intro w' hSw
    obtain ⟨q0, q1⟩ := hSw
    go_simp
    try with_reducible rfl
  try simp only [Act.put, List.setIfInBounds_toArray, List.set_cons_zero, List.set_cons_succ]
  refine pickA (v := ?_) 3 (some 37) rfl rfl (by kernel_rfl) (by kernel_rfl) (by kernel_rfl) (by decide) (fun _ _ _ h => h) (by rfl) ?_ (by assumption) ?_
  rotate_left
  · intro w'
    go_simp
    try with_reducible rfl
  try simp only [Act.put, List.setIfInBounds_toArray, List.set_cons_zero, List.set_cons_succ]
  refine pickA (v := ?_) 4 (some 38) rfl rfl (by kernel_rfl) (by kernel_rfl) (by kernel_rfl) (by decide) (fun _ _ _ h => h) (by rfl) ?_ (by assumption) ?_
  rotate_left
  · intro w'
    go_simp
    try with_reducible rfl
  try simp only [Act.put, List.setIfInBounds_toArray, List.set_cons_zero, List.set_cons_succ]
  refine oneL (i := 5) (by kernel_rfl) rfl (fun K hK => ?_)
  go_simp
  refine hK.out _ _ ?_ ?_
  · exact HS9.out
  clear hK K
  try simp only [Act.put, List.setIfInBounds_toArray, List.set_cons_zero, List.set_cons_succ]
  clear hHeld
  have hHeld : (fun w' => w'.cell? ⟨H, 0, none⟩ = some (.int .i64 a) ∧ w'.cell? ⟨H, 1, none⟩ = some (.int .i64 o)) (w4.drew.setCell ⟨b, 0, none⟩ (.bool true)) := HS9.out
  refine pickA (v := ?_) 6 (some 39) rfl rfl (by kernel_rfl) (by kernel_rfl) (by kernel_rfl) (by decide) (fun _ _ _ h => h) (by rfl) ?_ (by assumption) ?_
  rotate_left
  · intro w'
    go_simp
    try with_reducible rfl
  try simp only [Act.put, List.setIfInBounds_toArray, List.set_cons_zero, List.set_cons_succ]
  refine pickA (v := ?_) 7 (some 40) rfl rfl (by kernel_rfl) (by kernel_rfl) (by kernel_rfl) (by decide) (fun _ _ _ h => h) (by rfl) ?_ (by assumption) ?_
  rotate_left
  · intro w'
    go_simp
    try with_reducible rfl
  try simp only [Act.put, List.setIfInBounds_toArray, List.set_cons_zero, List.set_cons_succ]
  refine oneL (i := 8) (by kernel_rfl) rfl (fun K hK => ?_)
  go_simp
  refine hK.out _ _ ?_ ?_
  · exact HS10.out
  clear hK K
  try simp only [Act.put, List.setIfInBounds_toArray, List.set_cons_zero, List.set_cons_succ]
  clear hHeld
  have hHeld : (fun w' => w'.cell? ⟨H, 0, none⟩ = some (.int .i64 a) ∧ w'.cell? ⟨H, 1, none⟩ = some (.int .i64 o)) (((w4.drew.setCell ⟨b, 0, none⟩ (.bool true)).setCell ⟨b, 1, none⟩ (.int .i64 a)).setCell ⟨b, 2, none⟩ (.int .i64 o)) := HS10.out
  refine doneL (by kernel_rfl) ?_ _
  clear hHeld
  go_wp2
  go_ret2
  have hk : Kp [b] w4 (((w4.drew.setCell ⟨b, 0, none⟩ (.bool true)).setCell ⟨b, 1, none⟩ (.int .i64 a)).setCell ⟨b, 2, none⟩ (.int .i64 o)) := ((((Kp.refl [b] w4).drew).set _ _ (Or.inl (by simp))).set _ _ (Or.inl (by simp))).set _ _ (Or.inl (by simp))
  have hI : IsB (((w4.drew.setCell ⟨b, 0, none⟩ (.bool true)).setCell ⟨b, 1, none⟩ (.int .i64 a)).setCell ⟨b, 2, none⟩ (.int .i64 o)) b #[.bool true, .int .i64 a, .int .i64 o, .slice va 0 vc] 30 := by
    have := (((show IsB w4.drew b _ _ from hB.out).set 0 (.bool true)).set 1 (.int .i64 a)).set 2 (.int .i64 o)
    simpa using this
  refine ⟨rfl, .slice va 0 vc, ⟨?_, L4.out.row.kp hk (fun q hq => by simp; exact L4.out.apart q hq), by simp⟩, Kp.trans (Kp.of_below B4.out) hk (by simp), fun q hq => Or.inl hq⟩
  exact hI

/-- What 'Ask' makes of the memory, once the row is laid anew and the owner's slice is laid. -/
theorem ask_fin {W0 W : World} {u : Value} {tl : List Ow} {q : Nat} {a o : Int} (hb : Below W0.heap.size W0 W) (hu : Rw W 27 2 u tl.length (ows tl)) (hat : ∀ k, u.ownBlock = some k → W0.heap.size ≤ k) (hq : IsB W q #[.int .i64 a, .int .i64 o] 27) (hl : tl.length ≤ 1000) :
    ∃ ua uc W9, (Builtin.append_ #[28, 28] 28 #[u, .slice (some ⟨q, 0, none⟩) 1 1]).run Try.prog W = .ok (.slice ua (tl ++ [(a, o)]).length uc) W9 ∧ Rw W9 27 2 (.slice ua (tl ++ [(a, o)]).length uc) (tl ++ [(a, o)]).length (ows (tl ++ [(a, o)])) ∧ (∀ k, (Value.slice ua (tl ++ [(a, o)]).length uc).ownBlock = some k → W0.heap.size ≤ k) ∧ Below W0.heap.size W0 W9 := by
  obtain ⟨ua, uc, W9, h1, h2, h3, h4⟩ := run_more hu hat hb.size (by omega) (Sl.one hq) (by simp) 28
  exact ⟨ua, uc, W9, h1, h2, h3, hb.trans h4⟩

end Go.Proofs.Ytapknlmplhjfeaa
