/- Package link: cells that are stored one by one; how a record stands; whose its lock is. -/
import Derived.Test.YtdogdinkopocaaaDoorKN
namespace Go.Proofs.YtdogdinkopocaaaDoor
open Go.RowKit Go.Maps

/-- The world behind the writing of cells, one behind the other. -/
def putCells (w : World) (b : Nat) : Nat → List Value → World
  | _, [] => w
  | j, v :: vs => putCells (w.setCell ⟨b, j, none⟩ v) b (j + 1) vs
theorem IsB.setj {w : World} {b : Nat} {cs : Array Value} {t : TypeId} (h : IsB w b cs t) (j : Nat) (v : Value) : IsB (w.setCell ⟨b, j, none⟩ v) b (cs.setIfInBounds j v) t := by
  unfold IsB at *
  rw [Sort.setCell_eq]
  simp only [Sort.mapBlock, Array.getElem?_modify, if_true, h, Option.map_some, Sort.onCells]
theorem putCells_at {b : Nat} {t : TypeId} (vs : List Value) : ∀ (w : World) (j : Nat) (pre : List Value) (cs : List Value), IsB w b cs.toArray t → cs.length = j + vs.length → cs.take j = pre → pre.length = j → IsB (putCells w b j vs) b (pre ++ vs).toArray t := by
  induction vs with
  | nil =>
    intro w j pre cs h hl hp hpl
    have : cs = pre := by rw [← hp, List.take_of_length_le (by simp at hl; omega)]
    unfold putCells
    rw [List.append_nil, ← this]; exact h
  | cons v vs ih =>
    intro w j pre cs h hl hp hpl
    unfold putCells
    have h2 := h.setj j v
    rw [List.setIfInBounds_toArray] at h2
    have := ih _ (j + 1) (pre ++ [v]) (cs.set j v) h2 (by simp at hl ⊢; omega) (by
      rw [List.take_succ_eq_append_getElem (by simp at hl ⊢; omega), List.take_set_of_le (Nat.le_refl _), hp]
      simp) (by simp [hpl])
    rw [List.append_assoc] at this
    exact this
theorem putCells_is {w : World} {b : Nat} {t : TypeId} {cs : List Value} (h : IsB w b cs.toArray t) (vs : List Value) (hl : cs.length = vs.length) : IsB (putCells w b 0 vs) b vs.toArray t := by
  have := putCells_at vs w 0 [] cs h (by omega) rfl rfl
  exact this
theorem putCells_other {b c : Nat} {cs : Array Value} {t : TypeId} (hne : c ≠ b) (vs : List Value) : ∀ (w : World) (j : Nat), IsB w c cs t → IsB (putCells w b j vs) c cs t := by
  induction vs with
  | nil => intro w j h; exact h
  | cons v vs ih => intro w j h; exact ih _ (j + 1) (h.setOther (a := ⟨b, j, none⟩) hne v)
theorem putCells_kp (b : Nat) (vs : List Value) : ∀ (w : World) (j : Nat), Kp [b] w (putCells w b j vs) := by
  induction vs with
  | nil => intro w j; exact Kp.refl _ _
  | cons v vs ih => intro w j; exact ((Kp.refl [b] w).set ⟨b, j, none⟩ v (Or.inl (by simp))).trans (ih _ (j + 1)) (by simp)
theorem rs_info : (Tryd.prog.info? 107).map (·.size) = some 16 := by kernel_rfl
/-- A record is returned out of the block of its variable. -/
theorem ret_rs {fn : Func} {p : Tmp} (hf : fn.results = #[.cell p 107]) {Q : Ending → World → Prop} {tmps : Array Value} {w : World} {b : Nat} {cs : Array Value} (hs : cs.size = 16)
    (hp : tmps.getD p undef = .pointer (some ⟨b, 0, none⟩)) (I : IsB w b cs 107) (hQ : Q (.returned (.agg cs)) w) :
    bodyPost Tryd.prog fn Q .ret ⟨tmps, []⟩ w :=
  bodyPost_ret (results_cell_row hf tmps w b 107 cs (0, 0) _ hp I Tryd.underlying107 rfl (by rw [hs]; exact rs_info)) rfl hQ
theorem ret_rst {fn : Func} {p u : Tmp} (hf : fn.results = #[.cell p 107, .tmp u]) {Q : Ending → World → Prop} {tmps : Array Value} {w : World} {b : Nat} {cs : Array Value} {v : Value} (hs : cs.size = 16)
    (hp : tmps.getD p undef = .pointer (some ⟨b, 0, none⟩)) (hu : tmps.getD u undef = v) (I : IsB w b cs 107) (hQ : Q (.returned (.tuple #[.agg cs, v])) w) :
    bodyPost Tryd.prog fn Q .ret ⟨tmps, []⟩ w := by
  refine bodyPost_ret ?_ rfl hQ
  rw [results_cell_tmp hf, hp, hu]
  have h := run_loadVar_row (P := Tryd.prog) w b 107 107 cs (0, 0) _ I Tryd.underlying107 rfl (by rw [hs]; exact rs_info)
  simp [asAddr, h, Result.andThen]

set_option maxHeartbeats 8000000 in
set_option maxRecDepth 100000 in
theorem state_any (rb lb : Nat) (v : Value) (os : List Ow) (x0 x1 x2 x3 x4 y0 y1 y2 y3 y4 : Int) (w : World) (hr : RecAt w rb lb v os (x0, x1, x2, x3, x4) (y0, y1, y2, y3, y4)) (vx vy : Int) :
    Calls Tryd.prog 68 #[.pointer (some ⟨rb, 0, none⟩), .agg #[.int .i64 vx, .int .u64 vy]] w fun e w' => ∃ q, e = .returned (.agg #[.int .i64 vx, .int .u64 vy, .int .i64 x0, .int .i64 x1, .int .u64 x2, .int .i64 x3, .int .u64 x4, .int .i64 y0, .int .i64 y1, .int .u64 y2, .int .i64 y3, .int .u64 y4, .bool (decide (0 < os.length)), .int .i64 (hd os).1, .int .i64 (hd os).2, q]) ∧ Rw w' 52 2 q os.tail.length (ows os.tail) ∧ (∀ k, q.ownBlock = some k → w.heap.size ≤ k) ∧ Below w.heap.size w w' := by
  have mixed : Tryd.prog.follows .mixedOrders = true := by kernel_rfl
  have B0 := ((Below.refl w.heap.size w).alloc (Nat.le_refl _) (.cells #[.int .i64 vx, .int .u64 vy] 27)).alloc (by simp) (.cells #[.int .i64 0, .int .u64 0, .int .i64 0, .int .i64 0, .int .u64 0, .int .i64 0, .int .u64 0, .int .i64 0, .int .i64 0, .int .u64 0, .int .i64 0, .int .u64 0, .bool false, .int .i64 0, .int .i64 0, .slice none 0 0] 107)
  have V0 := (IsB.new w #[.int .i64 vx, .int .u64 vy] 27).below ((Below.refl _ _).alloc (Nat.le_refl _) (.cells #[.int .i64 0, .int .u64 0, .int .i64 0, .int .i64 0, .int .u64 0, .int .i64 0, .int .u64 0, .int .i64 0, .int .i64 0, .int .u64 0, .int .i64 0, .int .u64 0, .bool false, .int .i64 0, .int .i64 0, .slice none 0 0] 107))
  have F0 := IsB.new (w.alloc (.cells #[.int .i64 vx, .int .u64 vy] 27)) #[.int .i64 0, .int .u64 0, .int .i64 0, .int .i64 0, .int .u64 0, .int .i64 0, .int .u64 0, .int .i64 0, .int .i64 0, .int .u64 0, .int .i64 0, .int .u64 0, .bool false, .int .i64 0, .int .i64 0, .slice none 0 0] 107
  rw [World.size_alloc] at F0
  have R1 := hide (hr.blk.below B0)
  have L1 := hide (hr.ls.below B0)
  have V1 := hide V0
  have F1 := hide F0
  have hrl : rb < w.heap.size := hr.blk.lt
  have B1 := hide B0
  clear B0 V0 F0 hr
  have q0 := R1.out.cell 0
  simp at q0
  go_enter Tryd.func68, Tryd.ntmps68
  go_wp2_with fail
  generalize (w.alloc (.cells #[.int .i64 vx, .int .u64 vy] 27)).alloc (.cells #[.int .i64 0, .int .u64 0, .int .i64 0, .int .i64 0, .int .u64 0, .int .i64 0, .int .u64 0, .int .i64 0, .int .i64 0, .int .u64 0, .int .i64 0, .int .u64 0, .bool false, .int .i64 0, .int .i64 0, .slice none 0 0] 107) = W1 at R1 L1 V1 F1 B1 q0 ⊢
  refine (holder_any lb v os _ L1.out).mono ?_; rintro e w2 ⟨rfl, hb2⟩
  clear q0
  obtain ⟨h1, hh1⟩ : ∃ x, (hd os).1 = x := ⟨_, rfl⟩
  obtain ⟨h2, hh2⟩ : ∃ x, (hd os).2 = x := ⟨_, rfl⟩
  obtain ⟨B, hB⟩ : ∃ x, decide (0 < os.length) = x := ⟨_, rfl⟩
  rw [hh1, hh2, hB]
  replace hh1 := hide hh1
  replace hh2 := hide hh2
  replace hB := hide hB
  have hb3 := hb2.trans (((Below.refl w2.heap.size w2).alloc (Nat.le_refl _) (.cells #[.int .i64 h1, .int .i64 h2] 52)).drew.mono hb2.size)
  have R3 := hide (R1.out.below hb3)
  have LS3 := hide (L1.out.below hb3)
  have V3 := hide (V1.out.below hb3)
  have F3 := hide (F1.out.below hb3)
  have O3 := hide ((IsB.new w2 #[.int .i64 h1, .int .i64 h2] 52).below (Below.refl _ _).drew)
  have B3 := hide (B1.out.trans (hb3.mono B1.out.size))
  have hOl : w.heap.size + 1 < W1.heap.size := F1.out.lt
  have hO2 : W1.heap.size ≤ w2.heap.size := hb2.size
  clear hb2 hb3 R1 L1 V1 F1 B1
  go_wp2
  generalize w2.alloc (.cells #[.int .i64 h1, .int .i64 h2] 52) = W3 at R3 LS3 V3 F3 O3 B3 ⊢
  generalize hO : w2.heap.size = O at O3 hO2 ⊢
  replace hO := hide hO
  generalize hH : w.heap.size = H at V3 F3 hOl hrl ⊢
  replace hH := hide hH
  have hF3 : H + 1 < W3.drew.heap.size := F3.out.lt
  refine regionL 18 (fun w' => IsB w' rb #[.pointer (some ⟨lb, 0, none⟩), .int .i64 x0, .int .i64 x1, .int .u64 x2, .int .i64 x3, .int .u64 x4, .int .i64 y0, .int .i64 y1, .int .u64 y2, .int .i64 y3, .int .u64 y4] 128 ∧ IsB w' H #[.int .i64 vx, .int .u64 vy] 27 ∧ IsB w' O #[.int .i64 h1, .int .i64 h2] 52 ∧ ∃ fs : List Value, fs.length = 16 ∧ IsB w' (H + 1) fs.toArray 107) mixed ⟨R3.out, V3.out, O3.out, _, rfl, F3.out⟩ (fun hHeld => ?_)
  refine pickL (v := ?_) 0 (some 15) rfl rfl (by kernel_rfl) (by kernel_rfl) (by kernel_rfl) (by decide) (by kernel_rfl) (by kernel_rfl) (fun _ _ _ h => h) (by rfl) ?_ (by assumption) ?_
  rotate_left
  · intro w' hSw
    obtain ⟨k0, k1, k2, -⟩ := hSw; have q0 : w'.cell? ⟨rb, 0, none⟩ = some (.pointer (some ⟨lb, 0, none⟩)) := k0.cell 0; have q1 : w'.cell? ⟨rb, 1, none⟩ = some (.int .i64 x0) := k0.cell 1; have q2 : w'.cell? ⟨rb, 2, none⟩ = some (.int .i64 x1) := k0.cell 2; have q3 : w'.cell? ⟨rb, 3, none⟩ = some (.int .u64 x2) := k0.cell 3; have q4 : w'.cell? ⟨rb, 4, none⟩ = some (.int .i64 x3) := k0.cell 4; have q5 : w'.cell? ⟨rb, 5, none⟩ = some (.int .u64 x4) := k0.cell 5; have q6 : w'.cell? ⟨rb, 6, none⟩ = some (.int .i64 y0) := k0.cell 6; have q7 : w'.cell? ⟨rb, 7, none⟩ = some (.int .i64 y1) := k0.cell 7; have q8 : w'.cell? ⟨rb, 8, none⟩ = some (.int .u64 y2) := k0.cell 8; have q9 : w'.cell? ⟨rb, 9, none⟩ = some (.int .i64 y3) := k0.cell 9; have q10 : w'.cell? ⟨rb, 10, none⟩ = some (.int .u64 y4) := k0.cell 10; have v0 : w'.cell? ⟨H, 0, none⟩ = some (.int .i64 vx) := k1.cell 0; have v1 : w'.cell? ⟨H, 1, none⟩ = some (.int .u64 vy) := k1.cell 1; have o0 : w'.cell? ⟨O, 0, none⟩ = some (.int .i64 h1) := k2.cell 0; have o1 : w'.cell? ⟨O, 1, none⟩ = some (.int .i64 h2) := k2.cell 1; clear k0 k1 k2
    go_simp
    try with_reducible rfl
  try simp only [Act.put, List.setIfInBounds_toArray, List.set_cons_zero, List.set_cons_succ]
  refine pickA (v := ?_) 1 (some 16) rfl rfl (by kernel_rfl) (by kernel_rfl) (by kernel_rfl) (by decide) (fun _ _ _ h => h) (by rfl) ?_ (by assumption) ?_
  rotate_left
  · intro w'
    go_simp
    try with_reducible rfl
  try simp only [Act.put, List.setIfInBounds_toArray, List.set_cons_zero, List.set_cons_succ]
  refine pickA (v := ?_) 2 (some 17) rfl rfl (by kernel_rfl) (by kernel_rfl) (by kernel_rfl) (by decide) (fun _ _ _ h => h) (by rfl) ?_ (by assumption) ?_
  rotate_left
  · intro w'
    go_simp
    try with_reducible rfl
  try simp only [Act.put, List.setIfInBounds_toArray, List.set_cons_zero, List.set_cons_succ]
  refine pickA (v := ?_) 3 (some 18) rfl rfl (by kernel_rfl) (by kernel_rfl) (by kernel_rfl) (by decide) (fun _ _ _ h => h) (by rfl) ?_ (by assumption) ?_
  rotate_left
  · intro w'
    go_simp
    try with_reducible rfl
  try simp only [Act.put, List.setIfInBounds_toArray, List.set_cons_zero, List.set_cons_succ]
  refine pickL (v := ?_) 4 (some 19) rfl rfl (by kernel_rfl) (by kernel_rfl) (by kernel_rfl) (by decide) (by kernel_rfl) (by kernel_rfl) (fun _ _ _ h => h) (by rfl) ?_ (by assumption) ?_
  rotate_left
  · intro w' hSw
    obtain ⟨k0, k1, k2, -⟩ := hSw; have q0 : w'.cell? ⟨rb, 0, none⟩ = some (.pointer (some ⟨lb, 0, none⟩)) := k0.cell 0; have q1 : w'.cell? ⟨rb, 1, none⟩ = some (.int .i64 x0) := k0.cell 1; have q2 : w'.cell? ⟨rb, 2, none⟩ = some (.int .i64 x1) := k0.cell 2; have q3 : w'.cell? ⟨rb, 3, none⟩ = some (.int .u64 x2) := k0.cell 3; have q4 : w'.cell? ⟨rb, 4, none⟩ = some (.int .i64 x3) := k0.cell 4; have q5 : w'.cell? ⟨rb, 5, none⟩ = some (.int .u64 x4) := k0.cell 5; have q6 : w'.cell? ⟨rb, 6, none⟩ = some (.int .i64 y0) := k0.cell 6; have q7 : w'.cell? ⟨rb, 7, none⟩ = some (.int .i64 y1) := k0.cell 7; have q8 : w'.cell? ⟨rb, 8, none⟩ = some (.int .u64 y2) := k0.cell 8; have q9 : w'.cell? ⟨rb, 9, none⟩ = some (.int .i64 y3) := k0.cell 9; have q10 : w'.cell? ⟨rb, 10, none⟩ = some (.int .u64 y4) := k0.cell 10; have v0 : w'.cell? ⟨H, 0, none⟩ = some (.int .i64 vx) := k1.cell 0; have v1 : w'.cell? ⟨H, 1, none⟩ = some (.int .u64 vy) := k1.cell 1; have o0 : w'.cell? ⟨O, 0, none⟩ = some (.int .i64 h1) := k2.cell 0; have o1 : w'.cell? ⟨O, 1, none⟩ = some (.int .i64 h2) := k2.cell 1; clear k0 k1 k2
    go_simp
    try with_reducible rfl
  try simp only [Act.put, List.setIfInBounds_toArray, List.set_cons_zero, List.set_cons_succ]
  refine pickA (v := ?_) 5 (some 20) rfl rfl (by kernel_rfl) (by kernel_rfl) (by kernel_rfl) (by decide) (fun _ _ _ h => h) (by rfl) ?_ (by assumption) ?_
  rotate_left
  · intro w'
    go_simp
    try with_reducible rfl
  try simp only [Act.put, List.setIfInBounds_toArray, List.set_cons_zero, List.set_cons_succ]
  refine pickA (v := ?_) 6 (some 21) rfl rfl (by kernel_rfl) (by kernel_rfl) (by kernel_rfl) (by decide) (fun _ _ _ h => h) (by rfl) ?_ (by assumption) ?_
  rotate_left
  · intro w'
    go_simp
    try with_reducible rfl
  try simp only [Act.put, List.setIfInBounds_toArray, List.set_cons_zero, List.set_cons_succ]
  refine pickA (v := ?_) 7 (some 22) rfl rfl (by kernel_rfl) (by kernel_rfl) (by kernel_rfl) (by decide) (fun _ _ _ h => h) (by rfl) ?_ (by assumption) ?_
  rotate_left
  · intro w'
    go_simp
    try with_reducible rfl
  try simp only [Act.put, List.setIfInBounds_toArray, List.set_cons_zero, List.set_cons_succ]
  refine pickL (v := ?_) 8 (some 23) rfl rfl (by kernel_rfl) (by kernel_rfl) (by kernel_rfl) (by decide) (by kernel_rfl) (by kernel_rfl) (fun _ _ _ h => h) (by rfl) ?_ (by assumption) ?_
  rotate_left
  · intro w' hSw
    obtain ⟨k0, k1, k2, -⟩ := hSw; have q0 : w'.cell? ⟨rb, 0, none⟩ = some (.pointer (some ⟨lb, 0, none⟩)) := k0.cell 0; have q1 : w'.cell? ⟨rb, 1, none⟩ = some (.int .i64 x0) := k0.cell 1; have q2 : w'.cell? ⟨rb, 2, none⟩ = some (.int .i64 x1) := k0.cell 2; have q3 : w'.cell? ⟨rb, 3, none⟩ = some (.int .u64 x2) := k0.cell 3; have q4 : w'.cell? ⟨rb, 4, none⟩ = some (.int .i64 x3) := k0.cell 4; have q5 : w'.cell? ⟨rb, 5, none⟩ = some (.int .u64 x4) := k0.cell 5; have q6 : w'.cell? ⟨rb, 6, none⟩ = some (.int .i64 y0) := k0.cell 6; have q7 : w'.cell? ⟨rb, 7, none⟩ = some (.int .i64 y1) := k0.cell 7; have q8 : w'.cell? ⟨rb, 8, none⟩ = some (.int .u64 y2) := k0.cell 8; have q9 : w'.cell? ⟨rb, 9, none⟩ = some (.int .i64 y3) := k0.cell 9; have q10 : w'.cell? ⟨rb, 10, none⟩ = some (.int .u64 y4) := k0.cell 10; have v0 : w'.cell? ⟨H, 0, none⟩ = some (.int .i64 vx) := k1.cell 0; have v1 : w'.cell? ⟨H, 1, none⟩ = some (.int .u64 vy) := k1.cell 1; have o0 : w'.cell? ⟨O, 0, none⟩ = some (.int .i64 h1) := k2.cell 0; have o1 : w'.cell? ⟨O, 1, none⟩ = some (.int .i64 h2) := k2.cell 1; clear k0 k1 k2
    go_simp
    try with_reducible rfl
  try simp only [Act.put, List.setIfInBounds_toArray, List.set_cons_zero, List.set_cons_succ]
  refine pickA (v := ?_) 9 (some 24) rfl rfl (by kernel_rfl) (by kernel_rfl) (by kernel_rfl) (by decide) (fun _ _ _ h => h) (by rfl) ?_ (by assumption) ?_
  rotate_left
  · intro w'
    go_simp
    try with_reducible rfl
  try simp only [Act.put, List.setIfInBounds_toArray, List.set_cons_zero, List.set_cons_succ]
  refine pickL (v := ?_) 10 (some 25) rfl rfl (by kernel_rfl) (by kernel_rfl) (by kernel_rfl) (by decide) (by kernel_rfl) (by kernel_rfl) (fun _ _ _ h => h) (by rfl) ?_ (by assumption) ?_
  rotate_left
  · intro w' hSw
    obtain ⟨k0, k1, k2, -⟩ := hSw; have q0 : w'.cell? ⟨rb, 0, none⟩ = some (.pointer (some ⟨lb, 0, none⟩)) := k0.cell 0; have q1 : w'.cell? ⟨rb, 1, none⟩ = some (.int .i64 x0) := k0.cell 1; have q2 : w'.cell? ⟨rb, 2, none⟩ = some (.int .i64 x1) := k0.cell 2; have q3 : w'.cell? ⟨rb, 3, none⟩ = some (.int .u64 x2) := k0.cell 3; have q4 : w'.cell? ⟨rb, 4, none⟩ = some (.int .i64 x3) := k0.cell 4; have q5 : w'.cell? ⟨rb, 5, none⟩ = some (.int .u64 x4) := k0.cell 5; have q6 : w'.cell? ⟨rb, 6, none⟩ = some (.int .i64 y0) := k0.cell 6; have q7 : w'.cell? ⟨rb, 7, none⟩ = some (.int .i64 y1) := k0.cell 7; have q8 : w'.cell? ⟨rb, 8, none⟩ = some (.int .u64 y2) := k0.cell 8; have q9 : w'.cell? ⟨rb, 9, none⟩ = some (.int .i64 y3) := k0.cell 9; have q10 : w'.cell? ⟨rb, 10, none⟩ = some (.int .u64 y4) := k0.cell 10; have v0 : w'.cell? ⟨H, 0, none⟩ = some (.int .i64 vx) := k1.cell 0; have v1 : w'.cell? ⟨H, 1, none⟩ = some (.int .u64 vy) := k1.cell 1; have o0 : w'.cell? ⟨O, 0, none⟩ = some (.int .i64 h1) := k2.cell 0; have o1 : w'.cell? ⟨O, 1, none⟩ = some (.int .i64 h2) := k2.cell 1; clear k0 k1 k2
    go_simp
    try with_reducible rfl
  try simp only [Act.put, List.setIfInBounds_toArray, List.set_cons_zero, List.set_cons_succ]
  refine pickA (v := ?_) 11 (some 26) rfl rfl (by kernel_rfl) (by kernel_rfl) (by kernel_rfl) (by decide) (fun _ _ _ h => h) (by rfl) ?_ (by assumption) ?_
  rotate_left
  · intro w'
    go_simp
    try with_reducible rfl
  try simp only [Act.put, List.setIfInBounds_toArray, List.set_cons_zero, List.set_cons_succ]
  refine pickA (v := ?_) 12 (some 27) rfl rfl (by kernel_rfl) (by kernel_rfl) (by kernel_rfl) (by decide) (fun _ _ _ h => h) (by rfl) ?_ (by assumption) ?_
  rotate_left
  · intro w'
    go_simp
    try with_reducible rfl
  try simp only [Act.put, List.setIfInBounds_toArray, List.set_cons_zero, List.set_cons_succ]
  refine pickA (v := ?_) 13 (some 28) rfl rfl (by kernel_rfl) (by kernel_rfl) (by kernel_rfl) (by decide) (fun _ _ _ h => h) (by rfl) ?_ (by assumption) ?_
  rotate_left
  · intro w'
    go_simp
    try with_reducible rfl
  try simp only [Act.put, List.setIfInBounds_toArray, List.set_cons_zero, List.set_cons_succ]
  refine pickL (v := ?_) 14 (some 29) rfl rfl (by kernel_rfl) (by kernel_rfl) (by kernel_rfl) (by decide) (by kernel_rfl) (by kernel_rfl) (fun _ _ _ h => h) (by rfl) ?_ (by assumption) ?_
  rotate_left
  · intro w' hSw
    obtain ⟨k0, k1, k2, -⟩ := hSw; have q0 : w'.cell? ⟨rb, 0, none⟩ = some (.pointer (some ⟨lb, 0, none⟩)) := k0.cell 0; have q1 : w'.cell? ⟨rb, 1, none⟩ = some (.int .i64 x0) := k0.cell 1; have q2 : w'.cell? ⟨rb, 2, none⟩ = some (.int .i64 x1) := k0.cell 2; have q3 : w'.cell? ⟨rb, 3, none⟩ = some (.int .u64 x2) := k0.cell 3; have q4 : w'.cell? ⟨rb, 4, none⟩ = some (.int .i64 x3) := k0.cell 4; have q5 : w'.cell? ⟨rb, 5, none⟩ = some (.int .u64 x4) := k0.cell 5; have q6 : w'.cell? ⟨rb, 6, none⟩ = some (.int .i64 y0) := k0.cell 6; have q7 : w'.cell? ⟨rb, 7, none⟩ = some (.int .i64 y1) := k0.cell 7; have q8 : w'.cell? ⟨rb, 8, none⟩ = some (.int .u64 y2) := k0.cell 8; have q9 : w'.cell? ⟨rb, 9, none⟩ = some (.int .i64 y3) := k0.cell 9; have q10 : w'.cell? ⟨rb, 10, none⟩ = some (.int .u64 y4) := k0.cell 10; have v0 : w'.cell? ⟨H, 0, none⟩ = some (.int .i64 vx) := k1.cell 0; have v1 : w'.cell? ⟨H, 1, none⟩ = some (.int .u64 vy) := k1.cell 1; have o0 : w'.cell? ⟨O, 0, none⟩ = some (.int .i64 h1) := k2.cell 0; have o1 : w'.cell? ⟨O, 1, none⟩ = some (.int .i64 h2) := k2.cell 1; clear k0 k1 k2
    go_simp
    try with_reducible rfl
  try simp only [Act.put, List.setIfInBounds_toArray, List.set_cons_zero, List.set_cons_succ]
  refine oneL (i := 15) (by kernel_rfl) rfl (fun K hK => ?_)
  go_simp
  refine (waits_any lb v os _ LS3.out).mono ?_; rintro e w4 ⟨x, rfl, hx, hxn, hb4⟩
  obtain ⟨qa, qc, rfl, -, -⟩ := hx.shape
  have hx := hide hx
  have hxn := hide hxn
  have R4 := hide (R3.out.below hb4)
  have V4 := hide (V3.out.below hb4)
  have O4 := hide (O3.out.below hb4)
  have F4 := hide (F3.out.below hb4)
  have L4 := hide (LS3.out.below hb4)
  have B4 := hide (B3.out.trans (hb4.mono B3.out.size))
  generalize hqn : os.tail.length = qn at *
  replace hqn := hide hqn
  have hS4 : (fun w' => IsB w' rb #[.pointer (some ⟨lb, 0, none⟩), .int .i64 x0, .int .i64 x1, .int .u64 x2, .int .i64 x3, .int .u64 x4, .int .i64 y0, .int .i64 y1, .int .u64 y2, .int .i64 y3, .int .u64 y4] 128 ∧ IsB w' H #[.int .i64 vx, .int .u64 vy] 27 ∧ IsB w' O #[.int .i64 h1, .int .i64 h2] 52 ∧ ∃ fs : List Value, fs.length = 16 ∧ IsB w' (H + 1) fs.toArray 107) w4 := ⟨R4.out, V4.out, O4.out, _, rfl, F4.out⟩
  clear hb4
  refine hK.out _ _ ?_ ?_
  · exact hS4
  clear hK K
  try simp only [Act.put, List.setIfInBounds_toArray, List.set_cons_zero, List.set_cons_succ]
  clear hHeld
  have hHeld := hS4
  refine pickA (v := ?_) 16 (some 31) rfl rfl (by kernel_rfl) (by kernel_rfl) (by kernel_rfl) (by decide) (fun _ _ _ h => h) (by rfl) ?_ (by assumption) ?_
  rotate_left
  · intro w'
    go_simp
    try with_reducible rfl
  try simp only [Act.put, List.setIfInBounds_toArray, List.set_cons_zero, List.set_cons_succ]
  refine oneL (i := 17) (by kernel_rfl) rfl (fun K hK => ?_)
  have z0 : w4.frozen? ⟨H + 1, 0, none⟩ = false := F4.out.free 0
  have z1 : w4.frozen? ⟨H + 1, 1, none⟩ = false := F4.out.free 1
  have z2 : w4.frozen? ⟨H + 1, 2, none⟩ = false := F4.out.free 2
  have z3 : w4.frozen? ⟨H + 1, 3, none⟩ = false := F4.out.free 3
  have z4 : w4.frozen? ⟨H + 1, 4, none⟩ = false := F4.out.free 4
  have z5 : w4.frozen? ⟨H + 1, 5, none⟩ = false := F4.out.free 5
  have z6 : w4.frozen? ⟨H + 1, 6, none⟩ = false := F4.out.free 6
  have z7 : w4.frozen? ⟨H + 1, 7, none⟩ = false := F4.out.free 7
  have z8 : w4.frozen? ⟨H + 1, 8, none⟩ = false := F4.out.free 8
  have z9 : w4.frozen? ⟨H + 1, 9, none⟩ = false := F4.out.free 9
  have z10 : w4.frozen? ⟨H + 1, 10, none⟩ = false := F4.out.free 10
  have z11 : w4.frozen? ⟨H + 1, 11, none⟩ = false := F4.out.free 11
  have z12 : w4.frozen? ⟨H + 1, 12, none⟩ = false := F4.out.free 12
  have z13 : w4.frozen? ⟨H + 1, 13, none⟩ = false := F4.out.free 13
  have z14 : w4.frozen? ⟨H + 1, 14, none⟩ = false := F4.out.free 14
  have z15 : w4.frozen? ⟨H + 1, 15, none⟩ = false := F4.out.free 15
  have c0 : w4.cell? ⟨H + 1, 0, none⟩ = some (.int .i64 0) := F4.out.cell 0
  have c1 : w4.cell? ⟨H + 1, 1, none⟩ = some (.int .u64 0) := F4.out.cell 1
  have c2 : w4.cell? ⟨H + 1, 2, none⟩ = some (.int .i64 0) := F4.out.cell 2
  have c3 : w4.cell? ⟨H + 1, 3, none⟩ = some (.int .i64 0) := F4.out.cell 3
  have c4 : w4.cell? ⟨H + 1, 4, none⟩ = some (.int .u64 0) := F4.out.cell 4
  have c5 : w4.cell? ⟨H + 1, 5, none⟩ = some (.int .i64 0) := F4.out.cell 5
  have c6 : w4.cell? ⟨H + 1, 6, none⟩ = some (.int .u64 0) := F4.out.cell 6
  have c7 : w4.cell? ⟨H + 1, 7, none⟩ = some (.int .i64 0) := F4.out.cell 7
  have c8 : w4.cell? ⟨H + 1, 8, none⟩ = some (.int .i64 0) := F4.out.cell 8
  have c9 : w4.cell? ⟨H + 1, 9, none⟩ = some (.int .u64 0) := F4.out.cell 9
  have c10 : w4.cell? ⟨H + 1, 10, none⟩ = some (.int .i64 0) := F4.out.cell 10
  have c11 : w4.cell? ⟨H + 1, 11, none⟩ = some (.int .u64 0) := F4.out.cell 11
  have c12 : w4.cell? ⟨H + 1, 12, none⟩ = some (.bool false) := F4.out.cell 12
  have c13 : w4.cell? ⟨H + 1, 13, none⟩ = some (.int .i64 0) := F4.out.cell 13
  have c14 : w4.cell? ⟨H + 1, 14, none⟩ = some (.int .i64 0) := F4.out.cell 14
  have c15 : w4.cell? ⟨H + 1, 15, none⟩ = some (.slice none 0 0) := F4.out.cell 15
  have fl := F4.out.lt
  go_simp
  clear z0 c0 z1 c1 z2 c2 z3 c3 z4 c4 z5 c5 z6 c6 z7 c7 z8 c8 z9 c9 z10 c10 z11 c11 z12 c12 z13 c13 z14 c14 z15 c15
  have hW : ((((((((((((((((w4.setCell ⟨H + 1, 0, none⟩ (.int .i64 vx)).setCell ⟨H + 1, 1, none⟩ (.int .u64 vy)).setCell ⟨H + 1, 2, none⟩ (.int .i64 x0)).setCell ⟨H + 1, 3, none⟩ (.int .i64 x1)).setCell ⟨H + 1, 4, none⟩ (.int .u64 x2)).setCell ⟨H + 1, 5, none⟩ (.int .i64 x3)).setCell ⟨H + 1, 6, none⟩ (.int .u64 x4)).setCell ⟨H + 1, 7, none⟩ (.int .i64 y0)).setCell ⟨H + 1, 8, none⟩ (.int .i64 y1)).setCell ⟨H + 1, 9, none⟩ (.int .u64 y2)).setCell ⟨H + 1, 10, none⟩ (.int .i64 y3)).setCell ⟨H + 1, 11, none⟩ (.int .u64 y4)).setCell ⟨H + 1, 12, none⟩ (.bool B)).setCell ⟨H + 1, 13, none⟩ (.int .i64 h1)).setCell ⟨H + 1, 14, none⟩ (.int .i64 h2)).setCell ⟨H + 1, 15, none⟩ (.slice qa qn qc)) = putCells w4 (H + 1) 0 [.int .i64 vx, .int .u64 vy, .int .i64 x0, .int .i64 x1, .int .u64 x2, .int .i64 x3, .int .u64 x4, .int .i64 y0, .int .i64 y1, .int .u64 y2, .int .i64 y3, .int .u64 y4, .bool B, .int .i64 h1, .int .i64 h2, .slice qa qn qc] := rfl
  rw [hW]
  clear hW
  have F5 := hide (putCells_is (cs := [.int .i64 0, .int .u64 0, .int .i64 0, .int .i64 0, .int .u64 0, .int .i64 0, .int .u64 0, .int .i64 0, .int .i64 0, .int .u64 0, .int .i64 0, .int .u64 0, .bool false, .int .i64 0, .int .i64 0, .slice none 0 0]) F4.out [.int .i64 vx, .int .u64 vy, .int .i64 x0, .int .i64 x1, .int .u64 x2, .int .i64 x3, .int .u64 x4, .int .i64 y0, .int .i64 y1, .int .u64 y2, .int .i64 y3, .int .u64 y4, .bool B, .int .i64 h1, .int .i64 h2, .slice qa qn qc] rfl)
  have k5 := putCells_kp (H + 1) [.int .i64 vx, .int .u64 vy, .int .i64 x0, .int .i64 x1, .int .u64 x2, .int .i64 x3, .int .u64 x4, .int .i64 y0, .int .i64 y1, .int .u64 y2, .int .i64 y3, .int .u64 y4, .bool B, .int .i64 h1, .int .i64 h2, .slice qa qn qc] w4 0
  have R5 := hide (R4.out.kp k5 (by simp; omega))
  have V5 := hide (V4.out.kp k5 (by simp))
  have O5 := hide (O4.out.kp k5 (by simp; omega))
  have S5 := hide (hx.out.kp k5 (fun k hk => by have := hxn.out k hk; simp; omega))
  have B5 := hide ((Kp.of_below (S := []) B4.out).trans k5 (fun j hj => by simp at hj; right; rw [hj, ← hH.out]; omega) |>.to_below (Nat.le_refl _) (by simp))
  generalize putCells w4 (H + 1) 0 [.int .i64 vx, .int .u64 vy, .int .i64 x0, .int .i64 x1, .int .u64 x2, .int .i64 x3, .int .u64 x4, .int .i64 y0, .int .i64 y1, .int .u64 y2, .int .i64 y3, .int .u64 y4, .bool B, .int .i64 h1, .int .i64 h2, .slice qa qn qc] = w5 at F5 R5 V5 O5 S5 B5 ⊢
  clear k5
  have hS5 : (fun w' => IsB w' rb #[.pointer (some ⟨lb, 0, none⟩), .int .i64 x0, .int .i64 x1, .int .u64 x2, .int .i64 x3, .int .u64 x4, .int .i64 y0, .int .i64 y1, .int .u64 y2, .int .i64 y3, .int .u64 y4] 128 ∧ IsB w' H #[.int .i64 vx, .int .u64 vy] 27 ∧ IsB w' O #[.int .i64 h1, .int .i64 h2] 52 ∧ ∃ fs : List Value, fs.length = 16 ∧ IsB w' (H + 1) fs.toArray 107) w5 := ⟨R5.out, V5.out, O5.out, _, rfl, F5.out⟩
  refine hK.out _ _ ?_ ?_
  · exact hS5
  clear hK K
  try simp only [Act.put, List.setIfInBounds_toArray, List.set_cons_zero, List.set_cons_succ]
  clear hHeld
  have hHeld := hS5
  refine doneL (by kernel_rfl) ?_ _
  clear hHeld
  go_wp2
  refine ret_rs (p := 4) (b := H + 1) Tryd.results68 rfl rfl F5.out ?_
  have hq := hqn.out
  rw [List.length_tail] at hq
  rw [hh1.out, hh2.out, hB.out]
  first
    | rw [hq]
    | rw [hqn.out]
  exact ⟨_, rfl, S5.out, fun k hk => by have := hxn.out k hk; have h1 := B3.out.size; simp at this h1; omega, B5.out⟩

/-- Whose a lock is: 0 its owner's, else why not. -/
def heE (os : List Ow) (a o : Int) : Int := if okO a o then (if 0 < os.length ∧ hd os = (a, o) then 0 else 71) else 70

set_option maxHeartbeats 8000000 in
set_option maxRecDepth 100000 in
theorem heldBy_any (rb lb : Nat) (v : Value) (os : List Ow) (x y : Rf) (w : World) (hr : RecAt w rb lb v os x y) (a o : Int) :
    Calls Tryd.prog 52 #[.pointer (some ⟨rb, 0, none⟩), .agg #[.int .i64 a, .int .i64 o]] w fun e w' => e = .returned (.int .i64 (heE os a o)) ∧ Below w.heap.size w w' := by
  have B0 := (Below.refl w.heap.size w).alloc (Nat.le_refl _) (.cells #[.int .i64 a, .int .i64 o] 52)
  have R1 := hide (hr.below B0)
  have J1 := hide (IsB.new w #[.int .i64 a, .int .i64 o] 52)
  have B1 := hide B0
  clear B0 hr
  rcases hok : okO a o with _ | _
  · have hE : Hid (heE os a o = 70) := by simp [Hid, heE, hok]
    have hc := hide (chE_no hok)
    rw [hE.out]
    go_enter Tryd.func52, Tryd.ntmps52
    go_wp2_with fail
    refine (check_any a o _).mono ?_; rintro e w2 ⟨rfl, hb2⟩
    rw [hc.out]
    have B2 := hide (B1.out.trans (hb2.mono B1.out.size))
    clear hb2
    go_wp2
    go_ret
    exact ⟨rfl, B2.out⟩
  · have hc := hide (chE_yes hok)
    have FRONT : ∀ (E : Int) (B : Bool) (N : Bool), decide (0 < os.length) = B → (!((hd os).1 == a && (hd os).2 == o)) = N → E = (if B = true then (if N = true then 71 else 0) else 71) → Calls Tryd.prog 52 #[.pointer (some ⟨rb, 0, none⟩), .agg #[.int .i64 a, .int .i64 o]] w fun e w' => e = .returned (.int .i64 E) ∧ Below w.heap.size w w' := by
      intro E B N hB hN hE
      replace hB := hide hB
      replace hN := hide hN
      go_enter Tryd.func52, Tryd.ntmps52
      go_wp2_with fail
      refine (check_any a o _).mono ?_; rintro e w2 ⟨rfl, hb2⟩
      rw [hc.out]
      have B2 := hide (B1.out.trans (hb2.mono B1.out.size))
      have R2 := hide (R1.out.below hb2)
      have J2 := hide (J1.out.below hb2)
      have q0 := R2.out.blk.cell 0
      simp at q0
      clear hb2 R1 J1 B1
      go_wp2_with fail
      refine (holder_any lb v os _ R2.out.ls).mono ?_; rintro e w3 ⟨rfl, hb3⟩
      clear q0
      rw [hB.out]
      have hne : ∀ w, (binOp .neq 52 (.agg #[.int .i64 (hd os).1, .int .i64 (hd os).2]) (.agg #[.int .i64 a, .int .i64 o])).run Tryd.prog w = .ok (.bool N) w := fun w => by rw [owner_ne, hN.out]
      generalize (hd os).1 = h1 at hne ⊢
      generalize (hd os).2 = h2 at hne ⊢
      have hb4 := hb3.trans (((Below.refl w3.heap.size w3).alloc (Nat.le_refl _) (.cells #[.int .i64 h1, .int .i64 h2] 52)).mono hb3.size)
      have J4 := J2.out.below hb4
      have B4 := hide (B2.out.trans (hb4.mono B2.out.size))
      have B5 := hide (B4.out.drew)
      have hJ : w.heap.size < w3.heap.size := by have := J2.out.lt; have := hb3.size; omega
      have j0 := J4.cell 0
      have j1 := J4.cell 1
      simp at j0 j1
      clear hb3 hb4 J4 R2 J2 B2
      cases B
      · go_wp2
        go_ret
        exact ⟨by rw [hE]; rfl, by first | exact B4.out | exact B5.out⟩
      · cases N
        · go_wp2
          go_ret
          exact ⟨by rw [hE]; rfl, by first | exact B4.out | exact B5.out⟩
        · go_wp2
          go_ret
          exact ⟨by rw [hE]; rfl, by first | exact B4.out | exact B5.out⟩
    refine FRONT _ _ _ rfl rfl ?_
    rcases hh : hd os with ⟨h1, h2⟩
    by_cases g1 : 0 < os.length <;> by_cases g2 : h1 = a <;> by_cases g3 : h2 = o <;> simp [heE, hok, hh, g1, g2, g3]

end Go.Proofs.YtdogdinkopocaaaDoor
