/- Package peer: lock, where it waits. -/
import Derived.Test.YtdogdinkopocaaaDoorPG
namespace Go.Proofs.YtdogdinkopocaaaDoor
open Go.RowKit Go.Maps

/-- A block of another type turns. -/
theorem PAt.outer {w w' : World} {base p lp lm km : Nat} {va : Option Addr} {vc : Nat} {ma : Option Addr} {mc : Nat} {s : PS} (h : PAt w base p lp lm km va vc ma mc s) {F : Nat} {cs : Array Value} {t : TypeId} (hk : Kp [F] w w') (hF : IsB w F cs t) (h1 : t ≠ 128) (h2 : t ≠ 154) (h3 : t ≠ 98) (h4 : t ≠ 52) (h5 : t ≠ 78) (h6 : t ≠ 5) (hrow : ∀ k, (Value.slice ma s.M.length mc).ownBlock = some k → k ≠ F) : PAt w' base p lp lm km va vc ma mc s := by
  refine ⟨h.blk.kp hk ?_, h.by_.kp hk ?_, h.lk.own hF h1 h2 h3 hk (h.lk.rows hF h4), h.kmap.kp hk ?_, h.row.kp hk ?_, h.ne, h.lo⟩
  · simp only [List.mem_cons, List.not_mem_nil, or_false]
    exact h.blk.ne_t hF (Ne.symm h5)
  · intro k hm cur h0
    simp only [List.mem_cons, List.not_mem_nil, or_false] at hm
    subst hm
    exact h6 (cells_inj h0 hF)
  · simp only [List.mem_cons, List.not_mem_nil, or_false]
    exact fun e => h.kmap.off hF e.symm
  · intro k hv hm
    simp only [List.mem_cons, List.not_mem_nil, or_false] at hm
    exact hrow k hv hm

set_option maxHeartbeats 8000000 in
set_option maxRecDepth 100000 in
theorem plock_wait (base p lp lm km : Nat) (va : Option Addr) (vc : Nat) (ma : Option Addr) (mc : Nat) (s : PS) (w : World) (h : PAt w base p lp lm km va vc ma mc s) (hB : base ≤ w.heap.size) (t : Int) (k x y r0 r1 r2 r3 r4 s0 s1 s2 s3 s4 a o : Int) (hC : okC (x, y, a, o)) (Lok : Tb → Prop) (hLk : ∀ W : World, LK W base lp lm s.me s.L → base ≤ W.heap.size → Calls Tryd.prog 47 #[.pointer (some ⟨lp, 0, none⟩), .agg #[.int .i64 x, .int .u64 y], .agg #[.int .i64 a, .int .i64 o]] W fun e w' => e = .returned (.tuple #[.bool false, .int .i64 0]) ∧ ∃ L', Lok L' ∧ KX W w' base lp lm s.me s.L L') (hno : ∀ e ∈ s.K, e.1 ≠ (x, y, a, o)) (hn0 : 0 ≤ s.n) (hn1 : s.n < 4611686018427387904) : Calls Tryd.prog 32 #[.pointer (some ⟨p, 0, none⟩), .int .i64 t, .agg #[.int .i64 k, .int .i64 x, .int .u64 y, .int .i64 r0, .int .i64 r1, .int .u64 r2, .int .i64 r3, .int .u64 r4, .int .i64 s0, .int .i64 s1, .int .u64 s2, .int .i64 s3, .int .u64 s4, .int .i64 a, .int .i64 o]] w fun e w' => e = .returned (.slice none 0 0) ∧ ∃ L', Lok L' ∧ PAt w' base p lp lm km va vc ma mc { s with L := L', K := s.K ++ [((x, y, a, o), (s.n + 1, t))], n := s.n + 1 } ∧ Kpt km lm w w' ∧ Below base w w' := by
  replace hC := hide hC
  replace hno := hide hno
  have mixed : Tryd.prog.follows .mixedOrders = true := by kernel_rfl
  have hLk := hide hLk
  have b1 : Below w.heap.size w (w.alloc (.cells #[.int .i64 k, .int .i64 x, .int .u64 y, .int .i64 r0, .int .i64 r1, .int .u64 r2, .int .i64 r3, .int .u64 r4, .int .i64 s0, .int .i64 s1, .int .u64 s2, .int .i64 s3, .int .u64 s4, .int .i64 a, .int .i64 o] 58)) := (Below.refl _ w).alloc (Nat.le_refl _) _
  have X := hide (h.below b1)
  have A := hide (IsB.new w #[.int .i64 k, .int .i64 x, .int .u64 y, .int .i64 r0, .int .i64 r1, .int .u64 r2, .int .i64 r3, .int .u64 r4, .int .i64 s0, .int .i64 s1, .int .u64 s2, .int .i64 s3, .int .u64 s4, .int .i64 a, .int .i64 o] 58)
  have B := hide (b1.mono hB)
  have Kt : Hid (Kpt km lm w (w.alloc (.cells #[.int .i64 k, .int .i64 x, .int .u64 y, .int .i64 r0, .int .i64 r1, .int .u64 r2, .int .i64 r3, .int .u64 r4, .int .i64 s0, .int .i64 s1, .int .u64 s2, .int .i64 s3, .int .u64 s4, .int .i64 a, .int .i64 o] 58))) := Kpt.of_below b1
  have hBs : base ≤ (w.alloc (.cells #[.int .i64 k, .int .i64 x, .int .u64 y, .int .i64 r0, .int .i64 r1, .int .u64 r2, .int .i64 r3, .int .u64 r4, .int .i64 s0, .int .i64 s1, .int .u64 s2, .int .i64 s3, .int .u64 s4, .int .i64 a, .int .i64 o] 58)).heap.size := by simp; omega
  clear h b1
  go_enter Tryd.func32, Tryd.ntmps32
  go_wp2_with fail
  generalize w.alloc (.cells #[.int .i64 k, .int .i64 x, .int .u64 y, .int .i64 r0, .int .i64 r1, .int .u64 r2, .int .i64 r3, .int .u64 r4, .int .i64 s0, .int .i64 s1, .int .u64 s2, .int .i64 s3, .int .u64 s4, .int .i64 a, .int .i64 o] 58) = W1 at X A B Kt hBs ⊢
  generalize hA0 : Value.agg #[.int .i64 k, .int .i64 x, .int .u64 y, .int .i64 r0, .int .i64 r1, .int .u64 r2, .int .i64 r3, .int .u64 r4, .int .i64 s0, .int .i64 s1, .int .u64 s2, .int .i64 s3, .int .u64 s4, .int .i64 a, .int .i64 o] = A0
  clear hA0
  generalize hH : w.heap.size = H at A ⊢
  replace hH := hide hH
  replace X := hide (X.out.below (Below.refl _ W1).drew)
  replace A := hide (A.out.below (Below.refl _ W1).drew)
  replace Kt := hide (Kt.out.trans (Kpt.of_below (Below.refl _ W1).drew))
  replace B := hide B.out.drew
  replace hBs : base ≤ W1.drew.heap.size := hBs
  refine regionL 14 (fun w' => w'.cell? ⟨p, 8, none⟩ = some (.pointer (some ⟨lp, 0, none⟩)) ∧ w'.cell? ⟨H, 1, none⟩ = some (.int .i64 x) ∧ w'.cell? ⟨H, 2, none⟩ = some (.int .u64 y) ∧ w'.cell? ⟨H, 13, none⟩ = some (.int .i64 a) ∧ w'.cell? ⟨H, 14, none⟩ = some (.int .i64 o)) mixed ⟨X.out.blk.cell 8, A.out.cell 1, A.out.cell 2, A.out.cell 13, A.out.cell 14⟩ (fun hHeld => ?_)
  refine pickA (v := ?_) 0 (some 13) rfl rfl (by kernel_rfl) (by kernel_rfl) (by kernel_rfl) (by decide) (fun _ _ _ h => h) (by rfl) ?_ (by assumption) ?_
  rotate_left
  · intro w'
    go_simp
    try with_reducible rfl
  try simp only [Act.put, List.setIfInBounds_toArray, List.set_cons_zero, List.set_cons_succ]
  refine pickA (v := ?_) 1 (some 14) rfl rfl (by kernel_rfl) (by kernel_rfl) (by kernel_rfl) (by decide) (fun _ _ _ h => h) (by rfl) ?_ (by assumption) ?_
  rotate_left
  · intro w'
    go_simp
    try with_reducible rfl
  try simp only [Act.put, List.setIfInBounds_toArray, List.set_cons_zero, List.set_cons_succ]
  refine pickA (v := ?_) 2 (some 15) rfl rfl (by kernel_rfl) (by kernel_rfl) (by kernel_rfl) (by decide) (fun _ _ _ h => h) (by rfl) ?_ (by assumption) ?_
  rotate_left
  · intro w'
    go_simp
    try with_reducible rfl
  try simp only [Act.put, List.setIfInBounds_toArray, List.set_cons_zero, List.set_cons_succ]
  refine pickL (v := ?_) 3 (some 16) rfl rfl (by kernel_rfl) (by kernel_rfl) (by kernel_rfl) (by decide) (by kernel_rfl) (by kernel_rfl) (fun _ _ _ h => h) (by rfl) ?_ (by assumption) ?_
  rotate_left
  · intro w' hSw
    obtain ⟨q0, q1, q2, q3, q4⟩ := hSw
    go_simp
    try with_reducible rfl
  try simp only [Act.put, List.setIfInBounds_toArray, List.set_cons_zero, List.set_cons_succ]
  refine pickA (v := ?_) 4 (some 17) rfl rfl (by kernel_rfl) (by kernel_rfl) (by kernel_rfl) (by decide) (fun _ _ _ h => h) (by rfl) ?_ (by assumption) ?_
  rotate_left
  · intro w'
    go_simp
    try with_reducible rfl
  try simp only [Act.put, List.setIfInBounds_toArray, List.set_cons_zero, List.set_cons_succ]
  refine pickL (v := ?_) 5 (some 18) rfl rfl (by kernel_rfl) (by kernel_rfl) (by kernel_rfl) (by decide) (by kernel_rfl) (by kernel_rfl) (fun _ _ _ h => h) (by rfl) ?_ (by assumption) ?_
  rotate_left
  · intro w' hSw
    obtain ⟨q0, q1, q2, q3, q4⟩ := hSw
    go_simp
    try with_reducible rfl
  try simp only [Act.put, List.setIfInBounds_toArray, List.set_cons_zero, List.set_cons_succ]
  refine pickA (v := ?_) 6 (some 19) rfl rfl (by kernel_rfl) (by kernel_rfl) (by kernel_rfl) (by decide) (fun _ _ _ h => h) (by rfl) ?_ (by assumption) ?_
  rotate_left
  · intro w'
    go_simp
    try with_reducible rfl
  try simp only [Act.put, List.setIfInBounds_toArray, List.set_cons_zero, List.set_cons_succ]
  refine pickL (v := ?_) 7 (some 20) rfl rfl (by kernel_rfl) (by kernel_rfl) (by kernel_rfl) (by decide) (by kernel_rfl) (by kernel_rfl) (fun _ _ _ h => h) (by rfl) ?_ (by assumption) ?_
  rotate_left
  · intro w' hSw
    obtain ⟨q0, q1, q2, q3, q4⟩ := hSw
    go_simp
    try with_reducible rfl
  try simp only [Act.put, List.setIfInBounds_toArray, List.set_cons_zero, List.set_cons_succ]
  refine oneL (i := 8) (by kernel_rfl) rfl (fun K hK => ?_)
  go_simp
  refine (hLk.out _ X.out.lk hBs).mono ?_; rintro e w2 ⟨rfl, L', hLok, hx⟩
  have kx := hx.kpt (km := km) X.out.lk
  have lx := hx.low X.out.lk hBs
  replace X := hide (X.out.kx hx)
  replace A := hide (kx.isB A.out (by decide) (by decide) (by decide) (by decide))
  replace Kt := hide (Kt.out.trans kx)
  replace B := hide (B.out.trans lx)
  replace hBs : base ≤ w2.heap.size := Nat.le_trans hBs lx.size
  clear hx kx lx
  refine hK.out _ _ ?_ ?_
  · exact ⟨X.out.blk.cell 8, A.out.cell 1, A.out.cell 2, A.out.cell 13, A.out.cell 14⟩
  clear hK K
  try simp only [Act.put, List.setIfInBounds_toArray, List.set_cons_zero, List.set_cons_succ]
  clear hHeld
  have hHeld : (fun w' => w'.cell? ⟨p, 8, none⟩ = some (.pointer (some ⟨lp, 0, none⟩)) ∧ w'.cell? ⟨H, 1, none⟩ = some (.int .i64 x) ∧ w'.cell? ⟨H, 2, none⟩ = some (.int .u64 y) ∧ w'.cell? ⟨H, 13, none⟩ = some (.int .i64 a) ∧ w'.cell? ⟨H, 14, none⟩ = some (.int .i64 o)) w2 := ⟨X.out.blk.cell 8, A.out.cell 1, A.out.cell 2, A.out.cell 13, A.out.cell 14⟩
  refine pickA (v := ?_) 9 (some 12) rfl rfl (by kernel_rfl) (by kernel_rfl) (by kernel_rfl) (by decide) (fun _ _ _ h => h) (by rfl) ?_ (by assumption) ?_
  rotate_left
  · intro w'
    go_simp
    try with_reducible rfl
  try simp only [Act.put, List.setIfInBounds_toArray, List.set_cons_zero, List.set_cons_succ]
  refine pickA (v := ?_) 10 (some 22) rfl rfl (by kernel_rfl) (by kernel_rfl) (by kernel_rfl) (by decide) (fun _ _ _ h => h) (by rfl) ?_ (by assumption) ?_
  rotate_left
  · intro w'
    go_simp
    try with_reducible rfl
  try simp only [Act.put, List.setIfInBounds_toArray, List.set_cons_zero, List.set_cons_succ]
  refine pickA (v := ?_) 11 (some 23) rfl rfl (by kernel_rfl) (by kernel_rfl) (by kernel_rfl) (by decide) (fun _ _ _ h => h) (by rfl) ?_ (by assumption) ?_
  rotate_left
  · intro w'
    go_simp
    try with_reducible rfl
  try simp only [Act.put, List.setIfInBounds_toArray, List.set_cons_zero, List.set_cons_succ]
  refine pickA (v := ?_) 12 (some 7) rfl rfl (by kernel_rfl) (by kernel_rfl) (by kernel_rfl) (by decide) (fun _ _ _ h => h) (by rfl) ?_ (by assumption) ?_
  rotate_left
  · intro w'
    go_simp
    try with_reducible rfl
  try simp only [Act.put, List.setIfInBounds_toArray, List.set_cons_zero, List.set_cons_succ]
  refine pickA (v := ?_) 13 (some 8) rfl rfl (by kernel_rfl) (by kernel_rfl) (by kernel_rfl) (by decide) (fun _ _ _ h => h) (by rfl) ?_ (by assumption) ?_
  rotate_left
  · intro w'
    go_simp
    try with_reducible rfl
  try simp only [Act.put, List.setIfInBounds_toArray, List.set_cons_zero, List.set_cons_succ]
  refine doneL (by kernel_rfl) ?_ _
  clear hHeld
  have a1 := A.out.cell 1
  have a2 := A.out.cell 2
  have a13 := A.out.cell 13
  have a14 := A.out.cell 14
  simp at a1 a2 a13 a14
  go_wp2_with fail
  clear a1 a2 a13 a14
  have b2 := (Below.refl _ w2).alloc (Nat.le_refl _) (.cells #[.int .i64 x, .int .u64 y, .int .i64 a, .int .i64 o] 114)
  have C := hide (IsB.new w2 #[.int .i64 x, .int .u64 y, .int .i64 a, .int .i64 o] 114)
  replace X := hide (X.out.below b2)
  replace B := hide (B.out.trans (b2.mono hBs))
  replace Kt := hide (Kt.out.trans (Kpt.of_below b2))
  replace hBs : base ≤ (w2.alloc (.cells #[.int .i64 x, .int .u64 y, .int .i64 a, .int .i64 o] 114)).heap.size := by simp; omega
  clear b2 A
  generalize w2.alloc (.cells #[.int .i64 x, .int .u64 y, .int .i64 a, .int .i64 o] 114) = W3 at X C B Kt hBs ⊢
  generalize w2.heap.size = G at C ⊢
  replace X := hide (X.out.below (Below.refl _ W3).drew)
  replace C := hide (C.out.below (Below.refl _ W3).drew)
  replace Kt := hide (Kt.out.trans (Kpt.of_below (Below.refl _ W3).drew))
  replace B := hide B.out.drew
  replace hBs : base ≤ W3.drew.heap.size := hBs
  have Kt0 : w.heap.size ≤ W3.drew.heap.size := Kt.out.size
  refine regionL 12 (fun w' => w'.cell? ⟨p, 9, none⟩ = some (.map (some km)) ∧ w'.cell? ⟨G, 0, none⟩ = some (.int .i64 x) ∧ w'.cell? ⟨G, 1, none⟩ = some (.int .u64 y) ∧ w'.cell? ⟨G, 2, none⟩ = some (.int .i64 a) ∧ w'.cell? ⟨G, 3, none⟩ = some (.int .i64 o) ∧ WMp w' km s.K) mixed ⟨X.out.blk.cell 9, C.out.cell 0, C.out.cell 1, C.out.cell 2, C.out.cell 3, X.out.kmap⟩ (fun hHeld => ?_)
  generalize hWd : W3.drew = Wd at *
  clear hWd
  refine pickA (v := ?_) 0 (some 30) rfl rfl (by kernel_rfl) (by kernel_rfl) (by kernel_rfl) (by decide) (fun _ _ _ h => h) (by rfl) ?_ (by assumption) ?_
  rotate_left
  · intro w'
    go_simp
    try with_reducible rfl
  try simp only [Act.put, List.setIfInBounds_toArray, List.set_cons_zero, List.set_cons_succ]
  refine pickA (v := ?_) 1 (some 31) rfl rfl (by kernel_rfl) (by kernel_rfl) (by kernel_rfl) (by decide) (fun _ _ _ h => h) (by rfl) ?_ (by assumption) ?_
  rotate_left
  · intro w'
    go_simp
    try with_reducible rfl
  try simp only [Act.put, List.setIfInBounds_toArray, List.set_cons_zero, List.set_cons_succ]
  refine pickA (v := ?_) 2 (some 32) rfl rfl (by kernel_rfl) (by kernel_rfl) (by kernel_rfl) (by decide) (fun _ _ _ h => h) (by rfl) ?_ (by assumption) ?_
  rotate_left
  · intro w'
    go_simp
    try with_reducible rfl
  try simp only [Act.put, List.setIfInBounds_toArray, List.set_cons_zero, List.set_cons_succ]
  refine pickL (v := ?_) 3 (some 33) rfl rfl (by kernel_rfl) (by kernel_rfl) (by kernel_rfl) (by decide) (by kernel_rfl) (by kernel_rfl) (fun _ _ _ h => h) (by rfl) ?_ (by assumption) ?_
  rotate_left
  · intro w' hSw
    obtain ⟨q0, q1, q2, q3, q4, q5⟩ := hSw; have hlk : (Instr.lookup 75 (.map (some km)) (.agg #[.int .i64 x, .int .u64 y, .int .i64 a, .int .i64 o]) true).run Tryd.prog w' = .ok (.tuple #[.agg #[.int .i64 0, .int .i64 0], .bool false]) w' := q5.look_no2 (x, y, a, o) hC.out hno.out
    go_simp
    try with_reducible rfl
  try simp only [Act.put, List.setIfInBounds_toArray, List.set_cons_zero, List.set_cons_succ]
  refine pickL (v := ?_) 4 (some 34) rfl rfl (by kernel_rfl) (by kernel_rfl) (by kernel_rfl) (by decide) (by kernel_rfl) (by kernel_rfl) (fun _ _ _ h => h) (by rfl) ?_ (by assumption) ?_
  rotate_left
  · intro w' hSw
    obtain ⟨q0, q1, q2, q3, q4, q5⟩ := hSw; have hlk : (Instr.lookup 75 (.map (some km)) (.agg #[.int .i64 x, .int .u64 y, .int .i64 a, .int .i64 o]) true).run Tryd.prog w' = .ok (.tuple #[.agg #[.int .i64 0, .int .i64 0], .bool false]) w' := q5.look_no2 (x, y, a, o) hC.out hno.out
    go_simp
    try with_reducible rfl
  try simp only [Act.put, List.setIfInBounds_toArray, List.set_cons_zero, List.set_cons_succ]
  refine pickL (v := ?_) 5 (some 35) rfl rfl (by kernel_rfl) (by kernel_rfl) (by kernel_rfl) (by decide) (by kernel_rfl) (by kernel_rfl) (fun _ _ _ h => h) (by rfl) ?_ (by assumption) ?_
  rotate_left
  · intro w' hSw
    obtain ⟨q0, q1, q2, q3, q4, q5⟩ := hSw; have hlk : (Instr.lookup 75 (.map (some km)) (.agg #[.int .i64 x, .int .u64 y, .int .i64 a, .int .i64 o]) true).run Tryd.prog w' = .ok (.tuple #[.agg #[.int .i64 0, .int .i64 0], .bool false]) w' := q5.look_no2 (x, y, a, o) hC.out hno.out
    go_simp
    try with_reducible rfl
  try simp only [Act.put, List.setIfInBounds_toArray, List.set_cons_zero, List.set_cons_succ]
  refine pickA (v := ?_) 6 (some 29) rfl rfl (by kernel_rfl) (by kernel_rfl) (by kernel_rfl) (by decide) (fun _ _ _ h => h) (by rfl) ?_ (by assumption) ?_
  rotate_left
  · intro w'
    go_simp
    try with_reducible rfl
  try simp only [Act.put, List.setIfInBounds_toArray, List.set_cons_zero, List.set_cons_succ]
  refine pickA (v := ?_) 7 (some 36) rfl rfl (by kernel_rfl) (by kernel_rfl) (by kernel_rfl) (by decide) (fun _ _ _ h => h) (by rfl) ?_ (by assumption) ?_
  rotate_left
  · intro w'
    go_simp
    try with_reducible rfl
  try simp only [Act.put, List.setIfInBounds_toArray, List.set_cons_zero, List.set_cons_succ]
  refine pickA (v := ?_) 8 (some 37) rfl rfl (by kernel_rfl) (by kernel_rfl) (by kernel_rfl) (by decide) (fun _ _ _ h => h) (by rfl) ?_ (by assumption) ?_
  rotate_left
  · intro w'
    go_simp
    try with_reducible rfl
  try simp only [Act.put, List.setIfInBounds_toArray, List.set_cons_zero, List.set_cons_succ]
  refine oneL (i := 9) (by kernel_rfl) rfl (fun K hK => ?_)
  go_simp
  have b4 := (Below.refl _ Wd).alloc (Nat.le_refl _) (.cells #[.int .i64 0, .int .i64 0] 116)
  have hrw : Hid (∀ k, (Value.slice ma s.M.length mc).ownBlock = some k → k ≠ Wd.heap.size) := fun k hk e => by have := (X.out.row.lt k hk).1; omega
  have D := hide (IsB.new Wd #[.int .i64 0, .int .i64 0] 116)
  replace X := hide (X.out.below b4)
  replace C := hide (C.out.below b4)
  replace B := hide (B.out.trans (b4.mono hBs))
  replace Kt := hide (Kt.out.trans (Kpt.of_below b4))
  replace hBs : base ≤ (Wd.alloc (.cells #[.int .i64 0, .int .i64 0] 116)).heap.size := by simp; exact Nat.le_succ_of_le hBs
  have hdr : w.heap.size ≤ Wd.heap.size := Nat.le_trans Kt0 (Nat.le_refl _)
  clear b4
  generalize Wd.alloc (.cells #[.int .i64 0, .int .i64 0] 116) = W4 at X C B Kt hBs D ⊢
  generalize Wd.heap.size = E9 at D hdr hrw ⊢
  refine hK.out _ _ ?_ ?_
  · exact ⟨X.out.blk.cell 9, C.out.cell 0, C.out.cell 1, C.out.cell 2, C.out.cell 3, X.out.kmap⟩
  clear hK K
  try simp only [Act.put, List.setIfInBounds_toArray, List.set_cons_zero, List.set_cons_succ]
  clear hHeld
  have hHeld : (fun w' => w'.cell? ⟨p, 9, none⟩ = some (.map (some km)) ∧ w'.cell? ⟨G, 0, none⟩ = some (.int .i64 x) ∧ w'.cell? ⟨G, 1, none⟩ = some (.int .u64 y) ∧ w'.cell? ⟨G, 2, none⟩ = some (.int .i64 a) ∧ w'.cell? ⟨G, 3, none⟩ = some (.int .i64 o) ∧ WMp w' km s.K) W4 := ⟨X.out.blk.cell 9, C.out.cell 0, C.out.cell 1, C.out.cell 2, C.out.cell 3, X.out.kmap⟩
  refine oneL (i := 10) (by kernel_rfl) rfl (fun K hK => ?_)
  have z0 := D.out.free 0
  have z1 := D.out.free 1
  have c0 : W4.cell? ⟨E9, 0, none⟩ = some (.int .i64 0) := D.out.cell 0
  have c1 : W4.cell? ⟨E9, 1, none⟩ = some (.int .i64 0) := D.out.cell 1
  have fl := D.out.lt
  go_simp
  clear z0 z1 c0 c1
  have k5 : Kp [E9] W4 (put2 W4 E9 (.int .i64 0) (.int .i64 0)) := put2_kp W4 E9 _ _
  have hpW : (W4.setCell ⟨E9, 0, none⟩ (.int .i64 0)).setCell ⟨E9, 1, none⟩ (.int .i64 0) = put2 W4 E9 (.int .i64 0) (.int .i64 0) := rfl
  first | rw [hpW] | skip
  clear hpW
  have X5 := hide (X.out.outer k5 D.out (by decide) (by decide) (by decide) (by decide) (by decide) (by decide) (fun k hk e => by subst e; exact hrw.out _ hk rfl))
  have C5 := hide (C.out.kp k5 (by simp only [List.mem_cons, List.not_mem_nil, or_false]; exact C.out.ne_t D.out (by decide)))
  have B5 := hide (B.out.trans (k5.to_below hBs (by simp; omega)))
  have Kt5 := hide (Kt.out.trans (Kpt.of_kp k5 (fun k hk => by simp only [List.mem_cons, List.not_mem_nil, or_false] at hk; subst hk; exact ⟨fun cur t h0 => Or.inr (Or.inr (Or.inr (cells_inj D.out h0))), fun es cl h0 => by have := D.out; unfold IsB at this; rw [h0] at this; cases this⟩)))
  have hBs5 : base ≤ (put2 W4 E9 (.int .i64 0) (.int .i64 0)).heap.size := Nat.le_trans hBs k5.size
  clear k5 X C B Kt hBs
  generalize put2 W4 E9 (.int .i64 0) (.int .i64 0) = W5 at X5 C5 B5 Kt5 hBs5 ⊢
  refine hK.out _ _ ?_ ?_
  · exact ⟨X5.out.blk.cell 9, C5.out.cell 0, C5.out.cell 1, C5.out.cell 2, C5.out.cell 3, X5.out.kmap⟩
  clear hK K
  try simp only [Act.put, List.setIfInBounds_toArray, List.set_cons_zero, List.set_cons_succ]
  clear hHeld
  have hHeld : (fun w' => w'.cell? ⟨p, 9, none⟩ = some (.map (some km)) ∧ w'.cell? ⟨G, 0, none⟩ = some (.int .i64 x) ∧ w'.cell? ⟨G, 1, none⟩ = some (.int .u64 y) ∧ w'.cell? ⟨G, 2, none⟩ = some (.int .i64 a) ∧ w'.cell? ⟨G, 3, none⟩ = some (.int .i64 o) ∧ WMp w' km s.K) W5 := ⟨X5.out.blk.cell 9, C5.out.cell 0, C5.out.cell 1, C5.out.cell 2, C5.out.cell 3, X5.out.kmap⟩
  refine pickA (v := ?_) 11 (some 11) rfl rfl (by kernel_rfl) (by kernel_rfl) (by kernel_rfl) (by decide) (fun _ _ _ h => h) (by rfl) ?_ (by assumption) ?_
  rotate_left
  · intro w'
    go_simp
    try with_reducible rfl
  try simp only [Act.put, List.setIfInBounds_toArray, List.set_cons_zero, List.set_cons_succ]
  refine doneL (by kernel_rfl) ?_ _
  clear hHeld
  go_wp2
  have X6 := hide (X5.out.below (Below.refl _ W5).drew)
  have C6 := hide (C5.out.below (Below.refl _ W5).drew)
  have Kt6 := hide (Kt5.out.trans (Kpt.of_below (Below.refl _ W5).drew))
  have B6 := hide B5.out.drew
  have hBs6 : base ≤ W5.drew.heap.size := hBs5
  clear X5 C5 Kt5 B5 hBs5
  refine regionL 9 (fun w' => w'.cell? ⟨p, 9, none⟩ = some (.map (some km)) ∧ w'.cell? ⟨G, 0, none⟩ = some (.int .i64 x) ∧ w'.cell? ⟨G, 1, none⟩ = some (.int .u64 y) ∧ w'.cell? ⟨G, 2, none⟩ = some (.int .i64 a) ∧ w'.cell? ⟨G, 3, none⟩ = some (.int .i64 o)) mixed ⟨X6.out.blk.cell 9, C6.out.cell 0, C6.out.cell 1, C6.out.cell 2, C6.out.cell 3⟩ (fun hHeld => ?_)
  refine pickA (v := ?_) 0 (some 59) rfl rfl (by kernel_rfl) (by kernel_rfl) (by kernel_rfl) (by decide) (fun _ _ _ h => h) (by rfl) ?_ (by assumption) ?_
  rotate_left
  · intro w'
    go_simp
    try with_reducible rfl
  try simp only [Act.put, List.setIfInBounds_toArray, List.set_cons_zero, List.set_cons_succ]
  refine pickA (v := ?_) 1 (some 60) rfl rfl (by kernel_rfl) (by kernel_rfl) (by kernel_rfl) (by decide) (fun _ _ _ h => h) (by rfl) ?_ (by assumption) ?_
  rotate_left
  · intro w'
    go_simp
    try with_reducible rfl
  try simp only [Act.put, List.setIfInBounds_toArray, List.set_cons_zero, List.set_cons_succ]
  refine pickA (v := ?_) 2 (some 61) rfl rfl (by kernel_rfl) (by kernel_rfl) (by kernel_rfl) (by decide) (fun _ _ _ h => h) (by rfl) ?_ (by assumption) ?_
  rotate_left
  · intro w'
    go_simp
    try with_reducible rfl
  try simp only [Act.put, List.setIfInBounds_toArray, List.set_cons_zero, List.set_cons_succ]
  refine pickL (v := ?_) 3 (some 62) rfl rfl (by kernel_rfl) (by kernel_rfl) (by kernel_rfl) (by decide) (by kernel_rfl) (by kernel_rfl) (fun _ _ _ h => h) (by rfl) ?_ (by assumption) ?_
  rotate_left
  · intro w' hSw
    obtain ⟨q0, q1, q2, q3, q4⟩ := hSw
    go_simp
    try with_reducible rfl
  try simp only [Act.put, List.setIfInBounds_toArray, List.set_cons_zero, List.set_cons_succ]
  refine pickL (v := ?_) 4 (some 63) rfl rfl (by kernel_rfl) (by kernel_rfl) (by kernel_rfl) (by decide) (by kernel_rfl) (by kernel_rfl) (fun _ _ _ h => h) (by rfl) ?_ (by assumption) ?_
  rotate_left
  · intro w' hSw
    obtain ⟨q0, q1, q2, q3, q4⟩ := hSw
    go_simp
    try with_reducible rfl
  try simp only [Act.put, List.setIfInBounds_toArray, List.set_cons_zero, List.set_cons_succ]
  refine pickA (v := ?_) 5 (some 64) rfl rfl (by kernel_rfl) (by kernel_rfl) (by kernel_rfl) (by decide) (fun _ _ _ h => h) (by rfl) ?_ (by assumption) ?_
  rotate_left
  · intro w'
    go_simp
    try with_reducible rfl
  try simp only [Act.put, List.setIfInBounds_toArray, List.set_cons_zero, List.set_cons_succ]
  refine pickA (v := ?_) 6 (some 65) rfl rfl (by kernel_rfl) (by kernel_rfl) (by kernel_rfl) (by decide) (fun _ _ _ h => h) (by rfl) ?_ (by assumption) ?_
  rotate_left
  · intro w'
    go_simp
    try with_reducible rfl
  try simp only [Act.put, List.setIfInBounds_toArray, List.set_cons_zero, List.set_cons_succ]
  refine oneL (i := 7) (by kernel_rfl) rfl (fun K hK => ?_)
  go_simp
  refine (wait_any base p lp lm km va vc ma mc _ _ X6.out hBs6 t hn0 hn1).mono ?_; rintro e w7 ⟨rfl, x7, kt7, b7⟩
  have X7 := hide x7
  have C7 := hide (kt7.isB C6.out (by decide) (by decide) (by decide) (by decide))
  have Kt7 := hide (Kt6.out.trans kt7)
  have B7 := hide (B6.out.trans b7)
  have hBs7 : base ≤ w7.heap.size := Nat.le_trans hBs6 b7.size
  clear x7 kt7 b7
  refine hK.out _ _ ?_ ?_
  · exact ⟨X7.out.blk.cell 9, C7.out.cell 0, C7.out.cell 1, C7.out.cell 2, C7.out.cell 3⟩
  clear hK K
  skip
  clear hHeld
  have hHeld : (fun w' => w'.cell? ⟨p, 9, none⟩ = some (.map (some km)) ∧ w'.cell? ⟨G, 0, none⟩ = some (.int .i64 x) ∧ w'.cell? ⟨G, 1, none⟩ = some (.int .u64 y) ∧ w'.cell? ⟨G, 2, none⟩ = some (.int .i64 a) ∧ w'.cell? ⟨G, 3, none⟩ = some (.int .i64 o)) w7 := ⟨X7.out.blk.cell 9, C7.out.cell 0, C7.out.cell 1, C7.out.cell 2, C7.out.cell 3⟩
  refine oneL (i := 8) (by kernel_rfl) rfl (fun K hK => ?_)
  obtain ⟨w9, hrun, hm9, hg9⟩ := X7.out.kmap.put_new (x, y, a, o) hC.out (s.n + 1, t) hno.out
  have hrun2 : (Instr.mapUpdate 75 (.map (some km)) (.agg #[.int .i64 x, .int .u64 y, .int .i64 a, .int .i64 o]) (.agg #[.int .i64 (s.n + 1), .int .i64 t])).run Tryd.prog w7 = .ok () w9 := hrun
  have K9 := kp_of_grown hg9
  go_simp
  have X9 := hide (X7.out.tomap K9 hm9)
  have C9 := hide (C7.out.kp K9 (by simp; exact X7.out.kmap.off C7.out))
  clear hrun hrun2 hm9 hg9 K9
  refine hK.out _ _ ?_ ?_
  · exact ⟨X9.out.1.blk.cell 9, C9.out.cell 0, C9.out.cell 1, C9.out.cell 2, C9.out.cell 3⟩
  clear hK K
  try simp only [Act.put, List.setIfInBounds_toArray, List.set_cons_zero, List.set_cons_succ]
  clear hHeld
  have hHeld : (fun w' => w'.cell? ⟨p, 9, none⟩ = some (.map (some km)) ∧ w'.cell? ⟨G, 0, none⟩ = some (.int .i64 x) ∧ w'.cell? ⟨G, 1, none⟩ = some (.int .u64 y) ∧ w'.cell? ⟨G, 2, none⟩ = some (.int .i64 a) ∧ w'.cell? ⟨G, 3, none⟩ = some (.int .i64 o)) w9 := ⟨X9.out.1.blk.cell 9, C9.out.cell 0, C9.out.cell 1, C9.out.cell 2, C9.out.cell 3⟩
  refine doneL (by kernel_rfl) ?_ _
  clear hHeld
  go_wp2
  go_ret
  exact ⟨rfl, L', hLok, X9.out.1, Kt7.out.trans X9.out.2.1, B7.out.trans (X9.out.2.2 hBs7)⟩

end Go.Proofs.YtdogdinkopocaaaDoor
