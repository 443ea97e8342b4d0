/- What it wants: asks, asksOwned, Next. -/
import Derived.Test.YtofmommoeligoaaDoorTE
namespace Go.Proofs.YtofmommoeligoaaDoor
open Go.RowKit Go.Maps Go.ChangeMaps

/-- An ask's cells. -/
def akL (q x y : Int) (r1 r2 : Rf) (oa oo : Int) : List Value := [.int .i64 q, .int .i64 x, .int .u64 y, .int .i64 r1.id, .int .i64 r1.rk, .int .u64 r1.kn, .int .i64 r1.ln, .int .u64 r1.bt, .int .i64 r2.id, .int .i64 r2.rk, .int .u64 r2.kn, .int .i64 r2.ln, .int .u64 r2.bt, .int .i64 oa, .int .i64 oo]
/-- A step's cells. -/
def stL (k : Int) (r : Rf) (q x y : Int) (r1 r2 : Rf) (oa oo e : Int) (l r3 : Rf) : List Value := [.int .i64 k, .int .i64 r.id, .int .i64 r.rk, .int .u64 r.kn, .int .i64 r.ln, .int .u64 r.bt, .int .i64 q, .int .i64 x, .int .u64 y, .int .i64 r1.id, .int .i64 r1.rk, .int .u64 r1.kn, .int .i64 r1.ln, .int .u64 r1.bt, .int .i64 r2.id, .int .i64 r2.rk, .int .u64 r2.kn, .int .i64 r2.ln, .int .u64 r2.bt, .int .i64 oa, .int .i64 oo, .int .i64 e, .int .u64 0, .slice none 0 0, .slice none 0 0, .int .i64 l.id, .int .i64 l.rk, .int .u64 l.kn, .int .i64 l.ln, .int .u64 l.bt, .int .i64 r3.id, .int .i64 r3.rk, .int .u64 r3.kn, .int .i64 r3.ln, .int .u64 r3.bt, .bool false]
theorem ld_ask {w : World} {b : Nat} {q x y : Int} {r1 r2 : Rf} {oa oo : Int} (I : IsB w b (akL q x y r1 r2 oa oo).toArray 47) : (Instr.loadAt 47 (.pointer (some ⟨b, 0, none⟩))).run Tryd.prog w = .ok (.agg (akL q x y r1 r2 oa oo).toArray) w := load_mid I 0 _ (akL q x y r1 r2 oa oo) _ rfl Tryd.underlying47 rfl (by kernel_rfl)
theorem st_askw {w : World} {b : Nat} {q x y : Int} {r1 r2 : Rf} {oa oo : Int} (I : IsB w b (akL q x y r1 r2 oa oo).toArray 47) (x2 y2 : Int) : ∃ w', (Instr.storeAt 24 (.pointer (some ⟨b, 1, none⟩)) (.agg #[.int .i64 (x2), .int .u64 (y2)])).run Tryd.prog w = .ok () w' ∧ IsB w' b (akL q x2 y2 r1 r2 oa oo).toArray 47 ∧ Kp [b] w w' :=
  store_mid I 1 _ [.int .i64 x2, .int .u64 y2] (by simp [akL]) (by kernel_rfl) (by simp [Value.oneCell'])
theorem st_asko {w : World} {b : Nat} {q x y : Int} {r1 r2 : Rf} {oa oo : Int} (I : IsB w b (akL q x y r1 r2 oa oo).toArray 47) (a2 o2 : Int) : ∃ w', (Instr.storeAt 31 (.pointer (some ⟨b, 13, none⟩)) (.agg #[.int .i64 a2, .int .i64 o2])).run Tryd.prog w = .ok () w' ∧ IsB w' b (akL q x y r1 r2 a2 o2).toArray 47 ∧ Kp [b] w w' :=
  store_mid I 13 _ [.int .i64 a2, .int .i64 o2] (by simp [akL]) (by kernel_rfl) (by simp [Value.oneCell'])
theorem st_step {w : World} {b : Nat} {cs : List Value} (I : IsB w b cs.toArray 53) (hl : cs.length = 36) (k : Int) (r : Rf) (q x y : Int) (r1 r2 : Rf) (oa oo e : Int) (l r3 : Rf) : ∃ w', (Instr.storeAt 53 (.pointer (some ⟨b, 0, none⟩)) (.agg (stL k r q x y r1 r2 oa oo e l r3).toArray)).run Tryd.prog w = .ok () w' ∧ IsB w' b (stL k r q x y r1 r2 oa oo e l r3).toArray 53 ∧ Kp [b] w w' := by
  obtain ⟨w', h1, h2, h3⟩ := store_mid I 0 53 (stL k r q x y r1 r2 oa oo e l r3) (by simp [stL, hl]) (by kernel_rfl) (by simp [stL, Value.oneCell'])
  refine ⟨w', h1, ?_, h3⟩
  have e1 : cs.drop (0 + (stL k r q x y r1 r2 oa oo e l r3).length) = [] := List.drop_eq_nil_of_le (by simp [stL, hl])
  rw [e1] at h2
  simpa using h2
theorem step_info : (Tryd.prog.info? 53).map (·.size) = some 36 := by kernel_rfl
theorem ret_step {fn : Func} {p : Tmp} (hf : fn.results = #[.cell p 53]) {Q : Ending → World → Prop} {tmps : Array Value} {w : World} {b : Nat} {cs : Array Value} (hs : cs.size = 36)
    (hp : tmps.getD p undef = .pointer (some ⟨b, 0, none⟩)) (I : IsB w b cs 53) (hQ : Q (.returned (.agg cs)) w) :
    bodyPost Tryd.prog fn Q .ret ⟨tmps, []⟩ w :=
  bodyPost_ret (results_cell_row hf tmps w b 53 cs (0, 0) _ hp I Tryd.underlying53 rfl (by rw [hs]; exact step_info)) rfl hQ

set_option maxHeartbeats 2000000 in
set_option maxRecDepth 100000 in
theorem asks_any (b : Nat) (S : Sp) (t : Option Th) (to : Rf) (q x y : Int) (r1 r2 : Rf) (oa oo : Int) (w : World) (X : SpAt w b S t) : Calls Tryd.prog 36 #[.pointer (some ⟨b, 0, none⟩), .agg to.cells, .agg (akL q x y r1 r2 oa oo).toArray] w fun e' w' => e' = .returned (.agg (stL 1 to q S.wl S.wb r1 r2 oa oo 0 zr zr).toArray) ∧ Below w.heap.size w w' := by
  have b1 := (Below.refl w.heap.size w).alloc (Nat.le_refl _) (.cells to.cells 29)
  have b2 := b1.alloc (by simp) (.cells (akL q x y r1 r2 oa oo).toArray 47)
  have b3 := b2.alloc (by simp; omega) (.cells #[.int .i64 0, .int .i64 0, .int .i64 0, .int .u64 0, .int .i64 0, .int .u64 0, .int .i64 0, .int .i64 0, .int .u64 0, .int .i64 0, .int .i64 0, .int .u64 0, .int .i64 0, .int .u64 0, .int .i64 0, .int .i64 0, .int .u64 0, .int .i64 0, .int .u64 0, .int .i64 0, .int .i64 0, .int .i64 0, .int .u64 0, .slice none 0 0, .slice none 0 0, .int .i64 0, .int .i64 0, .int .u64 0, .int .i64 0, .int .u64 0, .int .i64 0, .int .i64 0, .int .u64 0, .int .i64 0, .int .u64 0, .bool false] 53)
  have RT0 := ((IsB.new w to.cells 29).below ((Below.refl _ _).alloc (Nat.le_refl _) (.cells (akL q x y r1 r2 oa oo).toArray 47))).below ((Below.refl _ _).alloc (Nat.le_refl _) (.cells #[.int .i64 0, .int .i64 0, .int .i64 0, .int .u64 0, .int .i64 0, .int .u64 0, .int .i64 0, .int .i64 0, .int .u64 0, .int .i64 0, .int .i64 0, .int .u64 0, .int .i64 0, .int .u64 0, .int .i64 0, .int .i64 0, .int .u64 0, .int .i64 0, .int .u64 0, .int .i64 0, .int .i64 0, .int .i64 0, .int .u64 0, .slice none 0 0, .slice none 0 0, .int .i64 0, .int .i64 0, .int .u64 0, .int .i64 0, .int .u64 0, .int .i64 0, .int .i64 0, .int .u64 0, .int .i64 0, .int .u64 0, .bool false] 53))
  have AK0 := (IsB.new (w.alloc (.cells to.cells 29)) (akL q x y r1 r2 oa oo).toArray 47).below ((Below.refl _ _).alloc (Nat.le_refl _) (.cells #[.int .i64 0, .int .i64 0, .int .i64 0, .int .u64 0, .int .i64 0, .int .u64 0, .int .i64 0, .int .i64 0, .int .u64 0, .int .i64 0, .int .i64 0, .int .u64 0, .int .i64 0, .int .u64 0, .int .i64 0, .int .i64 0, .int .u64 0, .int .i64 0, .int .u64 0, .int .i64 0, .int .i64 0, .int .i64 0, .int .u64 0, .slice none 0 0, .slice none 0 0, .int .i64 0, .int .i64 0, .int .u64 0, .int .i64 0, .int .u64 0, .int .i64 0, .int .i64 0, .int .u64 0, .int .i64 0, .int .u64 0, .bool false] 53))
  have PB0 : IsB (((w.alloc (.cells to.cells 29)).alloc (.cells (akL q x y r1 r2 oa oo).toArray 47)).alloc (.cells #[.int .i64 0, .int .i64 0, .int .i64 0, .int .u64 0, .int .i64 0, .int .u64 0, .int .i64 0, .int .i64 0, .int .u64 0, .int .i64 0, .int .i64 0, .int .u64 0, .int .i64 0, .int .u64 0, .int .i64 0, .int .i64 0, .int .u64 0, .int .i64 0, .int .u64 0, .int .i64 0, .int .i64 0, .int .i64 0, .int .u64 0, .slice none 0 0, .slice none 0 0, .int .i64 0, .int .i64 0, .int .u64 0, .int .i64 0, .int .u64 0, .int .i64 0, .int .i64 0, .int .u64 0, .int .i64 0, .int .u64 0, .bool false] 53)) ((w.alloc (.cells to.cells 29)).alloc (.cells (akL q x y r1 r2 oa oo).toArray 47)).heap.size (stL 0 zr 0 0 0 zr zr 0 0 0 zr zr).toArray 53 := IsB.new ((w.alloc (.cells to.cells 29)).alloc (.cells (akL q x y r1 r2 oa oo).toArray 47)) #[.int .i64 0, .int .i64 0, .int .i64 0, .int .u64 0, .int .i64 0, .int .u64 0, .int .i64 0, .int .i64 0, .int .u64 0, .int .i64 0, .int .i64 0, .int .u64 0, .int .i64 0, .int .u64 0, .int .i64 0, .int .i64 0, .int .u64 0, .int .i64 0, .int .u64 0, .int .i64 0, .int .i64 0, .int .i64 0, .int .u64 0, .slice none 0 0, .slice none 0 0, .int .i64 0, .int .i64 0, .int .u64 0, .int .i64 0, .int .u64 0, .int .i64 0, .int .i64 0, .int .u64 0, .int .i64 0, .int .u64 0, .bool false] 53
  rw [World.size_alloc] at AK0
  rw [World.size_alloc, World.size_alloc] at PB0
  have X3 := X.below b3
  have hlt := X.lt
  obtain ⟨v, I, T⟩ := X3
  have LW := hide (ld_w I)
  obtain ⟨w4, hs4, A4, k4⟩ := st_askw AK0 S.wl S.wb
  have HS4 := hide hs4
  have B4 : Hid (Below w.heap.size w w4) := b3.trans (k4.to_below (by have := b3.size; omega) (by simp))
  have RT4 := RT0.kp k4 (by simp)
  have PB4 := PB0.kp k4 (by simp)
  have LR : Hid ((Instr.loadAt 29 (.pointer (some ⟨w.heap.size, 0, none⟩))).run Tryd.prog w4 = .ok (.agg #[.int .i64 to.id, .int .i64 to.rk, .int .u64 to.kn, .int .i64 to.ln, .int .u64 to.bt]) w4) := load_ref RT4 rfl
  have LA : Hid ((Instr.loadAt 47 (.pointer (some ⟨w.heap.size + 1, 0, none⟩))).run Tryd.prog w4 = .ok (.agg #[.int .i64 q, .int .i64 S.wl, .int .u64 S.wb, .int .i64 r1.id, .int .i64 r1.rk, .int .u64 r1.kn, .int .i64 r1.ln, .int .u64 r1.bt, .int .i64 r2.id, .int .i64 r2.rk, .int .u64 r2.kn, .int .i64 r2.ln, .int .u64 r2.bt, .int .i64 oa, .int .i64 oo]) w4) := ld_ask A4
  obtain ⟨w5, hs5, P5, k5⟩ := st_step PB4 rfl 1 to q S.wl S.wb r1 r2 oa oo 0 zr zr
  have HS5 := hide hs5
  have P6 := hide P5
  have B5 : Hid (Below w.heap.size w w5) := B4.out.trans (k5.to_below (by have := B4.out.size; omega) (by simp; omega))
  clear hs4 A4 k4 RT4 PB4 hs5 P5 k5 B4 I T X b1 b2 b3 RT0 AK0 PB0 hlt
  go_enter Tryd.func36, Tryd.ntmps36
  go_wp2_with (first | (focus ((with_reducible refine wpList_load_w ?_ 24 (.tmp 10) ?_ ?_ LW.out ?_); rotate_left; rfl; rfl; rotate_left; rfl)) | (focus ((with_reducible refine wpList_store_w ?_ 24 (.tmp 12) (.tmp 11) ?_ ?_ ?_ HS4.out ?_); rotate_left; rfl; rfl; rfl; rotate_left; rfl)) | (focus ((with_reducible refine wpList_load_w ?_ 29 (.tmp 4) ?_ ?_ LR.out ?_); rotate_left; rfl; rfl; rotate_left; rfl)) | (focus ((with_reducible refine wpList_load_w ?_ 47 (.tmp 5) ?_ ?_ LA.out ?_); rotate_left; rfl; rfl; rotate_left; rfl)) | (focus ((with_reducible refine wpList_store_w ?_ 53 (.tmp 6) (.tmp 15) ?_ ?_ ?_ HS5.out ?_); rotate_left; rfl; rfl; rfl; rotate_left; rfl)))
  try simp only [Act.put]
  try go_wp2
  refine ret_step (p := 6) (b := w.heap.size + 1 + 1) Tryd.results36 rfl rfl P6.out ?_
  exact ⟨rfl, B5.out⟩

set_option maxHeartbeats 2000000 in
set_option maxRecDepth 100000 in
theorem asksOwned_any (b : Nat) (S : Sp) (t : Option Th) (to : Rf) (q x y : Int) (r1 r2 : Rf) (oa oo : Int) (w : World) (X : SpAt w b S t) : Calls Tryd.prog 35 #[.pointer (some ⟨b, 0, none⟩), .agg to.cells, .agg (akL q x y r1 r2 oa oo).toArray] w fun e' w' => e' = .returned (.agg (stL 1 to q S.wl S.wb r1 r2 S.oa S.oo 0 zr zr).toArray) ∧ Below w.heap.size w w' := by
  have b1 := (Below.refl w.heap.size w).alloc (Nat.le_refl _) (.cells to.cells 29)
  have b2 := b1.alloc (by simp) (.cells (akL q x y r1 r2 oa oo).toArray 47)
  have b3 := b2.alloc (by simp; omega) (.cells #[.int .i64 0, .int .i64 0, .int .i64 0, .int .u64 0, .int .i64 0, .int .u64 0, .int .i64 0, .int .i64 0, .int .u64 0, .int .i64 0, .int .i64 0, .int .u64 0, .int .i64 0, .int .u64 0, .int .i64 0, .int .i64 0, .int .u64 0, .int .i64 0, .int .u64 0, .int .i64 0, .int .i64 0, .int .i64 0, .int .u64 0, .slice none 0 0, .slice none 0 0, .int .i64 0, .int .i64 0, .int .u64 0, .int .i64 0, .int .u64 0, .int .i64 0, .int .i64 0, .int .u64 0, .int .i64 0, .int .u64 0, .bool false] 53)
  have RT0 := ((IsB.new w to.cells 29).below ((Below.refl _ _).alloc (Nat.le_refl _) (.cells (akL q x y r1 r2 oa oo).toArray 47))).below ((Below.refl _ _).alloc (Nat.le_refl _) (.cells #[.int .i64 0, .int .i64 0, .int .i64 0, .int .u64 0, .int .i64 0, .int .u64 0, .int .i64 0, .int .i64 0, .int .u64 0, .int .i64 0, .int .i64 0, .int .u64 0, .int .i64 0, .int .u64 0, .int .i64 0, .int .i64 0, .int .u64 0, .int .i64 0, .int .u64 0, .int .i64 0, .int .i64 0, .int .i64 0, .int .u64 0, .slice none 0 0, .slice none 0 0, .int .i64 0, .int .i64 0, .int .u64 0, .int .i64 0, .int .u64 0, .int .i64 0, .int .i64 0, .int .u64 0, .int .i64 0, .int .u64 0, .bool false] 53))
  have AK0 := (IsB.new (w.alloc (.cells to.cells 29)) (akL q x y r1 r2 oa oo).toArray 47).below ((Below.refl _ _).alloc (Nat.le_refl _) (.cells #[.int .i64 0, .int .i64 0, .int .i64 0, .int .u64 0, .int .i64 0, .int .u64 0, .int .i64 0, .int .i64 0, .int .u64 0, .int .i64 0, .int .i64 0, .int .u64 0, .int .i64 0, .int .u64 0, .int .i64 0, .int .i64 0, .int .u64 0, .int .i64 0, .int .u64 0, .int .i64 0, .int .i64 0, .int .i64 0, .int .u64 0, .slice none 0 0, .slice none 0 0, .int .i64 0, .int .i64 0, .int .u64 0, .int .i64 0, .int .u64 0, .int .i64 0, .int .i64 0, .int .u64 0, .int .i64 0, .int .u64 0, .bool false] 53))
  have PB0 : IsB (((w.alloc (.cells to.cells 29)).alloc (.cells (akL q x y r1 r2 oa oo).toArray 47)).alloc (.cells #[.int .i64 0, .int .i64 0, .int .i64 0, .int .u64 0, .int .i64 0, .int .u64 0, .int .i64 0, .int .i64 0, .int .u64 0, .int .i64 0, .int .i64 0, .int .u64 0, .int .i64 0, .int .u64 0, .int .i64 0, .int .i64 0, .int .u64 0, .int .i64 0, .int .u64 0, .int .i64 0, .int .i64 0, .int .i64 0, .int .u64 0, .slice none 0 0, .slice none 0 0, .int .i64 0, .int .i64 0, .int .u64 0, .int .i64 0, .int .u64 0, .int .i64 0, .int .i64 0, .int .u64 0, .int .i64 0, .int .u64 0, .bool false] 53)) ((w.alloc (.cells to.cells 29)).alloc (.cells (akL q x y r1 r2 oa oo).toArray 47)).heap.size (stL 0 zr 0 0 0 zr zr 0 0 0 zr zr).toArray 53 := IsB.new ((w.alloc (.cells to.cells 29)).alloc (.cells (akL q x y r1 r2 oa oo).toArray 47)) #[.int .i64 0, .int .i64 0, .int .i64 0, .int .u64 0, .int .i64 0, .int .u64 0, .int .i64 0, .int .i64 0, .int .u64 0, .int .i64 0, .int .i64 0, .int .u64 0, .int .i64 0, .int .u64 0, .int .i64 0, .int .i64 0, .int .u64 0, .int .i64 0, .int .u64 0, .int .i64 0, .int .i64 0, .int .i64 0, .int .u64 0, .slice none 0 0, .slice none 0 0, .int .i64 0, .int .i64 0, .int .u64 0, .int .i64 0, .int .u64 0, .int .i64 0, .int .i64 0, .int .u64 0, .int .i64 0, .int .u64 0, .bool false] 53
  rw [World.size_alloc] at AK0
  rw [World.size_alloc, World.size_alloc] at PB0
  have X3 := X.below b3
  have hlt := X.lt
  obtain ⟨v, I, T⟩ := X3
  have LW := hide (ld_owner I)
  obtain ⟨w4, hs4, A4, k4⟩ := st_asko AK0 S.oa S.oo
  have HS4 := hide hs4
  have B4 : Hid (Below w.heap.size w w4) := b3.trans (k4.to_below (by have := b3.size; omega) (by simp))
  have RT4 := RT0.kp k4 (by simp)
  have PB4 := PB0.kp k4 (by simp)
  have X4 : SpAt w4 b S t := ⟨v, I.kp k4 (by simp; omega), T.kp k4 fun k hk cs => by
    simp only [List.mem_singleton] at hk
    subst hk
    exact ⟨fun J => IsB.ne_t AK0 J (by decide) rfl, fun J => IsB.ne_t AK0 J (by decide) rfl⟩⟩
  have LR := hide (load_ref RT4 rfl)
  have LA := hide (ld_ask A4)
  have CT := hide (asks_any b S t to q x y r1 r2 S.oa S.oo w4 X4)
  have P4 := hide PB4
  clear hs4 A4 k4 RT4 PB4 I T X X4 b1 b2 b3 RT0 AK0 PB0 hlt
  go_enter Tryd.func35, Tryd.ntmps35
  go_wp2_with (first | (focus ((with_reducible refine wpList_load_w ?_ 31 (.tmp 10) ?_ ?_ LW.out ?_); rotate_left; rfl; rfl; rotate_left; rfl)) | (focus ((with_reducible refine wpList_store_w ?_ 31 (.tmp 12) (.tmp 11) ?_ ?_ ?_ HS4.out ?_); rotate_left; rfl; rfl; rfl; rotate_left; rfl)) | (focus ((with_reducible refine wpList_load_w ?_ 29 (.tmp 4) ?_ ?_ LR.out ?_); rotate_left; rfl; rfl; rotate_left; rfl)) | (focus ((with_reducible refine wpList_load_w ?_ 47 (.tmp 5) ?_ ?_ LA.out ?_); rotate_left; rfl; rfl; rotate_left; rfl)))
  refine CT.out.mono ?_
  rintro e' w5 ⟨rfl, hb⟩
  obtain ⟨w6, hs6, P6', k6⟩ := st_step (P4.out.below hb) rfl 1 to q S.wl S.wb r1 r2 S.oa S.oo 0 zr zr
  have HS6 := hide hs6
  have P6 := hide P6'
  have B5 : Hid (Below w.heap.size w w6) := (B4.out.trans (hb.mono B4.out.size)).trans (k6.to_below (by have := B4.out.size; have := hb.size; omega) (by simp; omega))
  clear hs6 P6' k6 hb CT LR LA LW HS4 P4 B4
  go_wp2_with (first | (focus ((with_reducible refine wpList_store_w ?_ 53 (.tmp 6) (.tmp 16) ?_ ?_ ?_ HS6.out ?_); rotate_left; rfl; rfl; rfl; rotate_left; rfl)))
  try simp only [Act.put]
  try go_wp2
  refine ret_step (p := 6) (b := w.heap.size + 1 + 1) Tryd.results35 rfl rfl P6.out ?_
  exact ⟨rfl, B5.out⟩

end Go.Proofs.YtofmommoeligoaaDoor
