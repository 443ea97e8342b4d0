/- at, conf, alive. -/
import Derived.Test.YtofmommoeligoaaDoorTH
namespace Go.Proofs.YtofmommoeligoaaDoor
open Go.RowKit Go.Maps Go.ChangeMaps

theorem eqk (a b c d : Int) (w : World) : (binOp .eql 27 (.agg #[.int .i64 a, .int .u64 b]) (.agg #[.int .i64 c, .int .u64 d])).run Tryd.prog w = .ok (.bool (a == c && b == d)) w := by
  have u1 := Tryd.underlying25
  have a1 := Tryd.isAgg25
  have z1 := Tryd.sizeOf25
  have u2 := Tryd.underlying22
  have a2 := Tryd.isAgg22
  have z2 := Tryd.sizeOf22
  have hS : Tryd.prog.underlying 27 = some (.struct (Tryd.prog.fieldsOf 27)) := by kernel_rfl
  have hp : Tryd.prog.stoodInHeld 27 = false := by kernel_rfl
  rw [run_eql_struct, show (10000 : Nat) = 9999 + 1 from rfl, run_equalIn_agg w 9999 27 _ _ hS hp]
  simp only [Program.fieldsOf, Tryd.underlying27]
  go_simp
  by_cases h1 : a = c <;> by_cases h2 : b = d <;> simp [h1, h2]
theorem exec_bin {P : Program} {t t2 : TypeId} {k : BinOp} {x y : Operand} {oi : Oper} {ρ : Operand → Value} {xs ys : Array Value} {v : Value} {w : World} (hm : P.eqGuardType P.depth t = false) (hop : oi.op = .binOp k t x y t2) (hx : ρ x = .agg xs) (hy : ρ y = .agg ys) (hl : (binOp k t (.agg xs) (.agg ys)).run P w = .ok v w) : (execOp ρ oi).run P w = .ok (.value v) w := by
  simp [execOp, hop, hx, hy, run_eqGuard_agg w k t x y xs ys hm, hl, Result.andThen]
theorem kguard : Tryd.prog.eqGuardType Tryd.prog.depth 27 = false := by kernel_rfl
theorem eqr (i a b c d i' a' b' c' d' : Int) (w : World) : (binOp .eql 29 (.agg #[.int .i64 i, .int .i64 a, .int .u64 b, .int .i64 c, .int .u64 d]) (.agg #[.int .i64 i', .int .i64 a', .int .u64 b', .int .i64 c', .int .u64 d'])).run Tryd.prog w = .ok (.bool (i == i' && (a == a' && b == b') && (c == c' && d == d'))) w := by
  have u0 := Tryd.underlying25
  have a0 := Tryd.isAgg25
  have z0 := Tryd.sizeOf25
  have u1 := Tryd.underlying3
  have a1 := Tryd.isAgg3
  have z1 := Tryd.sizeOf3
  have u2 := Tryd.underlying22
  have a2 := Tryd.isAgg22
  have z2 := Tryd.sizeOf22
  have u3 := Tryd.isAgg27
  have u4 := Tryd.sizeOf27
  have u5 := Tryd.isAgg24
  have u6 := Tryd.sizeOf24
  have hS : Tryd.prog.underlying 29 = some (.struct (Tryd.prog.fieldsOf 29)) := by kernel_rfl
  have hp : Tryd.prog.stoodInHeld 29 = false := by kernel_rfl
  have hS1 : Tryd.prog.underlying 27 = some (.struct (Tryd.prog.fieldsOf 27)) := by kernel_rfl
  have hp1 : Tryd.prog.stoodInHeld 27 = false := by kernel_rfl
  have hS2 : Tryd.prog.underlying 24 = some (.struct (Tryd.prog.fieldsOf 24)) := by kernel_rfl
  have hp2 : Tryd.prog.stoodInHeld 24 = false := by kernel_rfl
  obtain ⟨dd, hd⟩ : ∃ dd, (10000 : Nat) = dd + 1 + 1 + 1 := ⟨9997, rfl⟩
  rw [run_eql_struct, hd, run_equalIn_agg w (dd + 1 + 1) 29 _ _ hS hp]
  clear hd hS
  simp only [Program.fieldsOf, Tryd.underlying29]
  have e1 : ∀ (x y x' y' : Int) w, (Op.equalIn (dd + 1 + 1) 27 (.agg #[.int .i64 x, .int .u64 y]) (.agg #[.int .i64 x', .int .u64 y'])).run Tryd.prog w = .ok (x == x' && y == y') w := fun x y x' y' w => by
    rw [run_equalIn_agg w (dd + 1) 27 _ _ hS1 hp1]
    simp only [Program.fieldsOf, Tryd.underlying27]
    go_simp
    by_cases h1 : x = x' <;> by_cases h2 : y = y' <;> simp [h1, h2]
  have e2 : ∀ (x y x' y' : Int) w, (Op.equalIn (dd + 1 + 1) 24 (.agg #[.int .i64 x, .int .u64 y]) (.agg #[.int .i64 x', .int .u64 y'])).run Tryd.prog w = .ok (x == x' && y == y') w := fun x y x' y' w => by
    rw [run_equalIn_agg w (dd + 1) 24 _ _ hS2 hp2]
    simp only [Program.fieldsOf, Tryd.underlying24]
    go_simp
    by_cases h1 : x = x' <;> by_cases h2 : y = y' <;> simp [h1, h2]
  clear hS1 hp1 hS2 hp2
  go_simp
  by_cases h1 : i = i' <;> by_cases h2 : a = a' <;> by_cases h3 : b = b' <;> by_cases h4 : c = c' <;> by_cases h5 : d = d' <;> simp [h1, h2, h3, h4, h5]
theorem ner (i a b c d i' a' b' c' d' : Int) (w : World) : (binOp .neq 29 (.agg #[.int .i64 i, .int .i64 a, .int .u64 b, .int .i64 c, .int .u64 d]) (.agg #[.int .i64 i', .int .i64 a', .int .u64 b', .int .i64 c', .int .u64 d'])).run Tryd.prog w = .ok (.bool (!(i == i' && (a == a' && b == b') && (c == c' && d == d')))) w := by
  have u0 := Tryd.underlying25
  have a0 := Tryd.isAgg25
  have z0 := Tryd.sizeOf25
  have u1 := Tryd.underlying3
  have a1 := Tryd.isAgg3
  have z1 := Tryd.sizeOf3
  have u2 := Tryd.underlying22
  have a2 := Tryd.isAgg22
  have z2 := Tryd.sizeOf22
  have u3 := Tryd.isAgg27
  have u4 := Tryd.sizeOf27
  have u5 := Tryd.isAgg24
  have u6 := Tryd.sizeOf24
  have hS : Tryd.prog.underlying 29 = some (.struct (Tryd.prog.fieldsOf 29)) := by kernel_rfl
  have hp : Tryd.prog.stoodInHeld 29 = false := by kernel_rfl
  have hS1 : Tryd.prog.underlying 27 = some (.struct (Tryd.prog.fieldsOf 27)) := by kernel_rfl
  have hp1 : Tryd.prog.stoodInHeld 27 = false := by kernel_rfl
  have hS2 : Tryd.prog.underlying 24 = some (.struct (Tryd.prog.fieldsOf 24)) := by kernel_rfl
  have hp2 : Tryd.prog.stoodInHeld 24 = false := by kernel_rfl
  obtain ⟨dd, hd⟩ : ∃ dd, (10000 : Nat) = dd + 1 + 1 + 1 := ⟨9997, rfl⟩
  rw [run_neq_struct, hd, run_equalIn_agg w (dd + 1 + 1) 29 _ _ hS hp]
  clear hd hS
  simp only [Program.fieldsOf, Tryd.underlying29]
  have e1 : ∀ (x y x' y' : Int) w, (Op.equalIn (dd + 1 + 1) 27 (.agg #[.int .i64 x, .int .u64 y]) (.agg #[.int .i64 x', .int .u64 y'])).run Tryd.prog w = .ok (x == x' && y == y') w := fun x y x' y' w => by
    rw [run_equalIn_agg w (dd + 1) 27 _ _ hS1 hp1]
    simp only [Program.fieldsOf, Tryd.underlying27]
    go_simp
    by_cases h1 : x = x' <;> by_cases h2 : y = y' <;> simp [h1, h2]
  have e2 : ∀ (x y x' y' : Int) w, (Op.equalIn (dd + 1 + 1) 24 (.agg #[.int .i64 x, .int .u64 y]) (.agg #[.int .i64 x', .int .u64 y'])).run Tryd.prog w = .ok (x == x' && y == y') w := fun x y x' y' w => by
    rw [run_equalIn_agg w (dd + 1) 24 _ _ hS2 hp2]
    simp only [Program.fieldsOf, Tryd.underlying24]
    go_simp
    by_cases h1 : x = x' <;> by_cases h2 : y = y' <;> simp [h1, h2]
  clear hS1 hp1 hS2 hp2
  go_simp
  by_cases h1 : i = i' <;> by_cases h2 : a = a' <;> by_cases h3 : b = b' <;> by_cases h4 : c = c' <;> by_cases h5 : d = d' <;> simp [h1, h2, h3, h4, h5]


theorem rguard : Tryd.prog.eqGuardType Tryd.prog.depth 29 = false := by kernel_rfl

theorem wpList_bin_w {P : Program} {ops : Array Oper} {rest : List Oper} {o : Oper} {a : Act} {w : World} {Q : Exit → Act → World → Prop} (hw : Region.wanted o (yielded ops a.tmps) = true) (k : BinOp) (ty : TypeId) (x y : Operand) (ty2 : TypeId) (ho : o.op = .binOp k ty x y ty2) {xs ys : Array Value} {v : Value} (hx : a.eval x = .agg xs) (hy : a.eval y = .agg ys) (hl : P.eqGuardType P.depth ty = false ∧ (binOp k ty (.agg xs) (.agg ys)).run P w = .ok v w)
    (h : wpList P ops Q rest (a.put o.dst v) w) : wpList P ops Q (o :: rest) a w := by
  unfold wpList
  rw [if_pos hw]
  refine Or.inl ?_
  unfold Oper.wp
  rw [exec_bin hl.1 ho hx hy hl.2]
  exact h

theorem key_info : (Tryd.prog.info? 27).map (·.size) = some 2 := by kernel_rfl
theorem ret_key {fn : Func} {p : Tmp} (hf : fn.results = #[.cell p 27]) {Q : Ending → World → Prop} {tmps : Array Value} {w : World} {b : Nat} {cs : Array Value} (hs : cs.size = 2)
    (hp : tmps.getD p undef = .pointer (some ⟨b, 0, none⟩)) (I : IsB w b cs 27) (hQ : Q (.returned (.agg cs)) w) :
    bodyPost Tryd.prog fn Q .ret ⟨tmps, []⟩ w :=
  bodyPost_ret (results_cell_row hf tmps w b 27 cs (0, 0) _ hp I Tryd.underlying27 rfl (by rw [hs]; exact key_info)) rfl hQ
theorem ret_ref {fn : Func} {p : Tmp} (hf : fn.results = #[.cell p 29]) {Q : Ending → World → Prop} {tmps : Array Value} {w : World} {b : Nat} {cs : Array Value} (hs : cs.size = 5)
    (hp : tmps.getD p undef = .pointer (some ⟨b, 0, none⟩)) (I : IsB w b cs 29) (hQ : Q (.returned (.agg cs)) w) :
    bodyPost Tryd.prog fn Q .ret ⟨tmps, []⟩ w :=
  bodyPost_ret (results_cell_row hf tmps w b 29 cs (0, 0) _ hp I Tryd.underlying29 rfl (by rw [hs]; exact ref_info)) rfl hQ

set_option maxHeartbeats 2000000 in
set_option maxRecDepth 100000 in
theorem lat_any (n : Int) (w : World) : Calls Tryd.prog 62 #[.int .u64 n] w fun e w' => e = .returned (.agg #[.int .i64 (2), .int .u64 (n)]) ∧ Below w.heap.size w w' := by
  have B := hide ((Below.refl w.heap.size w).alloc (Nat.le_refl _) (.cells #[.int .i64 2, .int .u64 n] 27))
  have I := hide (IsB.new w #[.int .i64 2, .int .u64 n] 27)
  go_enter Tryd.func62, Tryd.ntmps62
  go_wp2
  refine ret_key (p := 2) (b := w.heap.size) Tryd.results62 rfl rfl I.out ?_
  exact ⟨rfl, B.out⟩

def hd0 : Rf := ⟨0, 1, 0, 0, 0⟩
def tl0 : Rf := ⟨1, 3, 0, 0, 0⟩
def me0 : Rf := ⟨2, 2, 5, 0, 0⟩
/-- The settings that the law looks at itself. -/
def cf0 : List Value := cfL 0 0 me0 hd0 0 1
theorem st_conf {w : World} {b : Nat} {cs : List Value} (I : IsB w b cs.toArray 33) (hl : cs.length = 14) : ∃ w', (Instr.storeAt 33 (.pointer (some ⟨b, 0, none⟩)) (.agg cf0.toArray)).run Tryd.prog w = .ok () w' ∧ IsB w' b cf0.toArray 33 ∧ Kp [b] w w' := by
  obtain ⟨w', h1, h2, h3⟩ := store_mid I 0 33 cf0 (by simp [cf0, cfL, hl]) (by kernel_rfl) (by simp [cf0, cfL, Value.oneCell'])
  refine ⟨w', h1, ?_, h3⟩
  have e1 : cs.drop (0 + cf0.length) = [] := List.drop_eq_nil_of_le (by simp [cf0, cfL, hl])
  rw [e1] at h2
  simpa using h2
theorem conf_info : (Tryd.prog.info? 33).map (·.size) = some 14 := by kernel_rfl
theorem ret_conf {fn : Func} {p : Tmp} (hf : fn.results = #[.cell p 33]) {Q : Ending → World → Prop} {tmps : Array Value} {w : World} {b : Nat} {cs : Array Value} (hs : cs.size = 14)
    (hp : tmps.getD p undef = .pointer (some ⟨b, 0, none⟩)) (I : IsB w b cs 33) (hQ : Q (.returned (.agg cs)) w) :
    bodyPost Tryd.prog fn Q .ret ⟨tmps, []⟩ w :=
  bodyPost_ret (results_cell_row hf tmps w b 33 cs (0, 0) _ hp I Tryd.underlying33 rfl (by rw [hs]; exact conf_info)) rfl hQ

set_option maxHeartbeats 2000000 in
set_option maxRecDepth 100000 in
theorem conf_any (w : World) : Calls Tryd.prog 32 #[] w fun e w' => e = .returned (.agg cf0.toArray) ∧ Below w.heap.size w w' := by
  have mixed : Tryd.prog.follows .mixedOrders = true := by kernel_rfl
  have b1 := (Below.refl w.heap.size w).alloc (Nat.le_refl _) (.cells #[.int .i64 0, .int .u64 0, .int .i64 0, .int .i64 0, .int .u64 0, .int .i64 0, .int .u64 0, .int .i64 0, .int .i64 0, .int .u64 0, .int .i64 0, .int .u64 0, .int .i64 0, .int .i64 0] 33)
  have P : Hid (IsB (w.alloc (.cells #[.int .i64 0, .int .u64 0, .int .i64 0, .int .i64 0, .int .u64 0, .int .i64 0, .int .u64 0, .int .i64 0, .int .i64 0, .int .u64 0, .int .i64 0, .int .u64 0, .int .i64 0, .int .i64 0] 33)) w.heap.size (cfL 0 0 zr zr 0 0).toArray 33) := IsB.new w _ _
  have B := hide b1
  clear b1
  go_enter Tryd.func32, Tryd.ntmps32
  go_wp2_with fail
  generalize (w.alloc (.cells #[.int .i64 0, .int .u64 0, .int .i64 0, .int .i64 0, .int .u64 0, .int .i64 0, .int .u64 0, .int .i64 0, .int .i64 0, .int .u64 0, .int .i64 0, .int .u64 0, .int .i64 0, .int .i64 0] 33)) = W1 at *
  refine (rhead_ok 0 (by decide) (by decide) W1).mono ?_
  rintro e w2 ⟨rfl, hb⟩
  replace P := hide (P.out.below hb)
  replace B := hide (B.out.trans (hb.mono B.out.size))
  clear hb
  have b3 := (Below.refl w2.heap.size w2).alloc (Nat.le_refl _) (.cells hd0.cells 29)
  have SN := hide (store_newr w2 hd0)
  have HB0 := hide (IsB.new w2 hd0.cells 29)
  go_wp2_with (first | (focus ((with_reducible refine wpList_store_w ?_ 29 (.tmp 1) (.tmp 5) ?_ ?_ ?_ SN.out ?_); rotate_left; rfl; rfl; rfl; rotate_left; rfl)))
  generalize hh : w2.heap.size = h at *
  replace hh := hide hh
  have HB := hide (HB0.out.below ((Below.refl _ _).drew))
  replace P := hide ((P.out.below (hh.out.symm ▸ b3)).below ((Below.refl _ _).drew))
  replace B := hide ((B.out.trans (b3.mono (by have := B.out.size; have := hh.out; omega))).drew)
  clear b3 HB0 SN
  refine regionL 5 (fun w' => IsB w' h hd0.cells 29) mixed HB.out (fun hHeld => ?_)
  generalize (w2.alloc (.cells hd0.cells 29)).drew = WD at *
  refine pickL (v := .agg hd0.cells) 2 (some 9) rfl rfl (by kernel_rfl) (by kernel_rfl) (by kernel_rfl) (by decide) (by kernel_rfl) (by kernel_rfl) (fun _ _ _ h => h) (by rfl) ?_ (by assumption) ?_
  · intro w' hSw
    have q0 := hSw
    exact exec_load rfl rfl (load_ref q0 rfl)
  try simp only [Act.put, List.setIfInBounds_toArray, List.set_cons_zero, List.set_cons_succ]
  refine pickA (v := ?_) 3 (some 10) rfl rfl (by kernel_rfl) (by kernel_rfl) (by kernel_rfl) (by decide) (fun _ _ _ h => h) (by rfl) ?_ (by assumption) ?_
  rotate_left
  · intro w'
    go_simp
    try with_reducible rfl
  try simp only [Act.put, List.setIfInBounds_toArray, List.set_cons_zero, List.set_cons_succ]
  refine oneL (i := 0) (by kernel_rfl) rfl (fun K hK => ?_)
  go_simp
  refine (lat_any 5 WD).mono ?_
  rintro e w5 ⟨rfl, hb⟩
  have H5 := hide (HB.out.below hb)
  obtain ⟨w6, hs6, P6', k6⟩ := st_conf (P.out.below hb) rfl
  have HS6 := hide hs6
  have P6 := hide P6'
  have B6 : Hid (Below w.heap.size w w6) := (B.out.trans (hb.mono B.out.size)).trans (k6.to_below (by have := B.out.size; have := hb.size; omega) (by simp))
  clear hb hs6 P6' k6 P B
  refine hK.out _ _ ?_ ?_
  · exact H5.out
  clear hK K
  try simp only [Act.put, List.setIfInBounds_toArray, List.set_cons_zero, List.set_cons_succ]
  clear hHeld
  have hHeld : (fun w' => IsB w' h hd0.cells 29) w5 := H5.out
  refine pickA (v := .agg me0.cells) 1 (some 8) rfl rfl (by kernel_rfl) (by kernel_rfl) (by kernel_rfl) (by decide) (fun _ _ _ h => h) (by rfl) ?_ (by assumption) ?_
  · intro w'
    kernel_rfl
  try simp only [Act.put, List.setIfInBounds_toArray, List.set_cons_zero, List.set_cons_succ]
  refine pickA (v := .agg cf0.toArray) 4 (some 11) rfl rfl (by kernel_rfl) (by kernel_rfl) (by kernel_rfl) (by decide) (fun _ _ _ h => h) (by rfl) ?_ (by assumption) ?_
  · intro w'
    kernel_rfl
  try simp only [Act.put, List.setIfInBounds_toArray, List.set_cons_zero, List.set_cons_succ]
  refine lateL (i := 5) (by kernel_rfl) rfl (by decide) (by kernel_rfl) (fun K hK => ?_)
  refine step_store_w rfl 33 (.tmp 0) (.tmp 11) rfl rfl rfl HS6.out ?_
  refine hK.out _ _ ?_
  clear hK K
  try simp only [Act.put, List.setIfInBounds_toArray]
  refine doneL (by kernel_rfl) ?_ _
  clear hHeld
  try go_wp2
  refine ret_conf (p := 0) (b := w.heap.size) Tryd.results32 rfl rfl P6.out ?_
  exact ⟨rfl, B6.out⟩

end Go.Proofs.YtofmommoeligoaaDoor
