/- free, freeAndWait, freeAndEnd, freeAndFail, beside; the answers to Same, Enter, Mine, Out. -/
import Derived.Test.YtofmommoeligoaaDoorTB
namespace Go.Proofs.YtofmommoeligoaaDoor
open Go.RowKit Go.Maps Go.ChangeMaps

set_option maxHeartbeats 2000000 in
set_option maxRecDepth 100000 in
theorem free_keep (b : Nat) (S : Sp) (t : Option Th) (h : Th) (f : Nat) (cs : Array Value) (hd : S.dd = false) (w : World) (X : SpAt w b S t) (TH : ThAt w (.func (.func f) #[] cs) (some h)) : Calls Tryd.prog 66 #[.pointer (some ⟨b, 0, none⟩), .func (.func f) #[] cs] w fun e' w' => e' = .returned (.tuple #[]) ∧ SpAt w' b { S with pl := 9 } (some h) ∧ Kp [b] w w' := by
  obtain ⟨v, I, T⟩ := X
  have y20 := cl_dead I
  rw [hd] at y20
  obtain ⟨w2, hs2, I2, k2⟩ := st_at I 9
  obtain ⟨w3, hs3, I3, k3⟩ := st_then I2 f cs
  have F4 : Hid (SpAt w3 b { S with pl := 9 } (some h) ∧ Kp [b] w w3) := ⟨⟨_, I3, TH.turn I (k2.tr k3)⟩, k2.tr k3⟩
  have HS2 := hide hs2
  have HS3 := hide hs3
  clear hs2 hs3 I2 I3 k2 k3 T I TH hd
  go_enter Tryd.func66, Tryd.ntmps66
  go_wp2_with (first | (focus ((with_reducible refine wpList_store_w ?_ 82 (.tmp 15) (.const (.int .i64 9)) ?_ ?_ ?_ HS2.out ?_); rotate_left; rfl; rfl; rfl; rotate_left; rfl)) | (focus ((with_reducible refine wpList_store_w ?_ 83 (.tmp 17) (.tmp 13) ?_ ?_ ?_ HS3.out ?_); rotate_left; rfl; rfl; rfl; rotate_left; rfl)))
  refine bodyPost_end (results_none rfl _ _ _) rfl ?_
  exact ⟨rfl, F4.out⟩

set_option maxHeartbeats 2000000 in
set_option maxRecDepth 100000 in
theorem free_dead0 (b : Nat) (S : Sp) (t : Option Th) (S2 : Sp) (f : Nat) (eg : ∀ args w, (callFunc f args).run Tryd.prog w = .ok (.enter f args) w) (hd : S.dd = true) (w : World) (X : SpAt w b S t) (HC : Calls Tryd.prog f #[.pointer (some ⟨b, 0, none⟩)] w fun e' w' => e' = .returned (.tuple #[]) ∧ SpAt w' b S2 t ∧ Kp [b] w w') : Calls Tryd.prog 66 #[.pointer (some ⟨b, 0, none⟩), .func (.func f) #[] #[]] w fun e' w' => e' = .returned (.tuple #[]) ∧ SpAt w' b S2 t ∧ Kp [b] w w' := by
  obtain ⟨v, I, T⟩ := X
  have y20 := cl_dead I
  rw [hd] at y20
  replace HC := hide HC
  clear T I hd
  go_enter Tryd.func66, Tryd.ntmps66
  go_wp2_with (go_at_fn f; refine HC.out.mono ?_; (rintro e' w1 ⟨rfl, X6, K6⟩); have F6 := hide X6; have K7 := hide K6; clear X6 K6)
  refine bodyPost_ret (results_none rfl _ _ _) rfl ?_
  exact ⟨rfl, F6.out, K7.out⟩

set_option maxHeartbeats 2000000 in
set_option maxRecDepth 100000 in
theorem free_dead1 (b : Nat) (S : Sp) (t : Option Th) (S2 : Sp) (f : Nat) (eg : ∀ args w, (callFunc f args).run Tryd.prog w = .ok (.enter f args) w) (p : Value) (hd : S.dd = true) (w : World) (X : SpAt w b S t) (HC : Calls Tryd.prog f #[.pointer (some ⟨b, 0, none⟩), p] w fun e' w' => e' = .returned (.tuple #[]) ∧ SpAt w' b S2 t ∧ Kp [b] w w') : Calls Tryd.prog 66 #[.pointer (some ⟨b, 0, none⟩), .func (.func f) #[] #[p]] w fun e' w' => e' = .returned (.tuple #[]) ∧ SpAt w' b S2 t ∧ Kp [b] w w' := by
  obtain ⟨v, I, T⟩ := X
  have y20 := cl_dead I
  rw [hd] at y20
  replace HC := hide HC
  clear T I hd
  go_enter Tryd.func66, Tryd.ntmps66
  go_wp2_with (go_at_fn f; refine HC.out.mono ?_; (rintro e' w1 ⟨rfl, X6, K6⟩); have F6 := hide X6; have K7 := hide K6; clear X6 K6)
  refine bodyPost_ret (results_none rfl _ _ _) rfl ?_
  exact ⟨rfl, F6.out, K7.out⟩

theorem free_any (b : Nat) (S : Sp) (t : Option Th) (h : Th) (v : Value) (w : World) (X : SpAt w b S t) (TH : ThAt w v (some h)) : Calls Tryd.prog 66 #[.pointer (some ⟨b, 0, none⟩), v] w fun e' w' => e' = .returned (.tuple #[]) ∧ SpAt w' b (S.free t h).1 (S.free t h).2 ∧ Kp [b] w w' := by
  unfold Sp.free
  by_cases hd : S.dd = true
  · rw [if_pos hd]
    cases h with
    | wait => obtain rfl := TH; exact free_dead0 b S t S.wait _ e_wait hd w X (c_wait b S t w X)
    | fin e l r => obtain ⟨k, rfl, J⟩ := TH; exact free_dead1 b S t (S.fin e l r) _ e_fin _ hd w X (c_fin b S t e l r k w X J)
    | go x => obtain ⟨k, rfl, J⟩ := TH; exact free_dead1 b S t (S.goTo x) _ e_go _ hd w X (c_go b S t x k w X J)
  · rw [if_neg hd]
    have hd' : S.dd = false := by simpa using hd
    cases h with
    | wait => obtain rfl := TH; exact free_keep b S t _ _ _ hd' w X rfl
    | fin e l r => obtain ⟨k, rfl, J⟩ := TH; exact free_keep b S t _ _ _ hd' w X ⟨k, rfl, J⟩
    | go x => obtain ⟨k, rfl, J⟩ := TH; exact free_keep b S t _ _ _ hd' w X ⟨k, rfl, J⟩

set_option maxHeartbeats 2000000 in
set_option maxRecDepth 100000 in
theorem freeWait_any (b : Nat) (S : Sp) (t : Option Th)  (w : World) (X : SpAt w b S t) : Calls Tryd.prog 69 #[.pointer (some ⟨b, 0, none⟩)] w fun e' w' => e' = .returned (.tuple #[]) ∧ SpAt w' b (S.free t .wait).1 (S.free t .wait).2 ∧ Kp [b] w w' := by
  have CT := hide (free_any b S t .wait _ w X rfl)
  clear X
  generalize S.free t .wait = E at *
  go_enter Tryd.func69, Tryd.ntmps69
  go_wp2_with fail
  refine CT.out.mono ?_
  rintro e' w6 ⟨rfl, X6, K6⟩
  have F6 := hide X6
  have K7 := hide K6
  clear CT X6 K6
  go_wp2
  refine bodyPost_end (results_none rfl _ _ _) rfl ?_
  exact ⟨rfl, F6.out, K7.out⟩

set_option maxHeartbeats 2000000 in
set_option maxRecDepth 100000 in
theorem freeEnd_any (b : Nat) (S : Sp) (t : Option Th) (e : Int) (l r : Rf) (w : World) (X : SpAt w b S t) : Calls Tryd.prog 70 #[.pointer (some ⟨b, 0, none⟩), .agg (rsL e l r).toArray] w fun e' w' => e' = .returned (.tuple #[]) ∧ SpAt w' b (S.free t (.fin e l r)).1 (S.free t (.fin e l r)).2 ∧ Kp [b] w w' := by
  have b1 := (Below.refl w.heap.size w).alloc (Nat.le_refl _) (.cells (rsL e l r).toArray 51)
  have CT := hide (free_any b S t (.fin e l r) _ (w.alloc (.cells (rsL e l r).toArray 51)) (X.below b1) ⟨_, rfl, IsB.new w (rsL e l r).toArray 51⟩)
  have KZ : Hid (Kp [b] w (w.alloc (.cells (rsL e l r).toArray 51))) := Kp.of_below b1
  clear X b1
  generalize S.free t (.fin e l r) = E at *
  go_enter Tryd.func70, Tryd.ntmps70
  go_wp2_with fail
  refine CT.out.mono ?_
  rintro e' w6 ⟨rfl, X6, K6⟩
  have F6 := hide X6
  have K7 := hide (KZ.out.tr K6)
  clear CT X6 K6
  go_wp2
  refine bodyPost_end (results_none rfl _ _ _) rfl ?_
  exact ⟨rfl, F6.out, K7.out⟩

set_option maxHeartbeats 2000000 in
set_option maxRecDepth 100000 in
theorem freeFail_any (b : Nat) (S : Sp) (t : Option Th) (e : Int) (w : World) (X : SpAt w b S t) : Calls Tryd.prog 65 #[.pointer (some ⟨b, 0, none⟩), .int .i64 e] w fun e' w' => e' = .returned (.tuple #[]) ∧ SpAt w' b (S.free t (.fin e zr zr)).1 (S.free t (.fin e zr zr)).2 ∧ Kp [b] w w' := by
  have CT := hide (freeEnd_any b S t e zr zr w X)
  clear X
  generalize S.free t (.fin e zr zr) = E at *
  go_enter Tryd.func65, Tryd.ntmps65
  go_wp2_with fail
  refine CT.out.mono ?_
  rintro e' w6 ⟨rfl, X6, K6⟩
  have F6 := hide X6
  have K7 := hide K6
  clear CT X6 K6
  go_wp2
  refine bodyPost_end (results_none rfl _ _ _) rfl ?_
  exact ⟨rfl, F6.out, K7.out⟩

theorem res_info : (Tryd.prog.info? 51).map (·.size) = some 15 := by kernel_rfl
theorem ret_res {fn : Func} {p : Tmp} (hf : fn.results = #[.cell p 51]) {Q : Ending → World → Prop} {tmps : Array Value} {w : World} {b : Nat} {cs : Array Value} (hs : cs.size = 15)
    (hp : tmps.getD p undef = .pointer (some ⟨b, 0, none⟩)) (I : IsB w b cs 51) (hQ : Q (.returned (.agg cs)) w) :
    bodyPost Tryd.prog fn Q .ret ⟨tmps, []⟩ w :=
  bodyPost_ret (results_cell_row hf tmps w b 51 cs (0, 0) _ hp I Tryd.underlying51 rfl (by rw [hs]; exact res_info)) rfl hQ
theorem st_rsl {w : World} {b : Nat} {cs : List Value} (I : IsB w b cs.toArray 51) (hl : cs.length = 15) (e : Int) (l r : Rf) : ∃ w', (Instr.storeAt 51 (.pointer (some ⟨b, 0, none⟩)) (.agg (rsL e l r).toArray)).run Tryd.prog w = .ok () w' ∧ IsB w' b (rsL e l r).toArray 51 ∧ Kp [b] w w' := by
  obtain ⟨w', h1, h2, h3⟩ := store_mid I 0 51 (rsL e l r) (by simp [rsL, hl]) (by kernel_rfl) (by simp [rsL, Value.oneCell'])
  refine ⟨w', h1, ?_, h3⟩
  have e1 : cs.drop (0 + (rsL e l r).length) = [] := List.drop_eq_nil_of_le (by simp [rsL, hl])
  rw [e1] at h2
  simpa using h2

set_option maxHeartbeats 2000000 in
set_option maxRecDepth 100000 in
theorem beside_any (b : Nat) (S : Sp) (t : Option Th) (e : Int) (w : World) (X : SpAt w b S t) : Calls Tryd.prog 71 #[.pointer (some ⟨b, 0, none⟩), .int .i64 e] w fun e' w' => e' = .returned (.agg (rsL e S.lf S.rg).toArray) ∧ Below w.heap.size w w' := by
  have mixed : Tryd.prog.follows .mixedOrders = true := by kernel_rfl
  have b1 := ((Below.refl w.heap.size w).alloc (Nat.le_refl _) (.cells #[.int .i64 0, .int .u64 0, .slice none 0 0, .slice none 0 0, .int .i64 0, .int .i64 0, .int .u64 0, .int .i64 0, .int .u64 0, .int .i64 0, .int .i64 0, .int .u64 0, .int .i64 0, .int .u64 0, .bool false] 51)).drew
  have PB : IsB (w.alloc (.cells #[.int .i64 0, .int .u64 0, .slice none 0 0, .slice none 0 0, .int .i64 0, .int .i64 0, .int .u64 0, .int .i64 0, .int .u64 0, .int .i64 0, .int .i64 0, .int .u64 0, .int .i64 0, .int .u64 0, .bool false] 51)).drew w.heap.size (rsL 0 zr zr).toArray 51 := (IsB.new w #[.int .i64 0, .int .u64 0, .slice none 0 0, .slice none 0 0, .int .i64 0, .int .i64 0, .int .u64 0, .int .i64 0, .int .u64 0, .int .i64 0, .int .i64 0, .int .u64 0, .int .i64 0, .int .u64 0, .bool false] 51).below ((Below.refl _ _).drew)
  obtain ⟨v, I0, T1⟩ := X.below b1
  have I1 := hide I0
  obtain ⟨w3, hs3, I3, k3⟩ := st_rsl PB rfl e S.lf S.rg
  have HS3 := hide hs3
  have I4 := hide I3
  have B4 : Hid (Below w.heap.size w w3) := b1.trans (k3.to_below (by have := b1.size; omega) (by simp))
  clear hs3 I3 k3 PB T1 I0 X b1
  go_enter Tryd.func71, Tryd.ntmps71
  go_wp2_with fail
  refine regionL 10 (fun w' => IsB w' b (spL S v).toArray 85) mixed I1.out (fun hHeld => ?_)
  generalize (w.alloc (.cells #[.int .i64 0, .int .u64 0, .slice none 0 0, .slice none 0 0, .int .i64 0, .int .i64 0, .int .u64 0, .int .i64 0, .int .u64 0, .int .i64 0, .int .i64 0, .int .u64 0, .int .i64 0, .int .u64 0, .bool false] 51)).drew = WD at *
  refine pickA (v := ?_) 0 (some 5) rfl rfl (by kernel_rfl) (by kernel_rfl) (by kernel_rfl) (by decide) (fun _ _ _ h => h) (by rfl) ?_ (by assumption) ?_
  rotate_left
  · intro w'
    go_simp
    try with_reducible rfl
  try simp only [Act.put, List.setIfInBounds_toArray, List.set_cons_zero, List.set_cons_succ]
  refine pickA (v := ?_) 1 (some 6) rfl rfl (by kernel_rfl) (by kernel_rfl) (by kernel_rfl) (by decide) (fun _ _ _ h => h) (by rfl) ?_ (by assumption) ?_
  rotate_left
  · intro w'
    go_simp
    try with_reducible rfl
  try simp only [Act.put, List.setIfInBounds_toArray, List.set_cons_zero, List.set_cons_succ]
  refine pickA (v := ?_) 2 (some 7) rfl rfl (by kernel_rfl) (by kernel_rfl) (by kernel_rfl) (by decide) (fun _ _ _ h => h) (by rfl) ?_ (by assumption) ?_
  rotate_left
  · intro w'
    go_simp
    try with_reducible rfl
  try simp only [Act.put, List.setIfInBounds_toArray, List.set_cons_zero, List.set_cons_succ]
  refine pickA (v := ?_) 3 (some 8) rfl rfl (by kernel_rfl) (by kernel_rfl) (by kernel_rfl) (by decide) (fun _ _ _ h => h) (by rfl) ?_ (by assumption) ?_
  rotate_left
  · intro w'
    go_simp
    try with_reducible rfl
  try simp only [Act.put, List.setIfInBounds_toArray, List.set_cons_zero, List.set_cons_succ]
  refine pickL (v := .agg S.lf.cells) 4 (some 9) rfl rfl (by kernel_rfl) (by kernel_rfl) (by kernel_rfl) (by decide) (by kernel_rfl) (by kernel_rfl) (fun _ _ _ h => h) (by rfl) ?_ (by assumption) ?_
  · intro w' hSw
    have q0 := hSw
    exact exec_load rfl rfl (ld_left q0)
  try simp only [Act.put, List.setIfInBounds_toArray, List.set_cons_zero, List.set_cons_succ]
  refine pickA (v := ?_) 5 (some 10) rfl rfl (by kernel_rfl) (by kernel_rfl) (by kernel_rfl) (by decide) (fun _ _ _ h => h) (by rfl) ?_ (by assumption) ?_
  rotate_left
  · intro w'
    go_simp
    try with_reducible rfl
  try simp only [Act.put, List.setIfInBounds_toArray, List.set_cons_zero, List.set_cons_succ]
  refine pickA (v := ?_) 6 (some 11) rfl rfl (by kernel_rfl) (by kernel_rfl) (by kernel_rfl) (by decide) (fun _ _ _ h => h) (by rfl) ?_ (by assumption) ?_
  rotate_left
  · intro w'
    go_simp
    try with_reducible rfl
  try simp only [Act.put, List.setIfInBounds_toArray, List.set_cons_zero, List.set_cons_succ]
  refine pickA (v := ?_) 7 (some 12) rfl rfl (by kernel_rfl) (by kernel_rfl) (by kernel_rfl) (by decide) (fun _ _ _ h => h) (by rfl) ?_ (by assumption) ?_
  rotate_left
  · intro w'
    go_simp
    try with_reducible rfl
  try simp only [Act.put, List.setIfInBounds_toArray, List.set_cons_zero, List.set_cons_succ]
  refine pickL (v := .agg S.rg.cells) 8 (some 13) rfl rfl (by kernel_rfl) (by kernel_rfl) (by kernel_rfl) (by decide) (by kernel_rfl) (by kernel_rfl) (fun _ _ _ h => h) (by rfl) ?_ (by assumption) ?_
  · intro w' hSw
    have q0 := hSw
    exact exec_load rfl rfl (ld_right q0)
  try simp only [Act.put, List.setIfInBounds_toArray, List.set_cons_zero, List.set_cons_succ]
  refine pickA (v := .agg (rsL e S.lf S.rg).toArray) 9 (some 14) rfl rfl (by kernel_rfl) (by kernel_rfl) (by kernel_rfl) (by decide) (fun _ _ _ h => h) (by rfl) ?_ (by assumption) ?_
  · intro w'
    kernel_rfl
  try simp only [Act.put, List.setIfInBounds_toArray, List.set_cons_zero, List.set_cons_succ]
  refine lateL (i := 10) (by kernel_rfl) rfl (by decide) (by kernel_rfl) (fun K hK => ?_)
  refine step_store_w rfl 51 (.tmp 4) (.tmp 14) rfl rfl rfl HS3.out ?_
  refine hK.out _ _ ?_
  clear hK K
  try simp only [Act.put, List.setIfInBounds_toArray]
  refine doneL (by kernel_rfl) ?_ _
  clear hHeld
  try go_wp2
  refine ret_res (p := 4) (b := w.heap.size) Tryd.results71 rfl rfl I4.out ?_
  exact ⟨rfl, B4.out⟩

/-- Told by the one of its key. -/
def Sp.hSame (S : Sp) (t : Option Th) (a : An) : Sp × Option Th := if a.k = 1 ∧ a.mr = false then S.free t (.fin 100 S.lf S.rg) else S.free t .wait

set_option maxHeartbeats 2000000 in
set_option maxRecDepth 100000 in
theorem same_ok (b : Nat) (S : Sp) (t : Option Th) (a : An) (hk : a.k = 1) (hm : a.mr = false) (w : World) (X : SpAt w b S t) : Calls Tryd.prog 40 #[.pointer (some ⟨b, 0, none⟩), .agg (anL a).toArray] w fun e' w' => e' = .returned (.tuple #[]) ∧ SpAt w' b (S.free t (.fin 100 S.lf S.rg)).1 (S.free t (.fin 100 S.lf S.rg)).2 ∧ Kp [b] w w' := by
  have b1 := (Below.refl w.heap.size w).alloc (Nat.le_refl _) (.cells (anL a).toArray 57)
  have AB := hide (IsB.new w (anL a).toArray 57)
  have X1 := hide (X.below b1)
  have KZ : Hid (Kp [b] w (w.alloc (.cells (anL a).toArray 57))) := Kp.of_below b1
  clear b1 X
  have y0 : (w.alloc (.cells (anL a).toArray 57)).cell? ⟨w.heap.size, 0, none⟩ = some (.int .i64 a.k) := cl_ak AB.out
  have y1 : (w.alloc (.cells (anL a).toArray 57)).cell? ⟨w.heap.size, 1, none⟩ = some (.bool a.mr) := AB.out.cell 1
  rw [hk] at y0
  rw [hm] at y1
  go_enter Tryd.func40, Tryd.ntmps40
  go_wp2_with fail
  refine (beside_any b S t 100 _ X1.out).mono ?_
  rintro e' w5 ⟨rfl, hb⟩
  replace X1 := hide (X1.out.below hb)
  replace KZ := hide (KZ.out.bel hb)
  clear hb y0 y1 AB
  go_wp2_with fail
  refine (freeEnd_any b S t 100 S.lf S.rg w5 X1.out).mono ?_
  rintro e' w6 ⟨rfl, X6, K6⟩
  have F6 := hide X6
  have K7 := hide (KZ.out.tr K6)
  clear X6 K6
  go_wp2
  refine bodyPost_ret (results_none rfl _ _ _) rfl ?_
  exact ⟨rfl, F6.out, K7.out⟩

set_option maxHeartbeats 2000000 in
set_option maxRecDepth 100000 in
theorem same_mr (b : Nat) (S : Sp) (t : Option Th) (a : An) (hk : a.k = 1) (hm : a.mr = true) (w : World) (X : SpAt w b S t) : Calls Tryd.prog 40 #[.pointer (some ⟨b, 0, none⟩), .agg (anL a).toArray] w fun e' w' => e' = .returned (.tuple #[]) ∧ SpAt w' b (S.free t .wait).1 (S.free t .wait).2 ∧ Kp [b] w w' := by
  have b1 := (Below.refl w.heap.size w).alloc (Nat.le_refl _) (.cells (anL a).toArray 57)
  have AB := hide (IsB.new w (anL a).toArray 57)
  have X1 := hide (X.below b1)
  have KZ : Hid (Kp [b] w (w.alloc (.cells (anL a).toArray 57))) := Kp.of_below b1
  clear b1 X
  have y0 : (w.alloc (.cells (anL a).toArray 57)).cell? ⟨w.heap.size, 0, none⟩ = some (.int .i64 a.k) := cl_ak AB.out
  have y1 : (w.alloc (.cells (anL a).toArray 57)).cell? ⟨w.heap.size, 1, none⟩ = some (.bool a.mr) := AB.out.cell 1
  rw [hk] at y0
  rw [hm] at y1
  go_enter Tryd.func40, Tryd.ntmps40
  go_wp2_with fail
  refine (freeWait_any b S t _ X1.out).mono ?_
  rintro e' w6 ⟨rfl, X6, K6⟩
  have F6 := hide X6
  have K7 := hide (KZ.out.tr K6)
  clear X6 K6
  go_wp2
  refine bodyPost_end (results_none rfl _ _ _) rfl ?_
  exact ⟨rfl, F6.out, K7.out⟩

set_option maxHeartbeats 2000000 in
set_option maxRecDepth 100000 in
theorem same_no (b : Nat) (S : Sp) (t : Option Th) (a : An) (hk : ¬a.k = 1) (w : World) (X : SpAt w b S t) : Calls Tryd.prog 40 #[.pointer (some ⟨b, 0, none⟩), .agg (anL a).toArray] w fun e' w' => e' = .returned (.tuple #[]) ∧ SpAt w' b (S.free t .wait).1 (S.free t .wait).2 ∧ Kp [b] w w' := by
  have b1 := (Below.refl w.heap.size w).alloc (Nat.le_refl _) (.cells (anL a).toArray 57)
  have AB := hide (IsB.new w (anL a).toArray 57)
  have X1 := hide (X.below b1)
  have KZ : Hid (Kp [b] w (w.alloc (.cells (anL a).toArray 57))) := Kp.of_below b1
  clear b1 X
  have y0 : (w.alloc (.cells (anL a).toArray 57)).cell? ⟨w.heap.size, 0, none⟩ = some (.int .i64 a.k) := cl_ak AB.out
  have e1 : (a.k == 1) = false := by simpa using hk
  generalize hg : a.k = ak at *
  replace hg := hide hg
  go_enter Tryd.func40, Tryd.ntmps40
  go_wp2_with fail
  refine (freeWait_any b S t _ X1.out).mono ?_
  rintro e' w6 ⟨rfl, X6, K6⟩
  have F6 := hide X6
  have K7 := hide (KZ.out.tr K6)
  clear X6 K6
  go_wp2
  refine bodyPost_end (results_none rfl _ _ _) rfl ?_
  exact ⟨rfl, F6.out, K7.out⟩

theorem same_any (b : Nat) (S : Sp) (t : Option Th) (a : An) (w : World) (X : SpAt w b S t) : Calls Tryd.prog 40 #[.pointer (some ⟨b, 0, none⟩), .agg (anL a).toArray] w fun e' w' => e' = .returned (.tuple #[]) ∧ SpAt w' b (S.hSame t a).1 (S.hSame t a).2 ∧ Kp [b] w w' := by
  unfold Sp.hSame
  by_cases hk : a.k = 1
  · by_cases hm : a.mr = false
    · rw [if_pos ⟨hk, hm⟩]
      exact same_ok b S t a hk hm w X
    · rw [if_neg fun h => hm h.2]
      exact same_mr b S t a hk (by simpa using hm) w X
  · rw [if_neg fun h => hk h.1]
    exact same_no b S t a hk w X

/-- Told by Me, whether it stands in between. -/
def Sp.hEnter (S : Sp) (t : Option Th) (a : An) : Sp × Option Th := if a.k = 1 then ({ S with pl := 5 }, t) else S.free t (.fin (if a.k = 3 then 132 else 133) zr zr)

set_option maxHeartbeats 2000000 in
set_option maxRecDepth 100000 in
theorem enter_ok (b : Nat) (S : Sp) (t : Option Th) (a : An) (hk : a.k = 1) (w : World) (X : SpAt w b S t) : Calls Tryd.prog 41 #[.pointer (some ⟨b, 0, none⟩), .agg (anL a).toArray] w fun e' w' => e' = .returned (.tuple #[]) ∧ SpAt w' b { S with pl := 5 } t ∧ Kp [b] w w' := by
  have b1 := (Below.refl w.heap.size w).alloc (Nat.le_refl _) (.cells (anL a).toArray 57)
  have AB := hide (IsB.new w (anL a).toArray 57)
  have X1 := hide (X.below b1)
  have KZ : Hid (Kp [b] w (w.alloc (.cells (anL a).toArray 57))) := Kp.of_below b1
  clear b1 X
  have y0 : (w.alloc (.cells (anL a).toArray 57)).cell? ⟨w.heap.size, 0, none⟩ = some (.int .i64 a.k) := cl_ak AB.out
  rw [hk] at y0
  obtain ⟨v, I, T⟩ := X1.out
  obtain ⟨w2, hs2, I2, k2⟩ := st_at I 5
  have F4 : Hid (SpAt w2 b { S with pl := 5 } t ∧ Kp [b] w w2) := ⟨⟨v, I2, T.turn I k2⟩, KZ.out.tr k2⟩
  have HS2 := hide hs2
  clear hs2 I2 k2 T I hk X1
  go_enter Tryd.func41, Tryd.ntmps41
  go_wp2_with (first | (focus ((with_reducible refine wpList_store_w ?_ 82 (.tmp 12) (.const (.int .i64 5)) ?_ ?_ ?_ HS2.out ?_); rotate_left; rfl; rfl; rfl; rotate_left; rfl)))
  refine bodyPost_end (results_none rfl _ _ _) rfl ?_
  exact ⟨rfl, F4.out⟩

set_option maxHeartbeats 2000000 in
set_option maxRecDepth 100000 in
theorem enter_dead (b : Nat) (S : Sp) (t : Option Th) (a : An) (hk : a.k = 3) (w : World) (X : SpAt w b S t) : Calls Tryd.prog 41 #[.pointer (some ⟨b, 0, none⟩), .agg (anL a).toArray] w fun e' w' => e' = .returned (.tuple #[]) ∧ SpAt w' b (S.free t (.fin 132 zr zr)).1 (S.free t (.fin 132 zr zr)).2 ∧ Kp [b] w w' := by
  have b1 := (Below.refl w.heap.size w).alloc (Nat.le_refl _) (.cells (anL a).toArray 57)
  have AB := hide (IsB.new w (anL a).toArray 57)
  have X1 := hide (X.below b1)
  have KZ : Hid (Kp [b] w (w.alloc (.cells (anL a).toArray 57))) := Kp.of_below b1
  clear b1 X
  have y0 : (w.alloc (.cells (anL a).toArray 57)).cell? ⟨w.heap.size, 0, none⟩ = some (.int .i64 a.k) := cl_ak AB.out
  rw [hk] at y0
  go_enter Tryd.func41, Tryd.ntmps41
  go_wp2_with fail
  refine (freeFail_any b S t 132 _ X1.out).mono ?_
  rintro e' w6 ⟨rfl, X6, K6⟩
  have F6 := hide X6
  have K7 := hide (KZ.out.tr K6)
  clear X6 K6
  go_wp2
  refine bodyPost_end (results_none rfl _ _ _) rfl ?_
  exact ⟨rfl, F6.out, K7.out⟩

set_option maxHeartbeats 2000000 in
set_option maxRecDepth 100000 in
theorem enter_no (b : Nat) (S : Sp) (t : Option Th) (a : An) (hk1 : ¬a.k = 1) (hk3 : ¬a.k = 3) (w : World) (X : SpAt w b S t) : Calls Tryd.prog 41 #[.pointer (some ⟨b, 0, none⟩), .agg (anL a).toArray] w fun e' w' => e' = .returned (.tuple #[]) ∧ SpAt w' b (S.free t (.fin 133 zr zr)).1 (S.free t (.fin 133 zr zr)).2 ∧ Kp [b] w w' := by
  have b1 := (Below.refl w.heap.size w).alloc (Nat.le_refl _) (.cells (anL a).toArray 57)
  have AB := hide (IsB.new w (anL a).toArray 57)
  have X1 := hide (X.below b1)
  have KZ : Hid (Kp [b] w (w.alloc (.cells (anL a).toArray 57))) := Kp.of_below b1
  clear b1 X
  have y0 : (w.alloc (.cells (anL a).toArray 57)).cell? ⟨w.heap.size, 0, none⟩ = some (.int .i64 a.k) := cl_ak AB.out
  have e1 : (a.k == 1) = false := by simpa using hk1
  have e3 : (a.k == 3) = false := by simpa using hk3
  generalize hg : a.k = ak at *
  replace hg := hide hg
  go_enter Tryd.func41, Tryd.ntmps41
  go_wp2_with fail
  refine (freeFail_any b S t 133 _ X1.out).mono ?_
  rintro e' w6 ⟨rfl, X6, K6⟩
  have F6 := hide X6
  have K7 := hide (KZ.out.tr K6)
  clear X6 K6
  go_wp2
  refine bodyPost_end (results_none rfl _ _ _) rfl ?_
  exact ⟨rfl, F6.out, K7.out⟩

theorem enter_any (b : Nat) (S : Sp) (t : Option Th) (a : An) (w : World) (X : SpAt w b S t) : Calls Tryd.prog 41 #[.pointer (some ⟨b, 0, none⟩), .agg (anL a).toArray] w fun e' w' => e' = .returned (.tuple #[]) ∧ SpAt w' b (S.hEnter t a).1 (S.hEnter t a).2 ∧ Kp [b] w w' := by
  unfold Sp.hEnter
  by_cases hk : a.k = 1
  · rw [if_pos hk]
    exact enter_ok b S t a hk w X
  · rw [if_neg hk]
    by_cases hk3 : a.k = 3
    · rw [if_pos hk3]
      exact enter_dead b S t a hk3 w X
    · rw [if_neg hk3]
      exact enter_no b S t a hk hk3 w X

/-- Told by Me, which is in the list. -/
def Sp.hMine (S : Sp) (t : Option Th) (a : An) : Sp × Option Th := if a.k = 3 then S.free t (.fin 132 zr zr) else S.free t (.fin 0 S.lf S.rg)

set_option maxHeartbeats 2000000 in
set_option maxRecDepth 100000 in
theorem mine_dead (b : Nat) (S : Sp) (t : Option Th) (a : An) (hk : a.k = 3) (w : World) (X : SpAt w b S t) : Calls Tryd.prog 43 #[.pointer (some ⟨b, 0, none⟩), .agg (anL a).toArray] w fun e' w' => e' = .returned (.tuple #[]) ∧ SpAt w' b (S.free t (.fin 132 zr zr)).1 (S.free t (.fin 132 zr zr)).2 ∧ Kp [b] w w' := by
  have b1 := (Below.refl w.heap.size w).alloc (Nat.le_refl _) (.cells (anL a).toArray 57)
  have AB := hide (IsB.new w (anL a).toArray 57)
  have X1 := hide (X.below b1)
  have KZ : Hid (Kp [b] w (w.alloc (.cells (anL a).toArray 57))) := Kp.of_below b1
  clear b1 X
  have y0 : (w.alloc (.cells (anL a).toArray 57)).cell? ⟨w.heap.size, 0, none⟩ = some (.int .i64 a.k) := cl_ak AB.out
  rw [hk] at y0
  go_enter Tryd.func43, Tryd.ntmps43
  go_wp2_with fail
  refine (freeFail_any b S t 132 _ X1.out).mono ?_
  rintro e' w6 ⟨rfl, X6, K6⟩
  have F6 := hide X6
  have K7 := hide (KZ.out.tr K6)
  clear X6 K6
  go_wp2
  refine bodyPost_ret (results_none rfl _ _ _) rfl ?_
  exact ⟨rfl, F6.out, K7.out⟩

set_option maxHeartbeats 2000000 in
set_option maxRecDepth 100000 in
theorem mine_ok (b : Nat) (S : Sp) (t : Option Th) (a : An) (hk : ¬a.k = 3) (w : World) (X : SpAt w b S t) : Calls Tryd.prog 43 #[.pointer (some ⟨b, 0, none⟩), .agg (anL a).toArray] w fun e' w' => e' = .returned (.tuple #[]) ∧ SpAt w' b (S.free t (.fin 0 S.lf S.rg)).1 (S.free t (.fin 0 S.lf S.rg)).2 ∧ Kp [b] w w' := by
  have b1 := (Below.refl w.heap.size w).alloc (Nat.le_refl _) (.cells (anL a).toArray 57)
  have AB := hide (IsB.new w (anL a).toArray 57)
  have X1 := hide (X.below b1)
  have KZ : Hid (Kp [b] w (w.alloc (.cells (anL a).toArray 57))) := Kp.of_below b1
  clear b1 X
  have y0 : (w.alloc (.cells (anL a).toArray 57)).cell? ⟨w.heap.size, 0, none⟩ = some (.int .i64 a.k) := cl_ak AB.out
  have e1 : (a.k == 3) = false := by simpa using hk
  generalize hg : a.k = ak at *
  replace hg := hide hg
  go_enter Tryd.func43, Tryd.ntmps43
  go_wp2_with fail
  refine (beside_any b S t 0 _ X1.out).mono ?_
  rintro e' w5 ⟨rfl, hb⟩
  replace X1 := hide (X1.out.below hb)
  replace KZ := hide (KZ.out.bel hb)
  clear hb y0 AB
  go_wp2_with fail
  refine (freeEnd_any b S t 0 S.lf S.rg w5 X1.out).mono ?_
  rintro e' w6 ⟨rfl, X6, K6⟩
  have F6 := hide X6
  have K7 := hide (KZ.out.tr K6)
  clear X6 K6
  go_wp2
  refine bodyPost_end (results_none rfl _ _ _) rfl ?_
  exact ⟨rfl, F6.out, K7.out⟩

theorem mine_any (b : Nat) (S : Sp) (t : Option Th) (a : An) (w : World) (X : SpAt w b S t) : Calls Tryd.prog 43 #[.pointer (some ⟨b, 0, none⟩), .agg (anL a).toArray] w fun e' w' => e' = .returned (.tuple #[]) ∧ SpAt w' b (S.hMine t a).1 (S.hMine t a).2 ∧ Kp [b] w w' := by
  unfold Sp.hMine
  by_cases hk : a.k = 3
  · rw [if_pos hk]
    exact mine_dead b S t a hk w X
  · rw [if_neg hk]
    exact mine_ok b S t a hk w X

/-- Told by Me, which was to leave the list. -/
def Sp.hOut (S : Sp) (t : Option Th) (a : An) : Sp × Option Th := if a.k = 3 then S.free t (.fin 132 zr zr) else S.free t (.fin 131 zr zr)

set_option maxHeartbeats 2000000 in
set_option maxRecDepth 100000 in
theorem out_dead (b : Nat) (S : Sp) (t : Option Th) (a : An) (hk : a.k = 3) (w : World) (X : SpAt w b S t) : Calls Tryd.prog 44 #[.pointer (some ⟨b, 0, none⟩), .agg (anL a).toArray] w fun e' w' => e' = .returned (.tuple #[]) ∧ SpAt w' b (S.free t (.fin 132 zr zr)).1 (S.free t (.fin 132 zr zr)).2 ∧ Kp [b] w w' := by
  have b1 := (Below.refl w.heap.size w).alloc (Nat.le_refl _) (.cells (anL a).toArray 57)
  have AB := hide (IsB.new w (anL a).toArray 57)
  have X1 := hide (X.below b1)
  have KZ : Hid (Kp [b] w (w.alloc (.cells (anL a).toArray 57))) := Kp.of_below b1
  clear b1 X
  have y0 : (w.alloc (.cells (anL a).toArray 57)).cell? ⟨w.heap.size, 0, none⟩ = some (.int .i64 a.k) := cl_ak AB.out
  rw [hk] at y0
  go_enter Tryd.func44, Tryd.ntmps44
  go_wp2_with fail
  refine (freeFail_any b S t 132 _ X1.out).mono ?_
  rintro e' w6 ⟨rfl, X6, K6⟩
  have F6 := hide X6
  have K7 := hide (KZ.out.tr K6)
  clear X6 K6
  go_wp2
  refine bodyPost_end (results_none rfl _ _ _) rfl ?_
  exact ⟨rfl, F6.out, K7.out⟩

set_option maxHeartbeats 2000000 in
set_option maxRecDepth 100000 in
theorem out_ok (b : Nat) (S : Sp) (t : Option Th) (a : An) (hk : ¬a.k = 3) (w : World) (X : SpAt w b S t) : Calls Tryd.prog 44 #[.pointer (some ⟨b, 0, none⟩), .agg (anL a).toArray] w fun e' w' => e' = .returned (.tuple #[]) ∧ SpAt w' b (S.free t (.fin 131 zr zr)).1 (S.free t (.fin 131 zr zr)).2 ∧ Kp [b] w w' := by
  have b1 := (Below.refl w.heap.size w).alloc (Nat.le_refl _) (.cells (anL a).toArray 57)
  have AB := hide (IsB.new w (anL a).toArray 57)
  have X1 := hide (X.below b1)
  have KZ : Hid (Kp [b] w (w.alloc (.cells (anL a).toArray 57))) := Kp.of_below b1
  clear b1 X
  have y0 : (w.alloc (.cells (anL a).toArray 57)).cell? ⟨w.heap.size, 0, none⟩ = some (.int .i64 a.k) := cl_ak AB.out
  have e1 : (a.k == 3) = false := by simpa using hk
  generalize hg : a.k = ak at *
  replace hg := hide hg
  go_enter Tryd.func44, Tryd.ntmps44
  go_wp2_with fail
  refine (freeFail_any b S t 131 _ X1.out).mono ?_
  rintro e' w6 ⟨rfl, X6, K6⟩
  have F6 := hide X6
  have K7 := hide (KZ.out.tr K6)
  clear X6 K6
  go_wp2
  refine bodyPost_end (results_none rfl _ _ _) rfl ?_
  exact ⟨rfl, F6.out, K7.out⟩

theorem out_any (b : Nat) (S : Sp) (t : Option Th) (a : An) (w : World) (X : SpAt w b S t) : Calls Tryd.prog 44 #[.pointer (some ⟨b, 0, none⟩), .agg (anL a).toArray] w fun e' w' => e' = .returned (.tuple #[]) ∧ SpAt w' b (S.hOut t a).1 (S.hOut t a).2 ∧ Kp [b] w w' := by
  unfold Sp.hOut
  by_cases hk : a.k = 3
  · rw [if_pos hk]
    exact out_dead b S t a hk w X
  · rw [if_neg hk]
    exact out_ok b S t a hk w X

end Go.Proofs.YtofmommoeligoaaDoor
