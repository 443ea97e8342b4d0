/- A splice in memory; wait, end, goTo, what comes behind Free, free, freeAndWait, freeAndEnd, freeAndFail, beside. -/
import Derived.Test.YtofmommoeligoaaDoorTA
namespace Go.Proofs.YtofmommoeligoaaDoor
open Go.RowKit Go.Maps Go.ChangeMaps

theorem IsB.ne_t {w : World} {a b : Nat} {x y : Array Value} {s t : TypeId} (h : IsB w a x s) (k : IsB w b y t) (hn : s ≠ t) : a ≠ b := by
  rintro rfl
  have := Option.some.inj (h.symm.trans k)
  injection this with _ h2
  exact hn h2
theorem Kp.tr {S : List Nat} {a b c : World} (h : Kp S a b) (k : Kp S b c) : Kp S a c := h.trans k (fun _ hj => Or.inl hj)
/-- What comes behind Free: a wait; the end; another one is locked. -/
inductive Th where
  | wait
  | fin (e : Int) (l r : Rf)
  | go (x : Rf)
def ThAt (w : World) (v : Value) : Option Th → Prop
  | none => True
  | some .wait => v = .func (.func 89) #[] #[]
  | some (.fin e l r) => ∃ k, v = .func (.func 90) #[] #[.pointer (some ⟨k, 0, none⟩)] ∧ IsB w k (rsL e l r).toArray 51
  | some (.go x) => ∃ k, v = .func (.func 67) #[] #[.pointer (some ⟨k, 0, none⟩)] ∧ IsB w k x.cells 29
theorem ThAt.below {w w' : World} {v : Value} {t : Option Th} (h : ThAt w v t) (hb : Below w.heap.size w w') : ThAt w' v t := by
  rcases t with _ | ⟨⟩ | ⟨⟩ | ⟨⟩
  · trivial
  · exact h
  · obtain ⟨k, e, I⟩ := h; exact ⟨k, e, I.below hb⟩
  · obtain ⟨k, e, I⟩ := h; exact ⟨k, e, I.below hb⟩
theorem ThAt.kp {w w' : World} {v : Value} {t : Option Th} {T : List Nat} (h : ThAt w v t) (hb : Kp T w w') (hT : ∀ k ∈ T, ∀ cs, ¬ IsB w k cs 51 ∧ ¬ IsB w k cs 29) : ThAt w' v t := by
  rcases t with _ | ⟨⟩ | ⟨⟩ | ⟨⟩
  · trivial
  · exact h
  · obtain ⟨k, e, I⟩ := h; exact ⟨k, e, I.kp hb fun hk => (hT k hk _).1 I⟩
  · obtain ⟨k, e, I⟩ := h; exact ⟨k, e, I.kp hb fun hk => (hT k hk _).2 I⟩
/-- A splice lies there. -/
def SpAt (w : World) (b : Nat) (S : Sp) (t : Option Th) : Prop := ∃ v, IsB w b (spL S v).toArray 85 ∧ ThAt w v t
theorem SpAt.lt {w : World} {b : Nat} {S : Sp} {t : Option Th} (h : SpAt w b S t) : b < w.heap.size := by
  obtain ⟨v, I, -⟩ := h
  exact I.lt
theorem SpAt.below {w w' : World} {b : Nat} {S : Sp} {t : Option Th} (h : SpAt w b S t) (hb : Below w.heap.size w w') : SpAt w' b S t := by
  obtain ⟨v, I, T⟩ := h
  exact ⟨v, I.below hb, T.below hb⟩
theorem ThAt.turn {w w' : World} {b : Nat} {S : Sp} {v u : Value} {t : Option Th} (T : ThAt w v t) (I : IsB w b (spL S u).toArray 85) (hk : Kp [b] w w') : ThAt w' v t :=
  T.kp hk fun k hk cs => by
    simp only [List.mem_singleton] at hk
    subst hk
    exact ⟨fun J => IsB.ne_t I J (by decide) rfl, fun J => IsB.ne_t I J (by decide) rfl⟩

/-- It waits. -/
def Sp.wait (S : Sp) : Sp := { S with pl := 10 }
/-- It is over. -/
def Sp.fin (S : Sp) (e : Int) (l r : Rf) : Sp := { S with pl := 11, e := e, rl := l, rr := r }
/-- It locks another one. -/
def Sp.goTo (S : Sp) (x : Rf) : Sp := { S with la := S.lf, hl := true, pl := 1, lf := x }
def Sp.run (S : Sp) : Th → Sp
  | .wait => S.wait
  | .fin e l r => S.fin e l r
  | .go x => S.goTo x
/-- Free, then something. -/
def Sp.free (S : Sp) (t : Option Th) (h : Th) : Sp × Option Th := if S.dd = true then (S.run h, t) else ({ S with pl := 9 }, some h)
theorem load_res {w : World} {b : Nat} {e : Int} {l r : Rf} (I : IsB w b (rsL e l r).toArray 51) : (Instr.loadAt 51 (.pointer (some ⟨b, 0, none⟩))).run Tryd.prog w = .ok (.agg (rsL e l r).toArray) w := load_mid I 0 _ (rsL e l r) _ rfl Tryd.underlying51 rfl (by kernel_rfl)

set_option maxHeartbeats 2000000 in
set_option maxRecDepth 100000 in
theorem wait_any (b : Nat) (S : Sp) (t : Option Th)  (w : World) (X : SpAt w b S t) : Calls Tryd.prog 64 #[.pointer (some ⟨b, 0, none⟩)] w fun e' w' => e' = .returned (.tuple #[]) ∧ SpAt w' b S.wait t ∧ Kp [b] w w' := by
  obtain ⟨v, I, T⟩ := X
  obtain ⟨w2, hs2, I2, k2⟩ := st_at I 10
  have F4 : Hid (SpAt w2 b S.wait t ∧ Kp [b] w w2) := ⟨⟨v, I2, T.turn I k2⟩, k2⟩
  have HS2 := hide hs2
  clear hs2 I2 k2 T I
  go_enter Tryd.func64, Tryd.ntmps64
  go_wp2_with (first | (focus ((with_reducible refine wpList_store_w ?_ 82 (.tmp 4) (.const (.int .i64 10)) ?_ ?_ ?_ HS2.out ?_); rotate_left; rfl; rfl; rfl; rotate_left; rfl)))
  refine bodyPost_end (results_none rfl _ _ _) rfl ?_
  exact ⟨rfl, F4.out⟩

set_option maxHeartbeats 2000000 in
set_option maxRecDepth 100000 in
theorem end_any (b : Nat) (S : Sp) (t : Option Th) (e : Int) (l r : Rf) (w : World) (X : SpAt w b S t) : Calls Tryd.prog 63 #[.pointer (some ⟨b, 0, none⟩), .agg (rsL e l r).toArray] w fun e' w' => e' = .returned (.tuple #[]) ∧ SpAt w' b (S.fin e l r) t ∧ Kp [b] w w' := by
  have mixed : Tryd.prog.follows .mixedOrders = true := by kernel_rfl
  have b1 := ((Below.refl w.heap.size w).alloc (Nat.le_refl _) (.cells (rsL e l r).toArray 51)).drew
  have RB : Hid (IsB ((w.alloc (.cells (rsL e l r).toArray 51)).drew) w.heap.size (rsL e l r).toArray 51) := (IsB.new w (rsL e l r).toArray 51).below ((Below.refl _ _).drew)
  have hlt := X.lt
  obtain ⟨v, I1, T1⟩ := X.below b1
  have KZ : Hid (Kp [b] w ((w.alloc (.cells (rsL e l r).toArray 51)).drew)) := Kp.of_below b1
  clear b1 X
  obtain ⟨w2, hs2, I2, k2⟩ := st_at I1 11
  obtain ⟨w3, hs3, I3, k3⟩ := st_res I2 e l r
  have F4 : Hid (SpAt w3 b (S.fin e l r) t ∧ Kp [b] w w3) := ⟨⟨v, I3, T1.turn I1 (k2.tr k3)⟩, KZ.out.tr (k2.tr k3)⟩
  have RB2 : Hid (IsB w2 w.heap.size (rsL e l r).toArray 51) := RB.out.kp k2 (by simp; omega)
  have HS2 := hide hs2
  have HS3 := hide hs3
  clear hs2 hs3 I2 I3 k2 k3 KZ I1 T1 hlt
  go_enter Tryd.func63, Tryd.ntmps63
  go_wp2_with fail
  refine regionL 8 (fun w' => IsB w' w.heap.size (rsL e l r).toArray 51) mixed RB.out (fun hHeld => ?_)
  generalize ((w.alloc (.cells (rsL e l r).toArray 51)).drew) = WD at *
  refine pickA (v := ?_) 0 (some 4) rfl rfl (by kernel_rfl) (by kernel_rfl) (by kernel_rfl) (by decide) (fun _ _ _ h => h) (by rfl) ?_ (by assumption) ?_
  rotate_left
  · intro w'
    go_simp
    try with_reducible rfl
  try simp only [Act.put, List.setIfInBounds_toArray, List.set_cons_zero, List.set_cons_succ]
  refine pickA (v := ?_) 1 (some 5) rfl rfl (by kernel_rfl) (by kernel_rfl) (by kernel_rfl) (by decide) (fun _ _ _ h => h) (by rfl) ?_ (by assumption) ?_
  rotate_left
  · intro w'
    go_simp
    try with_reducible rfl
  try simp only [Act.put, List.setIfInBounds_toArray, List.set_cons_zero, List.set_cons_succ]
  refine pickL (v := .agg (rsL e l r).toArray) 2 (some 6) rfl rfl (by kernel_rfl) (by kernel_rfl) (by kernel_rfl) (by decide) (by kernel_rfl) (by kernel_rfl) (fun _ _ _ h => h) (by rfl) ?_ (by assumption) ?_
  · intro w' hSw
    have q0 := hSw
    exact exec_load rfl rfl (load_res q0)
  try simp only [Act.put, List.setIfInBounds_toArray, List.set_cons_zero, List.set_cons_succ]
  refine pickA (v := ?_) 3 (some 7) rfl rfl (by kernel_rfl) (by kernel_rfl) (by kernel_rfl) (by decide) (fun _ _ _ h => h) (by rfl) ?_ (by assumption) ?_
  rotate_left
  · intro w'
    go_simp
    try with_reducible rfl
  try simp only [Act.put, List.setIfInBounds_toArray, List.set_cons_zero, List.set_cons_succ]
  refine pickA (v := ?_) 4 (some 8) rfl rfl (by kernel_rfl) (by kernel_rfl) (by kernel_rfl) (by decide) (fun _ _ _ h => h) (by rfl) ?_ (by assumption) ?_
  rotate_left
  · intro w'
    go_simp
    try with_reducible rfl
  try simp only [Act.put, List.setIfInBounds_toArray, List.set_cons_zero, List.set_cons_succ]
  refine oneL (i := 5) (by kernel_rfl) rfl (fun K hK => ?_)
  refine step_store_w rfl 82 (.tmp 8) (.const (.int .i64 11)) rfl rfl rfl HS2.out ?_
  refine hK.out _ _ ?_ ?_
  · exact RB2.out
  clear hK K
  try simp only [Act.put, List.setIfInBounds_toArray]
  clear hHeld
  have hHeld : (fun w' => IsB w' w.heap.size (rsL e l r).toArray 51) w2 := RB2.out
  refine pickA (v := ?_) 6 (some 9) rfl rfl (by kernel_rfl) (by kernel_rfl) (by kernel_rfl) (by decide) (fun _ _ _ h => h) (by rfl) ?_ (by assumption) ?_
  rotate_left
  · intro w'
    go_simp
    try with_reducible rfl
  try simp only [Act.put]
  refine pickA (v := ?_) 7 (some 10) rfl rfl (by kernel_rfl) (by kernel_rfl) (by kernel_rfl) (by decide) (fun _ _ _ h => h) (by rfl) ?_ (by assumption) ?_
  rotate_left
  · intro w'
    go_simp
    try with_reducible rfl
  try simp only [Act.put]
  refine lateL (i := 8) (by kernel_rfl) rfl (by decide) (by kernel_rfl) (fun K hK => ?_)
  refine step_store_w rfl 51 (.tmp 10) (.tmp 6) rfl rfl rfl HS3.out ?_
  refine hK.out _ _ ?_
  clear hK K
  try simp only [Act.put]
  refine doneL (by kernel_rfl) ?_ _
  clear hHeld
  refine bodyPost_end (results_none rfl _ _ _) rfl ?_
  exact ⟨rfl, F4.out⟩

set_option maxHeartbeats 2000000 in
set_option maxRecDepth 100000 in
theorem goTo_any (b : Nat) (S : Sp) (t : Option Th) (x : Rf) (w : World) (X : SpAt w b S t) : Calls Tryd.prog 68 #[.pointer (some ⟨b, 0, none⟩), .agg x.cells] w fun e' w' => e' = .returned (.tuple #[]) ∧ SpAt w' b (S.goTo x) t ∧ Kp [b] w w' := by
  have mixed : Tryd.prog.follows .mixedOrders = true := by kernel_rfl
  have b1 := (Below.refl w.heap.size w).alloc (Nat.le_refl _) (.cells x.cells 29)
  have RB := hide (IsB.new w x.cells 29)
  have hlt := X.lt
  obtain ⟨v, I1, T1⟩ := X.below b1
  have KZ : Hid (Kp [b] w (w.alloc (.cells x.cells 29))) := Kp.of_below b1
  clear b1 X
  have LL := hide (ld_left I1)
  obtain ⟨w2, hs2, I2, k2⟩ := st_last I1 S.lf
  obtain ⟨w3, hs3, I3, k3⟩ := st_has I2 true
  have kd : Kp [b] w3 w3.drew := (Kp.refl _ _).drew
  obtain ⟨w4, hs4, I4, k4⟩ := st_at (I3.below ((Below.refl _ _).drew)) 1
  obtain ⟨w5, hs5, I5, k5⟩ := st_left I4 x
  have F4 : Hid (SpAt w5 b (S.goTo x) t ∧ Kp [b] w w5) := ⟨⟨v, I5, T1.turn I1 (k2.tr (k3.tr (kd.tr (k4.tr k5))))⟩, KZ.out.tr (k2.tr (k3.tr (kd.tr (k4.tr k5))))⟩
  have RB3 : Hid (IsB w3.drew w.heap.size x.cells 29) := RB.out.kp (k2.tr (k3.tr kd)) (by simp; omega)
  have RB4 : Hid (IsB w4 w.heap.size x.cells 29) := RB3.out.kp k4 (by simp; omega)
  have HS2 := hide hs2
  have HS3 := hide hs3
  have HS4 := hide hs4
  have HS5 := hide hs5
  clear hs2 hs3 hs4 hs5 I2 I3 I4 I5 k2 k3 k4 k5 kd KZ I1 T1 hlt RB
  go_enter Tryd.func68, Tryd.ntmps68
  go_wp2_with (first | (focus ((with_reducible refine wpList_load_w ?_ 29 (.tmp 8) ?_ ?_ LL.out ?_); rotate_left; rfl; rfl; rotate_left; rfl)) | (focus ((with_reducible refine wpList_store_w ?_ 29 (.tmp 11) (.tmp 9) ?_ ?_ ?_ HS2.out ?_); rotate_left; rfl; rfl; rfl; rotate_left; rfl)) | (focus ((with_reducible refine wpList_store_w ?_ 4 (.tmp 13) (.const (.bool true)) ?_ ?_ ?_ HS3.out ?_); rotate_left; rfl; rfl; rfl; rotate_left; rfl)))
  refine regionL 8 (fun w' => IsB w' w.heap.size x.cells 29) mixed RB3.out (fun hHeld => ?_)
  generalize w3.drew = WD at *
  refine pickA (v := ?_) 0 (some 14) rfl rfl (by kernel_rfl) (by kernel_rfl) (by kernel_rfl) (by decide) (fun _ _ _ h => h) (by rfl) ?_ (by assumption) ?_
  rotate_left
  · intro w'
    go_simp
    try with_reducible rfl
  try simp only [Act.put, List.setIfInBounds_toArray, List.set_cons_zero, List.set_cons_succ]
  refine pickA (v := ?_) 1 (some 15) rfl rfl (by kernel_rfl) (by kernel_rfl) (by kernel_rfl) (by decide) (fun _ _ _ h => h) (by rfl) ?_ (by assumption) ?_
  rotate_left
  · intro w'
    go_simp
    try with_reducible rfl
  try simp only [Act.put, List.setIfInBounds_toArray, List.set_cons_zero, List.set_cons_succ]
  refine pickL (v := .agg x.cells) 2 (some 16) rfl rfl (by kernel_rfl) (by kernel_rfl) (by kernel_rfl) (by decide) (by kernel_rfl) (by kernel_rfl) (fun _ _ _ h => h) (by rfl) ?_ (by assumption) ?_
  · intro w' hSw
    have q0 := hSw
    exact exec_load rfl rfl (load_ref q0 rfl)
  try simp only [Act.put, List.setIfInBounds_toArray, List.set_cons_zero, List.set_cons_succ]
  refine pickA (v := ?_) 3 (some 17) rfl rfl (by kernel_rfl) (by kernel_rfl) (by kernel_rfl) (by decide) (fun _ _ _ h => h) (by rfl) ?_ (by assumption) ?_
  rotate_left
  · intro w'
    go_simp
    try with_reducible rfl
  try simp only [Act.put, List.setIfInBounds_toArray, List.set_cons_zero, List.set_cons_succ]
  refine pickA (v := ?_) 4 (some 18) rfl rfl (by kernel_rfl) (by kernel_rfl) (by kernel_rfl) (by decide) (fun _ _ _ h => h) (by rfl) ?_ (by assumption) ?_
  rotate_left
  · intro w'
    go_simp
    try with_reducible rfl
  try simp only [Act.put, List.setIfInBounds_toArray, List.set_cons_zero, List.set_cons_succ]
  refine oneL (i := 5) (by kernel_rfl) rfl (fun K hK => ?_)
  refine step_store_w rfl 82 (.tmp 18) (.const (.int .i64 1)) rfl rfl rfl HS4.out ?_
  refine hK.out _ _ ?_ ?_
  · exact RB4.out
  clear hK K
  try simp only [Act.put, List.setIfInBounds_toArray]
  clear hHeld
  have hHeld : (fun w' => IsB w' w.heap.size x.cells 29) w4 := RB4.out
  refine pickA (v := ?_) 6 (some 19) rfl rfl (by kernel_rfl) (by kernel_rfl) (by kernel_rfl) (by decide) (fun _ _ _ h => h) (by rfl) ?_ (by assumption) ?_
  rotate_left
  · intro w'
    go_simp
    try with_reducible rfl
  try simp only [Act.put]
  refine pickA (v := ?_) 7 (some 20) rfl rfl (by kernel_rfl) (by kernel_rfl) (by kernel_rfl) (by decide) (fun _ _ _ h => h) (by rfl) ?_ (by assumption) ?_
  rotate_left
  · intro w'
    go_simp
    try with_reducible rfl
  try simp only [Act.put]
  refine lateL (i := 8) (by kernel_rfl) rfl (by decide) (by kernel_rfl) (fun K hK => ?_)
  refine step_store_w rfl 29 (.tmp 20) (.tmp 16) rfl rfl rfl HS5.out ?_
  refine hK.out _ _ ?_
  clear hK K
  try simp only [Act.put]
  refine doneL (by kernel_rfl) ?_ _
  clear hHeld
  refine bodyPost_end (results_none rfl _ _ _) rfl ?_
  exact ⟨rfl, F4.out⟩

set_option maxHeartbeats 2000000 in
set_option maxRecDepth 100000 in
theorem c_wait (b : Nat) (S : Sp) (t : Option Th)  (w : World) (X : SpAt w b S t) : Calls Tryd.prog 89 #[.pointer (some ⟨b, 0, none⟩)] w fun e' w' => e' = .returned (.tuple #[]) ∧ SpAt w' b S.wait t ∧ Kp [b] w w' := by
  have CT := hide (wait_any b S t w X)
  clear X
  go_enter Tryd.func89, Tryd.ntmps89
  go_wp2_with fail
  refine CT.out.mono ?_
  rintro e' w6 ⟨rfl, X6, K6⟩
  have F6 := hide X6
  have K7 := hide K6
  clear CT X6 K6
  go_wp2
  refine bodyPost_end (results_none rfl _ _ _) rfl ?_
  exact ⟨rfl, F6.out, K7.out⟩

set_option maxHeartbeats 2000000 in
set_option maxRecDepth 100000 in
theorem c_fin (b : Nat) (S : Sp) (t : Option Th) (e : Int) (l r : Rf) (k : Nat) (w : World) (X : SpAt w b S t) (J : IsB w k (rsL e l r).toArray 51) : Calls Tryd.prog 90 #[.pointer (some ⟨b, 0, none⟩), .pointer (some ⟨k, 0, none⟩)] w fun e' w' => e' = .returned (.tuple #[]) ∧ SpAt w' b (S.fin e l r) t ∧ Kp [b] w w' := by
  have LJ := hide (load_res J)
  have CT := hide (end_any b S t e l r w X)
  clear X J
  go_enter Tryd.func90, Tryd.ntmps90
  go_wp2_with (first | (focus ((with_reducible refine wpList_load_w ?_ 51 (.tmp 1) ?_ ?_ LJ.out ?_); rotate_left; rfl; rfl; rotate_left; rfl)))
  refine CT.out.mono ?_
  rintro e' w6 ⟨rfl, X6, K6⟩
  have F6 := hide X6
  have K7 := hide K6
  clear CT X6 K6 LJ
  go_wp2
  refine bodyPost_end (results_none rfl _ _ _) rfl ?_
  exact ⟨rfl, F6.out, K7.out⟩

set_option maxHeartbeats 2000000 in
set_option maxRecDepth 100000 in
theorem c_go (b : Nat) (S : Sp) (t : Option Th) (x : Rf) (k : Nat) (w : World) (X : SpAt w b S t) (J : IsB w k x.cells 29) : Calls Tryd.prog 67 #[.pointer (some ⟨b, 0, none⟩), .pointer (some ⟨k, 0, none⟩)] w fun e' w' => e' = .returned (.tuple #[]) ∧ SpAt w' b (S.goTo x) t ∧ Kp [b] w w' := by
  have LJ := hide (load_ref J rfl)
  have CT := hide (goTo_any b S t x w X)
  clear X J
  go_enter Tryd.func67, Tryd.ntmps67
  go_wp2_with (first | (focus ((with_reducible refine wpList_load_w ?_ 29 (.tmp 1) ?_ ?_ LJ.out ?_); rotate_left; rfl; rfl; rotate_left; rfl)))
  refine CT.out.mono ?_
  rintro e' w6 ⟨rfl, X6, K6⟩
  have F6 := hide X6
  have K7 := hide K6
  clear CT X6 K6 LJ
  go_wp2
  refine bodyPost_end (results_none rfl _ _ _) rfl ?_
  exact ⟨rfl, F6.out, K7.out⟩

theorem e_wait : ∀ args w, (callFunc 89 args).run Tryd.prog w = .ok (.enter 89 args) w := enters_of Tryd.func89 (by kernel_rfl) rfl
theorem e_fin : ∀ args w, (callFunc 90 args).run Tryd.prog w = .ok (.enter 90 args) w := enters_of Tryd.func90 (by kernel_rfl) rfl
theorem e_go : ∀ args w, (callFunc 67 args).run Tryd.prog w = .ok (.enter 67 args) w := enters_of Tryd.func67 (by kernel_rfl) rfl

end Go.Proofs.YtofmommoeligoaaDoor
