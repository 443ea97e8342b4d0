/- One act on both networks: Drop and Swap. -/
import Derived.Test.YtoinjmddmahpkaaZN
namespace Go.Proofs.Ytoinjmddmahpkaa
open Go.RowKit Go.Maps

set_option maxHeartbeats 4000000 in
set_option maxRecDepth 100000 in
theorem step_drop_ok {L : List Nat} {w1 w : World} {b m rb : Nat} {v rv : Value} {ps qs : List Pc} {c rc : Cnt} {k rk : Nat} (hk : k < 1000000) (hr : rk < 1000000) (h : Two L w1 w b m rb v rv ps qs c rc k rk) (i : Nat) (hi : i < ps.length) (hj : i < qs.length) (fa : Bool) (fn : Int) (ta : Bool) (tn : Int) (a : Option Addr) (len cap : Nat) (KK : Int) :
    Calls Try.prog 9 #[.pointer (some ⟨b, 0, none⟩), .pointer (some ⟨rb, 0, none⟩), .agg #[.int .i64 4, .bool fa, .int .i64 fn, .bool ta, .int .i64 tn, .slice a len cap, .int .i64 (i : Int), .int .i64 KK]] w fun e w' => e = .returned (.bool true) ∧ ∃ v' rv', Two L w1 w' b m rb v' rv' (ps.eraseIdx i) (qs.eraseIdx i) { c with d := c.d + 1 } { rc with d := rc.d + 1 } (k + 1) (rk + 1) := by
  have mixed : Try.prog.follows .mixedOrders = true := by kernel_rfl
  have bel := ((Below.refl w.heap.size w).alloc (Nat.le_refl _) (.cells #[.int .i64 4, .bool fa, .int .i64 fn, .bool ta, .int .i64 tn, .slice a len cap, .int .i64 (i : Int), .int .i64 KK] 37)).drew
  have O0 := hide ((IsB.new w #[.int .i64 4, .bool fa, .int .i64 fn, .bool ta, .int .i64 tn, .slice a len cap, .int .i64 (i : Int), .int .i64 KK] 37).below ((Below.refl _ _).drew))
  have hA1 : Hid (w.heap.size ∉ foot b m v) := fun hm => by have := h.ns.lt _ hm; omega
  have hA2 : Hid (w.heap.size ∉ rfoot rb rv) := fun hm => by have := h.rs.lt _ hm; omega
  have H0 := hide (h.bel bel)
  replace bel := hide bel
  clear h
  go_enter Try.func9, Try.ntmps9
  go_wp2
  generalize w.heap.size = A at O0 hA1 hA2 ⊢
  generalize w.alloc (.cells #[.int .i64 4, .bool fa, .int .i64 fn, .bool ta, .int .i64 tn, .slice a len cap, .int .i64 (i : Int), .int .i64 KK] 37) = W0 at *
  refine regionL 10 (fun w' => w'.cell? ⟨A, 6, none⟩ = some (.int .i64 (i : Int))) mixed (O0.out.cell 6) (fun hHeld => ?_)
  refine pickA (v := ?_) 0 (some 88) rfl rfl (by kernel_rfl) (by kernel_rfl) (by kernel_rfl) (by decide) (fun _ _ _ h => h) (by rfl) ?_ (by assumption) ?_
  rotate_left
  · intro w'
    go_simp
    try with_reducible rfl
  try simp only [Act.put, List.setIfInBounds_toArray, List.set_cons_zero, List.set_cons_succ]
  refine pickA (v := ?_) 1 (some 89) rfl rfl (by kernel_rfl) (by kernel_rfl) (by kernel_rfl) (by decide) (fun _ _ _ h => h) (by rfl) ?_ (by assumption) ?_
  rotate_left
  · intro w'
    go_simp
    try with_reducible rfl
  try simp only [Act.put, List.setIfInBounds_toArray, List.set_cons_zero, List.set_cons_succ]
  refine pickL (v := ?_) 2 (some 90) rfl rfl (by kernel_rfl) (by kernel_rfl) (by kernel_rfl) (by decide) (by kernel_rfl) (by kernel_rfl) (fun _ _ _ h => h) (by rfl) ?_ (by assumption) ?_
  rotate_left
  · intro w' hSw
    go_simp
    try with_reducible rfl
  try simp only [Act.put, List.setIfInBounds_toArray, List.set_cons_zero, List.set_cons_succ]
  refine pickA (v := ?_) 4 (some 92) rfl rfl (by kernel_rfl) (by kernel_rfl) (by kernel_rfl) (by decide) (fun _ _ _ h => h) (by rfl) ?_ (by assumption) ?_
  rotate_left
  · intro w'
    go_simp
    try with_reducible rfl
  try simp only [Act.put, List.setIfInBounds_toArray, List.set_cons_zero, List.set_cons_succ]
  refine pickA (v := ?_) 5 (some 93) rfl rfl (by kernel_rfl) (by kernel_rfl) (by kernel_rfl) (by decide) (fun _ _ _ h => h) (by rfl) ?_ (by assumption) ?_
  rotate_left
  · intro w'
    go_simp
    try with_reducible rfl
  try simp only [Act.put, List.setIfInBounds_toArray, List.set_cons_zero, List.set_cons_succ]
  refine pickL (v := ?_) 6 (some 94) rfl rfl (by kernel_rfl) (by kernel_rfl) (by kernel_rfl) (by decide) (by kernel_rfl) (by kernel_rfl) (fun _ _ _ h => h) (by rfl) ?_ (by assumption) ?_
  rotate_left
  · intro w' hSw
    go_simp
    try with_reducible rfl
  try simp only [Act.put, List.setIfInBounds_toArray, List.set_cons_zero, List.set_cons_succ]
  refine oneL (i := 3) (by kernel_rfl) rfl (fun K hK => ?_)
  go_simp
  refine (drop_ok b m v ps c k hk _ H0.out.ns i hi).mono ?_; rintro e W1 ⟨rfl, v', hx⟩
  have O1 := hide (O0.out.kp hx.kp hA1.out)
  have H1 := hide (H0.out.callN hx)
  clear hx H0 O0 hA1
  refine hK.out _ _ ?_ ?_
  · exact O1.out.cell 6
  clear hK K
  try simp only [Act.put, List.setIfInBounds_toArray, List.set_cons_zero, List.set_cons_succ]
  clear hHeld
  have hHeld : (fun w' => w'.cell? ⟨A, 6, none⟩ = some (.int .i64 (i : Int))) W1 := (O1.out.cell 6)
  refine oneL (i := 7) (by kernel_rfl) rfl (fun K hK => ?_)
  go_simp
  refine (rdrop_ok rb rv qs rc rk hr _ H1.out.rs i hj).mono ?_; rintro e W2 ⟨rfl, rv', hx⟩
  have O2 := hide (O1.out.kp hx.kp hA2.out)
  have H2 := hide (H1.out.callR hx)
  clear hx H1 O1 hA2
  refine hK.out _ _ ?_ ?_
  · exact O2.out.cell 6
  clear hK K
  try simp only [Act.put, List.setIfInBounds_toArray, List.set_cons_zero, List.set_cons_succ]
  clear hHeld
  have hHeld : (fun w' => w'.cell? ⟨A, 6, none⟩ = some (.int .i64 (i : Int))) W2 := (O2.out.cell 6)
  refine pickA (v := ?_) 8 (some 96) rfl rfl (by kernel_rfl) (by kernel_rfl) (by kernel_rfl) (by decide) (fun _ _ _ h => h) (by rfl) ?_ (by assumption) ?_
  rotate_left
  · intro w'
    go_simp
    try with_reducible rfl
  try simp only [Act.put, List.setIfInBounds_toArray, List.set_cons_zero, List.set_cons_succ]
  refine pickA (v := ?_) 9 (some 6) rfl rfl (by kernel_rfl) (by kernel_rfl) (by kernel_rfl) (by decide) (fun _ _ _ h => h) (by rfl) ?_ (by assumption) ?_
  rotate_left
  · intro w'
    go_simp
    try with_reducible rfl
  try simp only [Act.put, List.setIfInBounds_toArray, List.set_cons_zero, List.set_cons_succ]
  refine doneL (by kernel_rfl) ?_ _
  clear hHeld
  go_wp2
  go_ret
  exact ⟨rfl, v', rv', H2.out⟩

set_option maxHeartbeats 4000000 in
set_option maxRecDepth 100000 in
theorem step_drop_bad {L : List Nat} {w1 w : World} {b m rb : Nat} {v rv : Value} {ps qs : List Pc} {c rc : Cnt} {k rk : Nat} (h : Two L w1 w b m rb v rv ps qs c rc k rk) (I : Int) (hi : inR ps.length I = false) (hj : inR qs.length I = false) (fa : Bool) (fn : Int) (ta : Bool) (tn : Int) (a : Option Addr) (len cap : Nat) (KK : Int) :
    Calls Try.prog 9 #[.pointer (some ⟨b, 0, none⟩), .pointer (some ⟨rb, 0, none⟩), .agg #[.int .i64 4, .bool fa, .int .i64 fn, .bool ta, .int .i64 tn, .slice a len cap, .int .i64 I, .int .i64 KK]] w fun e w' => e = .returned (.bool true) ∧ Below w.heap.size w w' := by
  have mixed : Try.prog.follows .mixedOrders = true := by kernel_rfl
  have bel := ((Below.refl w.heap.size w).alloc (Nat.le_refl _) (.cells #[.int .i64 4, .bool fa, .int .i64 fn, .bool ta, .int .i64 tn, .slice a len cap, .int .i64 I, .int .i64 KK] 37)).drew
  have O0 := hide ((IsB.new w #[.int .i64 4, .bool fa, .int .i64 fn, .bool ta, .int .i64 tn, .slice a len cap, .int .i64 I, .int .i64 KK] 37).below ((Below.refl _ _).drew))
  have hA1 : Hid (w.heap.size ∉ foot b m v) := fun hm => by have := h.ns.lt _ hm; omega
  have hA2 : Hid (w.heap.size ∉ rfoot rb rv) := fun hm => by have := h.rs.lt _ hm; omega
  have H0 := hide (h.bel bel)
  replace bel := hide bel
  clear h
  go_enter Try.func9, Try.ntmps9
  go_wp2
  generalize w.heap.size = A at O0 hA1 hA2 ⊢
  generalize w.alloc (.cells #[.int .i64 4, .bool fa, .int .i64 fn, .bool ta, .int .i64 tn, .slice a len cap, .int .i64 I, .int .i64 KK] 37) = W0 at *
  refine regionL 10 (fun w' => w'.cell? ⟨A, 6, none⟩ = some (.int .i64 I)) mixed (O0.out.cell 6) (fun hHeld => ?_)
  refine pickA (v := ?_) 0 (some 88) rfl rfl (by kernel_rfl) (by kernel_rfl) (by kernel_rfl) (by decide) (fun _ _ _ h => h) (by rfl) ?_ (by assumption) ?_
  rotate_left
  · intro w'
    go_simp
    try with_reducible rfl
  try simp only [Act.put, List.setIfInBounds_toArray, List.set_cons_zero, List.set_cons_succ]
  refine pickA (v := ?_) 1 (some 89) rfl rfl (by kernel_rfl) (by kernel_rfl) (by kernel_rfl) (by decide) (fun _ _ _ h => h) (by rfl) ?_ (by assumption) ?_
  rotate_left
  · intro w'
    go_simp
    try with_reducible rfl
  try simp only [Act.put, List.setIfInBounds_toArray, List.set_cons_zero, List.set_cons_succ]
  refine pickL (v := ?_) 2 (some 90) rfl rfl (by kernel_rfl) (by kernel_rfl) (by kernel_rfl) (by decide) (by kernel_rfl) (by kernel_rfl) (fun _ _ _ h => h) (by rfl) ?_ (by assumption) ?_
  rotate_left
  · intro w' hSw
    go_simp
    try with_reducible rfl
  try simp only [Act.put, List.setIfInBounds_toArray, List.set_cons_zero, List.set_cons_succ]
  refine pickA (v := ?_) 4 (some 92) rfl rfl (by kernel_rfl) (by kernel_rfl) (by kernel_rfl) (by decide) (fun _ _ _ h => h) (by rfl) ?_ (by assumption) ?_
  rotate_left
  · intro w'
    go_simp
    try with_reducible rfl
  try simp only [Act.put, List.setIfInBounds_toArray, List.set_cons_zero, List.set_cons_succ]
  refine pickA (v := ?_) 5 (some 93) rfl rfl (by kernel_rfl) (by kernel_rfl) (by kernel_rfl) (by decide) (fun _ _ _ h => h) (by rfl) ?_ (by assumption) ?_
  rotate_left
  · intro w'
    go_simp
    try with_reducible rfl
  try simp only [Act.put, List.setIfInBounds_toArray, List.set_cons_zero, List.set_cons_succ]
  refine pickL (v := ?_) 6 (some 94) rfl rfl (by kernel_rfl) (by kernel_rfl) (by kernel_rfl) (by decide) (by kernel_rfl) (by kernel_rfl) (fun _ _ _ h => h) (by rfl) ?_ (by assumption) ?_
  rotate_left
  · intro w' hSw
    go_simp
    try with_reducible rfl
  try simp only [Act.put, List.setIfInBounds_toArray, List.set_cons_zero, List.set_cons_succ]
  refine oneL (i := 3) (by kernel_rfl) rfl (fun K hK => ?_)
  go_simp
  refine (drop_bad b m v ps c k _ H0.out.ns I hi).mono ?_; rintro e W1 ⟨rfl, hb⟩
  have O1 := hide (O0.out.below hb)
  have H1 := hide (H0.out.bel hb)
  have B1 := hide (bel.out.trans (hb.mono bel.out.size))
  clear hb H0 O0 hA1 bel
  refine hK.out _ _ ?_ ?_
  · exact O1.out.cell 6
  clear hK K
  try simp only [Act.put, List.setIfInBounds_toArray, List.set_cons_zero, List.set_cons_succ]
  clear hHeld
  have hHeld : (fun w' => w'.cell? ⟨A, 6, none⟩ = some (.int .i64 I)) W1 := (O1.out.cell 6)
  refine oneL (i := 7) (by kernel_rfl) rfl (fun K hK => ?_)
  go_simp
  refine (rdrop_bad rb rv qs rc rk _ H1.out.rs I hj).mono ?_; rintro e W2 ⟨rfl, hw⟩
  subst hw
  have O2 := hide O1.out
  refine hK.out _ _ ?_ ?_
  · exact O2.out.cell 6
  clear hK K
  try simp only [Act.put, List.setIfInBounds_toArray, List.set_cons_zero, List.set_cons_succ]
  clear hHeld
  have hHeld : (fun w' => w'.cell? ⟨A, 6, none⟩ = some (.int .i64 I)) W2 := (O2.out.cell 6)
  refine pickA (v := ?_) 8 (some 96) rfl rfl (by kernel_rfl) (by kernel_rfl) (by kernel_rfl) (by decide) (fun _ _ _ h => h) (by rfl) ?_ (by assumption) ?_
  rotate_left
  · intro w'
    go_simp
    try with_reducible rfl
  try simp only [Act.put, List.setIfInBounds_toArray, List.set_cons_zero, List.set_cons_succ]
  refine pickA (v := ?_) 9 (some 6) rfl rfl (by kernel_rfl) (by kernel_rfl) (by kernel_rfl) (by decide) (fun _ _ _ h => h) (by rfl) ?_ (by assumption) ?_
  rotate_left
  · intro w'
    go_simp
    try with_reducible rfl
  try simp only [Act.put, List.setIfInBounds_toArray, List.set_cons_zero, List.set_cons_succ]
  refine doneL (by kernel_rfl) ?_ _
  clear hHeld
  go_wp2
  go_ret
  exact ⟨rfl, B1.out⟩

set_option maxHeartbeats 4000000 in
set_option maxRecDepth 100000 in
theorem step_swap_ok {L : List Nat} {w1 w : World} {b m rb : Nat} {v rv : Value} {ps qs : List Pc} {c rc : Cnt} {k rk : Nat} (h : Two L w1 w b m rb v rv ps qs c rc k rk) (i j : Nat) (hi : i < ps.length) (hj : j < ps.length) (hi2 : i < qs.length) (hj2 : j < qs.length) (fa : Bool) (fn : Int) (ta : Bool) (tn : Int) (a : Option Addr) (len cap : Nat) :
    Calls Try.prog 9 #[.pointer (some ⟨b, 0, none⟩), .pointer (some ⟨rb, 0, none⟩), .agg #[.int .i64 5, .bool fa, .int .i64 fn, .bool ta, .int .i64 tn, .slice a len cap, .int .i64 (i : Int), .int .i64 (j : Int)]] w fun e w' => e = .returned (.bool true) ∧ ∃ v' rv', Two L w1 w' b m rb v' rv' (swp ps i j) (swp qs i j) c rc k rk := by
  have mixed : Try.prog.follows .mixedOrders = true := by kernel_rfl
  have bel := ((Below.refl w.heap.size w).alloc (Nat.le_refl _) (.cells #[.int .i64 5, .bool fa, .int .i64 fn, .bool ta, .int .i64 tn, .slice a len cap, .int .i64 (i : Int), .int .i64 (j : Int)] 37)).drew
  have O0 := hide ((IsB.new w #[.int .i64 5, .bool fa, .int .i64 fn, .bool ta, .int .i64 tn, .slice a len cap, .int .i64 (i : Int), .int .i64 (j : Int)] 37).below ((Below.refl _ _).drew))
  have hA1 : Hid (w.heap.size ∉ foot b m v) := fun hm => by have := h.ns.lt _ hm; omega
  have hA2 : Hid (w.heap.size ∉ rfoot rb rv) := fun hm => by have := h.rs.lt _ hm; omega
  have H0 := hide (h.bel bel)
  replace bel := hide bel
  clear h
  go_enter Try.func9, Try.ntmps9
  go_wp2
  generalize w.heap.size = A at O0 hA1 hA2 ⊢
  generalize w.alloc (.cells #[.int .i64 5, .bool fa, .int .i64 fn, .bool ta, .int .i64 tn, .slice a len cap, .int .i64 (i : Int), .int .i64 (j : Int)] 37) = W0 at *
  refine regionL 14 (fun w' => w'.cell? ⟨A, 6, none⟩ = some (.int .i64 (i : Int)) ∧ w'.cell? ⟨A, 7, none⟩ = some (.int .i64 (j : Int))) mixed ⟨O0.out.cell 6, O0.out.cell 7⟩ (fun hHeld => ?_)
  refine pickA (v := ?_) 0 (some 99) rfl rfl (by kernel_rfl) (by kernel_rfl) (by kernel_rfl) (by decide) (fun _ _ _ h => h) (by rfl) ?_ (by assumption) ?_
  rotate_left
  · intro w'
    go_simp
    try with_reducible rfl
  try simp only [Act.put, List.setIfInBounds_toArray, List.set_cons_zero, List.set_cons_succ]
  refine pickA (v := ?_) 1 (some 100) rfl rfl (by kernel_rfl) (by kernel_rfl) (by kernel_rfl) (by decide) (fun _ _ _ h => h) (by rfl) ?_ (by assumption) ?_
  rotate_left
  · intro w'
    go_simp
    try with_reducible rfl
  try simp only [Act.put, List.setIfInBounds_toArray, List.set_cons_zero, List.set_cons_succ]
  refine pickL (v := ?_) 2 (some 101) rfl rfl (by kernel_rfl) (by kernel_rfl) (by kernel_rfl) (by decide) (by kernel_rfl) (by kernel_rfl) (fun _ _ _ h => h) (by rfl) ?_ (by assumption) ?_
  rotate_left
  · intro w' hSw
    obtain ⟨q6, q7⟩ := hSw
    go_simp
    try with_reducible rfl
  try simp only [Act.put, List.setIfInBounds_toArray, List.set_cons_zero, List.set_cons_succ]
  refine pickA (v := ?_) 3 (some 102) rfl rfl (by kernel_rfl) (by kernel_rfl) (by kernel_rfl) (by decide) (fun _ _ _ h => h) (by rfl) ?_ (by assumption) ?_
  rotate_left
  · intro w'
    go_simp
    try with_reducible rfl
  try simp only [Act.put, List.setIfInBounds_toArray, List.set_cons_zero, List.set_cons_succ]
  refine pickL (v := ?_) 4 (some 103) rfl rfl (by kernel_rfl) (by kernel_rfl) (by kernel_rfl) (by decide) (by kernel_rfl) (by kernel_rfl) (fun _ _ _ h => h) (by rfl) ?_ (by assumption) ?_
  rotate_left
  · intro w' hSw
    obtain ⟨q6, q7⟩ := hSw
    go_simp
    try with_reducible rfl
  try simp only [Act.put, List.setIfInBounds_toArray, List.set_cons_zero, List.set_cons_succ]
  refine pickA (v := ?_) 6 (some 105) rfl rfl (by kernel_rfl) (by kernel_rfl) (by kernel_rfl) (by decide) (fun _ _ _ h => h) (by rfl) ?_ (by assumption) ?_
  rotate_left
  · intro w'
    go_simp
    try with_reducible rfl
  try simp only [Act.put, List.setIfInBounds_toArray, List.set_cons_zero, List.set_cons_succ]
  refine pickA (v := ?_) 7 (some 106) rfl rfl (by kernel_rfl) (by kernel_rfl) (by kernel_rfl) (by decide) (fun _ _ _ h => h) (by rfl) ?_ (by assumption) ?_
  rotate_left
  · intro w'
    go_simp
    try with_reducible rfl
  try simp only [Act.put, List.setIfInBounds_toArray, List.set_cons_zero, List.set_cons_succ]
  refine pickL (v := ?_) 8 (some 107) rfl rfl (by kernel_rfl) (by kernel_rfl) (by kernel_rfl) (by decide) (by kernel_rfl) (by kernel_rfl) (fun _ _ _ h => h) (by rfl) ?_ (by assumption) ?_
  rotate_left
  · intro w' hSw
    obtain ⟨q6, q7⟩ := hSw
    go_simp
    try with_reducible rfl
  try simp only [Act.put, List.setIfInBounds_toArray, List.set_cons_zero, List.set_cons_succ]
  refine pickA (v := ?_) 9 (some 108) rfl rfl (by kernel_rfl) (by kernel_rfl) (by kernel_rfl) (by decide) (fun _ _ _ h => h) (by rfl) ?_ (by assumption) ?_
  rotate_left
  · intro w'
    go_simp
    try with_reducible rfl
  try simp only [Act.put, List.setIfInBounds_toArray, List.set_cons_zero, List.set_cons_succ]
  refine pickL (v := ?_) 10 (some 109) rfl rfl (by kernel_rfl) (by kernel_rfl) (by kernel_rfl) (by decide) (by kernel_rfl) (by kernel_rfl) (fun _ _ _ h => h) (by rfl) ?_ (by assumption) ?_
  rotate_left
  · intro w' hSw
    obtain ⟨q6, q7⟩ := hSw
    go_simp
    try with_reducible rfl
  try simp only [Act.put, List.setIfInBounds_toArray, List.set_cons_zero, List.set_cons_succ]
  refine oneL (i := 5) (by kernel_rfl) rfl (fun K hK => ?_)
  go_simp
  refine (swap_ok b m v ps c k _ H0.out.ns i j hi hj).mono ?_; rintro e W1 ⟨rfl, hx⟩
  have O1 := hide (O0.out.kp hx.kp hA1.out)
  have H1 := hide (H0.out.callN hx)
  clear hx H0 O0 hA1
  refine hK.out _ _ ?_ ?_
  · exact ⟨O1.out.cell 6, O1.out.cell 7⟩
  clear hK K
  try simp only [Act.put, List.setIfInBounds_toArray, List.set_cons_zero, List.set_cons_succ]
  clear hHeld
  have hHeld : (fun w' => w'.cell? ⟨A, 6, none⟩ = some (.int .i64 (i : Int)) ∧ w'.cell? ⟨A, 7, none⟩ = some (.int .i64 (j : Int))) W1 := ⟨O1.out.cell 6, O1.out.cell 7⟩
  refine oneL (i := 11) (by kernel_rfl) rfl (fun K hK => ?_)
  go_simp
  refine (rswap_ok rb rv qs rc rk _ H1.out.rs i j hi2 hj2).mono ?_; rintro e W2 ⟨rfl, rv', hx⟩
  have O2 := hide (O1.out.kp hx.kp hA2.out)
  have H2 := hide (H1.out.callR hx)
  clear hx H1 O1 hA2
  refine hK.out _ _ ?_ ?_
  · exact ⟨O2.out.cell 6, O2.out.cell 7⟩
  clear hK K
  try simp only [Act.put, List.setIfInBounds_toArray, List.set_cons_zero, List.set_cons_succ]
  clear hHeld
  have hHeld : (fun w' => w'.cell? ⟨A, 6, none⟩ = some (.int .i64 (i : Int)) ∧ w'.cell? ⟨A, 7, none⟩ = some (.int .i64 (j : Int))) W2 := ⟨O2.out.cell 6, O2.out.cell 7⟩
  refine pickA (v := ?_) 12 (some 111) rfl rfl (by kernel_rfl) (by kernel_rfl) (by kernel_rfl) (by decide) (fun _ _ _ h => h) (by rfl) ?_ (by assumption) ?_
  rotate_left
  · intro w'
    go_simp
    try with_reducible rfl
  try simp only [Act.put, List.setIfInBounds_toArray, List.set_cons_zero, List.set_cons_succ]
  refine pickA (v := ?_) 13 (some 6) rfl rfl (by kernel_rfl) (by kernel_rfl) (by kernel_rfl) (by decide) (fun _ _ _ h => h) (by rfl) ?_ (by assumption) ?_
  rotate_left
  · intro w'
    go_simp
    try with_reducible rfl
  try simp only [Act.put, List.setIfInBounds_toArray, List.set_cons_zero, List.set_cons_succ]
  refine doneL (by kernel_rfl) ?_ _
  clear hHeld
  go_wp2
  go_ret
  exact ⟨rfl, v, rv', H2.out⟩

set_option maxHeartbeats 4000000 in
set_option maxRecDepth 100000 in
theorem step_swap_bad {L : List Nat} {w1 w : World} {b m rb : Nat} {v rv : Value} {ps qs : List Pc} {c rc : Cnt} {k rk : Nat} (h : Two L w1 w b m rb v rv ps qs c rc k rk) (I KK : Int) (hi : (inR ps.length I && inR ps.length KK) = false) (hj : (inR qs.length I && inR qs.length KK) = false) (fa : Bool) (fn : Int) (ta : Bool) (tn : Int) (a : Option Addr) (len cap : Nat) :
    Calls Try.prog 9 #[.pointer (some ⟨b, 0, none⟩), .pointer (some ⟨rb, 0, none⟩), .agg #[.int .i64 5, .bool fa, .int .i64 fn, .bool ta, .int .i64 tn, .slice a len cap, .int .i64 I, .int .i64 KK]] w fun e w' => e = .returned (.bool true) ∧ Below w.heap.size w w' := by
  have mixed : Try.prog.follows .mixedOrders = true := by kernel_rfl
  have bel := ((Below.refl w.heap.size w).alloc (Nat.le_refl _) (.cells #[.int .i64 5, .bool fa, .int .i64 fn, .bool ta, .int .i64 tn, .slice a len cap, .int .i64 I, .int .i64 KK] 37)).drew
  have O0 := hide ((IsB.new w #[.int .i64 5, .bool fa, .int .i64 fn, .bool ta, .int .i64 tn, .slice a len cap, .int .i64 I, .int .i64 KK] 37).below ((Below.refl _ _).drew))
  have hA1 : Hid (w.heap.size ∉ foot b m v) := fun hm => by have := h.ns.lt _ hm; omega
  have hA2 : Hid (w.heap.size ∉ rfoot rb rv) := fun hm => by have := h.rs.lt _ hm; omega
  have H0 := hide (h.bel bel)
  replace bel := hide bel
  clear h
  go_enter Try.func9, Try.ntmps9
  go_wp2
  generalize w.heap.size = A at O0 hA1 hA2 ⊢
  generalize w.alloc (.cells #[.int .i64 5, .bool fa, .int .i64 fn, .bool ta, .int .i64 tn, .slice a len cap, .int .i64 I, .int .i64 KK] 37) = W0 at *
  refine regionL 14 (fun w' => w'.cell? ⟨A, 6, none⟩ = some (.int .i64 I) ∧ w'.cell? ⟨A, 7, none⟩ = some (.int .i64 KK)) mixed ⟨O0.out.cell 6, O0.out.cell 7⟩ (fun hHeld => ?_)
  refine pickA (v := ?_) 0 (some 99) rfl rfl (by kernel_rfl) (by kernel_rfl) (by kernel_rfl) (by decide) (fun _ _ _ h => h) (by rfl) ?_ (by assumption) ?_
  rotate_left
  · intro w'
    go_simp
    try with_reducible rfl
  try simp only [Act.put, List.setIfInBounds_toArray, List.set_cons_zero, List.set_cons_succ]
  refine pickA (v := ?_) 1 (some 100) rfl rfl (by kernel_rfl) (by kernel_rfl) (by kernel_rfl) (by decide) (fun _ _ _ h => h) (by rfl) ?_ (by assumption) ?_
  rotate_left
  · intro w'
    go_simp
    try with_reducible rfl
  try simp only [Act.put, List.setIfInBounds_toArray, List.set_cons_zero, List.set_cons_succ]
  refine pickL (v := ?_) 2 (some 101) rfl rfl (by kernel_rfl) (by kernel_rfl) (by kernel_rfl) (by decide) (by kernel_rfl) (by kernel_rfl) (fun _ _ _ h => h) (by rfl) ?_ (by assumption) ?_
  rotate_left
  · intro w' hSw
    obtain ⟨q6, q7⟩ := hSw
    go_simp
    try with_reducible rfl
  try simp only [Act.put, List.setIfInBounds_toArray, List.set_cons_zero, List.set_cons_succ]
  refine pickA (v := ?_) 3 (some 102) rfl rfl (by kernel_rfl) (by kernel_rfl) (by kernel_rfl) (by decide) (fun _ _ _ h => h) (by rfl) ?_ (by assumption) ?_
  rotate_left
  · intro w'
    go_simp
    try with_reducible rfl
  try simp only [Act.put, List.setIfInBounds_toArray, List.set_cons_zero, List.set_cons_succ]
  refine pickL (v := ?_) 4 (some 103) rfl rfl (by kernel_rfl) (by kernel_rfl) (by kernel_rfl) (by decide) (by kernel_rfl) (by kernel_rfl) (fun _ _ _ h => h) (by rfl) ?_ (by assumption) ?_
  rotate_left
  · intro w' hSw
    obtain ⟨q6, q7⟩ := hSw
    go_simp
    try with_reducible rfl
  try simp only [Act.put, List.setIfInBounds_toArray, List.set_cons_zero, List.set_cons_succ]
  refine pickA (v := ?_) 6 (some 105) rfl rfl (by kernel_rfl) (by kernel_rfl) (by kernel_rfl) (by decide) (fun _ _ _ h => h) (by rfl) ?_ (by assumption) ?_
  rotate_left
  · intro w'
    go_simp
    try with_reducible rfl
  try simp only [Act.put, List.setIfInBounds_toArray, List.set_cons_zero, List.set_cons_succ]
  refine pickA (v := ?_) 7 (some 106) rfl rfl (by kernel_rfl) (by kernel_rfl) (by kernel_rfl) (by decide) (fun _ _ _ h => h) (by rfl) ?_ (by assumption) ?_
  rotate_left
  · intro w'
    go_simp
    try with_reducible rfl
  try simp only [Act.put, List.setIfInBounds_toArray, List.set_cons_zero, List.set_cons_succ]
  refine pickL (v := ?_) 8 (some 107) rfl rfl (by kernel_rfl) (by kernel_rfl) (by kernel_rfl) (by decide) (by kernel_rfl) (by kernel_rfl) (fun _ _ _ h => h) (by rfl) ?_ (by assumption) ?_
  rotate_left
  · intro w' hSw
    obtain ⟨q6, q7⟩ := hSw
    go_simp
    try with_reducible rfl
  try simp only [Act.put, List.setIfInBounds_toArray, List.set_cons_zero, List.set_cons_succ]
  refine pickA (v := ?_) 9 (some 108) rfl rfl (by kernel_rfl) (by kernel_rfl) (by kernel_rfl) (by decide) (fun _ _ _ h => h) (by rfl) ?_ (by assumption) ?_
  rotate_left
  · intro w'
    go_simp
    try with_reducible rfl
  try simp only [Act.put, List.setIfInBounds_toArray, List.set_cons_zero, List.set_cons_succ]
  refine pickL (v := ?_) 10 (some 109) rfl rfl (by kernel_rfl) (by kernel_rfl) (by kernel_rfl) (by decide) (by kernel_rfl) (by kernel_rfl) (fun _ _ _ h => h) (by rfl) ?_ (by assumption) ?_
  rotate_left
  · intro w' hSw
    obtain ⟨q6, q7⟩ := hSw
    go_simp
    try with_reducible rfl
  try simp only [Act.put, List.setIfInBounds_toArray, List.set_cons_zero, List.set_cons_succ]
  refine oneL (i := 5) (by kernel_rfl) rfl (fun K hK => ?_)
  go_simp
  refine (swap_bad b m v ps c k _ H0.out.ns I KK hi).mono ?_; rintro e W1 ⟨rfl, hb⟩
  have O1 := hide (O0.out.below hb)
  have H1 := hide (H0.out.bel hb)
  have B1 := hide (bel.out.trans (hb.mono bel.out.size))
  clear hb H0 O0 hA1 bel
  refine hK.out _ _ ?_ ?_
  · exact ⟨O1.out.cell 6, O1.out.cell 7⟩
  clear hK K
  try simp only [Act.put, List.setIfInBounds_toArray, List.set_cons_zero, List.set_cons_succ]
  clear hHeld
  have hHeld : (fun w' => w'.cell? ⟨A, 6, none⟩ = some (.int .i64 I) ∧ w'.cell? ⟨A, 7, none⟩ = some (.int .i64 KK)) W1 := ⟨O1.out.cell 6, O1.out.cell 7⟩
  refine oneL (i := 11) (by kernel_rfl) rfl (fun K hK => ?_)
  go_simp
  refine (rswap_bad rb rv qs rc rk _ H1.out.rs I KK hj).mono ?_; rintro e W2 ⟨rfl, hw⟩
  subst hw
  have O2 := hide O1.out
  refine hK.out _ _ ?_ ?_
  · exact ⟨O2.out.cell 6, O2.out.cell 7⟩
  clear hK K
  try simp only [Act.put, List.setIfInBounds_toArray, List.set_cons_zero, List.set_cons_succ]
  clear hHeld
  have hHeld : (fun w' => w'.cell? ⟨A, 6, none⟩ = some (.int .i64 I) ∧ w'.cell? ⟨A, 7, none⟩ = some (.int .i64 KK)) W2 := ⟨O2.out.cell 6, O2.out.cell 7⟩
  refine pickA (v := ?_) 12 (some 111) rfl rfl (by kernel_rfl) (by kernel_rfl) (by kernel_rfl) (by decide) (fun _ _ _ h => h) (by rfl) ?_ (by assumption) ?_
  rotate_left
  · intro w'
    go_simp
    try with_reducible rfl
  try simp only [Act.put, List.setIfInBounds_toArray, List.set_cons_zero, List.set_cons_succ]
  refine pickA (v := ?_) 13 (some 6) rfl rfl (by kernel_rfl) (by kernel_rfl) (by kernel_rfl) (by decide) (fun _ _ _ h => h) (by rfl) ?_ (by assumption) ?_
  rotate_left
  · intro w'
    go_simp
    try with_reducible rfl
  try simp only [Act.put, List.setIfInBounds_toArray, List.set_cons_zero, List.set_cons_succ]
  refine doneL (by kernel_rfl) ?_ _
  clear hHeld
  go_wp2
  go_ret
  exact ⟨rfl, B1.out⟩

end Go.Proofs.Ytoinjmddmahpkaa
