/- One act on both networks: Put and To. -/
import Derived.Test.YtoinjmddmahpkaaZO
namespace Go.Proofs.Ytoinjmddmahpkaa
open Go.RowKit Go.Maps

theorem Two.rd {L : List Nat} {w0 w1 wr : World} {b m rb : Nat} {v rv : Value} {ps qs : List Pc} {c rc : Cnt} {k rk : Nat} (h : Two L w1 wr b m rb v rv ps qs c rc k rk) (h0 : Below w0.heap.size w0 w1) (hS : ∀ j ∈ L, w0.heap.size ≤ j) {a : Option Addr} {bs : List Int} (hr : Rd8 w0 a bs) : Rd8 wr a bs :=
  hr.below (h0.trans (h.kp.to_below h0.size hS))
theorem putn_ok (b m : Nat) (v : Value) (ps : List Pc) (c : Cnt) (k : Nat) (hk : k < 1000000) (w : World) (h : NS w b m v ps c k) (fa : Bool) (fn : Int) (ta : Bool) (tn : Int) (a : Option Addr) (len cap : Nat) (bs : List Int) (hbl : bs.length = len) (hp : okP fn tn len = true) (hl : ps.length < 4096) (hnil : a = none → cap = 0) (hrd : Rd8 w a bs) :
    Calls Try.prog 17 #[.pointer (some ⟨b, 0, none⟩), .agg #[.bool fa, .int .i64 fn, .bool ta, .int .i64 tn, .slice a len cap]] w fun e w' => e = .returned (.int .i64 0) ∧ ∃ v' a' c', Nx w w' b m v v' (ps ++ [⟨fa, fn, ta, tn, a', c', bs⟩]) { c with p := c.p + 1 } (k + 1) ∧ (∀ ad, a' = some ad → w.heap.size ≤ ad.block) := by
  subst hbl
  exact put_ok b m v ps c k hk w h fa fn ta tn a cap bs hp hl hnil hrd
theorem lsame_like {ps qs : List Pc} (hl : Like ps qs) (hp : ps.length ≤ 4096) (ga : Bool) (gn : Int) (u1 u2 : Value) (w : World) (h1 : Places w u1 (goesTo ga gn ps) ps.length) (h2 : Places w u2 (goesTo ga gn qs) qs.length) :
    Calls Try.prog 32 #[u1, u2] w fun e w' => e = .returned (.bool true) ∧ Below w.heap.size w w' := by
  have e : goesTo ga gn qs = goesTo ga gn ps := funext fun i => (hl.goesTo ga gn i).symm
  rw [e, ← hl.len] at h2
  exact lsame_any u1 u2 (plc (goesTo ga gn ps) ps.length) (Nat.le_trans (plc_le _ _) hp) w h1 h2

set_option maxHeartbeats 4000000 in
set_option maxRecDepth 100000 in
theorem step_put_ok {L : List Nat} {w0 w1 w : World} {b m rb : Nat} {v rv : Value} {ps qs : List Pc} {c rc : Cnt} {k rk : Nat} (h0 : Below w0.heap.size w0 w1) (hS : ∀ j ∈ L, w0.heap.size ≤ j) (hk : k < 1000000) (hr : rk < 1000000) (h : Two L w1 w b m rb v rv ps qs c rc k rk) (bs : List Int) (hl : ps.length < 4096) (hl2 : qs.length < 4096) (fa : Bool) (fn : Int) (ta : Bool) (tn : Int) (a : Option Addr) (len cap : Nat) (hlc : len ≤ cap) (hn : a = none → len = 0 ∧ cap = 0) (I KK : Int) (hbl : bs.length = cl len) (hrd : Rd8 w0 a bs) (hok : okP fn tn (cl len) = true) :
    Calls Try.prog 9 #[.pointer (some ⟨b, 0, none⟩), .pointer (some ⟨rb, 0, none⟩), .agg #[.int .i64 1, .bool fa, .int .i64 fn, .bool ta, .int .i64 tn, .slice a len cap, .int .i64 I, .int .i64 KK]] w fun e w' => e = .returned (.bool true) ∧ ∃ v' rv' p q, Two L w1 w' b m rb v' rv' (ps ++ [p]) (qs ++ [q]) { c with p := c.p + 1 } { rc with p := rc.p + 1 } (k + 1) (rk + 1) ∧ p.key = q.key ∧ p.bs = bs := by
  have mixed : Try.prog.follows .mixedOrders = true := by kernel_rfl
  have bel := ((Below.refl w.heap.size w).alloc (Nat.le_refl _) (.cells #[.int .i64 1, .bool fa, .int .i64 fn, .bool ta, .int .i64 tn, .slice a len cap, .int .i64 I, .int .i64 KK] 37)).drew
  have O0 := hide ((IsB.new w #[.int .i64 1, .bool fa, .int .i64 fn, .bool ta, .int .i64 tn, .slice a len cap, .int .i64 I, .int .i64 KK] 37).below ((Below.refl _ _).drew))
  have hA1 : Hid (w.heap.size ∉ foot b m v) := fun hm => by have := h.ns.lt _ hm; omega
  have hA2 : Hid (w.heap.size ∉ rfoot rb rv) := fun hm => by have := h.rs.lt _ hm; omega
  have H0 := hide (h.bel bel)
  replace bel := hide bel
  clear h
  go_enter Try.func9, Try.ntmps9
  go_wp2
  generalize w.heap.size = A at O0 hA1 hA2 ⊢
  generalize w.alloc (.cells #[.int .i64 1, .bool fa, .int .i64 fn, .bool ta, .int .i64 tn, .slice a len cap, .int .i64 I, .int .i64 KK] 37) = W0 at *
  replace hlc := hide hlc
  replace hbl := hide hbl
  replace hok := hide hok
  replace hrd := hide hrd
  replace h0 := hide h0
  replace hS := hide hS
  replace hn := hide hn
  refine regionL 12 (fun w' => w'.cell? ⟨A, 1, none⟩ = some (.bool fa) ∧ w'.cell? ⟨A, 2, none⟩ = some (.int .i64 fn) ∧ w'.cell? ⟨A, 3, none⟩ = some (.bool ta) ∧ w'.cell? ⟨A, 4, none⟩ = some (.int .i64 tn) ∧ w'.cell? ⟨A, 5, none⟩ = some (.slice a len cap)) mixed ⟨O0.out.cell 1, O0.out.cell 2, O0.out.cell 3, O0.out.cell 4, O0.out.cell 5⟩ (fun hHeld => ?_)
  refine pickA (v := ?_) 0 (some 27) rfl rfl (by kernel_rfl) (by kernel_rfl) (by kernel_rfl) (by decide) (fun _ _ _ h => h) (by rfl) ?_ (by assumption) ?_
  rotate_left
  · intro w'
    go_simp
    try with_reducible rfl
  try simp only [Act.put, List.setIfInBounds_toArray, List.set_cons_zero, List.set_cons_succ]
  refine pickA (v := ?_) 1 (some 28) rfl rfl (by kernel_rfl) (by kernel_rfl) (by kernel_rfl) (by decide) (fun _ _ _ h => h) (by rfl) ?_ (by assumption) ?_
  rotate_left
  · intro w'
    go_simp
    try with_reducible rfl
  try simp only [Act.put, List.setIfInBounds_toArray, List.set_cons_zero, List.set_cons_succ]
  refine pickL (v := ?_) 2 (some 29) rfl rfl (by kernel_rfl) (by kernel_rfl) (by kernel_rfl) (by decide) (by kernel_rfl) (by kernel_rfl) (fun _ _ _ h => h) (by rfl) ?_ (by assumption) ?_
  rotate_left
  · intro w' hSw
    obtain ⟨q1, q2, q3, q4, q5⟩ := hSw
    go_simp
    try with_reducible rfl
  try simp only [Act.put, List.setIfInBounds_toArray, List.set_cons_zero, List.set_cons_succ]
  refine pickA (v := ?_) 5 (some 32) rfl rfl (by kernel_rfl) (by kernel_rfl) (by kernel_rfl) (by decide) (fun _ _ _ h => h) (by rfl) ?_ (by assumption) ?_
  rotate_left
  · intro w'
    go_simp
    try with_reducible rfl
  try simp only [Act.put, List.setIfInBounds_toArray, List.set_cons_zero, List.set_cons_succ]
  refine pickA (v := ?_) 6 (some 33) rfl rfl (by kernel_rfl) (by kernel_rfl) (by kernel_rfl) (by decide) (fun _ _ _ h => h) (by rfl) ?_ (by assumption) ?_
  rotate_left
  · intro w'
    go_simp
    try with_reducible rfl
  try simp only [Act.put, List.setIfInBounds_toArray, List.set_cons_zero, List.set_cons_succ]
  refine pickL (v := ?_) 7 (some 34) rfl rfl (by kernel_rfl) (by kernel_rfl) (by kernel_rfl) (by decide) (by kernel_rfl) (by kernel_rfl) (fun _ _ _ h => h) (by rfl) ?_ (by assumption) ?_
  rotate_left
  · intro w' hSw
    obtain ⟨q1, q2, q3, q4, q5⟩ := hSw
    go_simp
    try with_reducible rfl
  try simp only [Act.put, List.setIfInBounds_toArray, List.set_cons_zero, List.set_cons_succ]
  refine oneL (i := 3) (by kernel_rfl) rfl (fun K hK => ?_)
  go_simp
  refine (lcut_any fa fn ta tn a len cap hlc.out hn.out _).mono ?_; rintro e W1 ⟨rfl, hb⟩
  have O1 := hide (O0.out.below hb)
  have H1 := hide (H0.out.bel hb)
  clear hb H0 O0
  refine hK.out _ _ ?_ ?_
  · exact ⟨O1.out.cell 1, O1.out.cell 2, O1.out.cell 3, O1.out.cell 4, O1.out.cell 5⟩
  clear hK K
  try simp only [Act.put, List.setIfInBounds_toArray, List.set_cons_zero, List.set_cons_succ]
  clear hHeld
  have hHeld : (fun w' => w'.cell? ⟨A, 1, none⟩ = some (.bool fa) ∧ w'.cell? ⟨A, 2, none⟩ = some (.int .i64 fn) ∧ w'.cell? ⟨A, 3, none⟩ = some (.bool ta) ∧ w'.cell? ⟨A, 4, none⟩ = some (.int .i64 tn) ∧ w'.cell? ⟨A, 5, none⟩ = some (.slice a len cap)) W1 := ⟨O1.out.cell 1, O1.out.cell 2, O1.out.cell 3, O1.out.cell 4, O1.out.cell 5⟩
  refine oneL (i := 4) (by kernel_rfl) rfl (fun K hK => ?_)
  go_simp
  refine (putn_ok b m v ps c k hk _ H1.out.ns fa fn ta tn a (cl len) cap bs hbl.out hok.out hl (fun h => (hn.out h).2) (H1.out.rd h0.out hS.out hrd.out)).mono ?_; rintro e W2 ⟨rfl, v', a', c', hx, -⟩
  have O2 := hide (O1.out.kp hx.kp hA1.out)
  have H2 := hide (H1.out.callN hx)
  clear hx H1 O1
  refine hK.out _ _ ?_ ?_
  · exact ⟨O2.out.cell 1, O2.out.cell 2, O2.out.cell 3, O2.out.cell 4, O2.out.cell 5⟩
  clear hK K
  try simp only [Act.put, List.setIfInBounds_toArray, List.set_cons_zero, List.set_cons_succ]
  clear hHeld
  have hHeld : (fun w' => w'.cell? ⟨A, 1, none⟩ = some (.bool fa) ∧ w'.cell? ⟨A, 2, none⟩ = some (.int .i64 fn) ∧ w'.cell? ⟨A, 3, none⟩ = some (.bool ta) ∧ w'.cell? ⟨A, 4, none⟩ = some (.int .i64 tn) ∧ w'.cell? ⟨A, 5, none⟩ = some (.slice a len cap)) W2 := ⟨O2.out.cell 1, O2.out.cell 2, O2.out.cell 3, O2.out.cell 4, O2.out.cell 5⟩
  refine oneL (i := 8) (by kernel_rfl) rfl (fun K hK => ?_)
  go_simp
  refine (lcut_any fa fn ta tn a len cap hlc.out hn.out _).mono ?_; rintro e W3 ⟨rfl, hb⟩
  have O3 := hide (O2.out.below hb)
  have H3 := hide (H2.out.bel hb)
  clear hb H2 O2
  refine hK.out _ _ ?_ ?_
  · exact ⟨O3.out.cell 1, O3.out.cell 2, O3.out.cell 3, O3.out.cell 4, O3.out.cell 5⟩
  clear hK K
  try simp only [Act.put, List.setIfInBounds_toArray, List.set_cons_zero, List.set_cons_succ]
  clear hHeld
  have hHeld : (fun w' => w'.cell? ⟨A, 1, none⟩ = some (.bool fa) ∧ w'.cell? ⟨A, 2, none⟩ = some (.int .i64 fn) ∧ w'.cell? ⟨A, 3, none⟩ = some (.bool ta) ∧ w'.cell? ⟨A, 4, none⟩ = some (.int .i64 tn) ∧ w'.cell? ⟨A, 5, none⟩ = some (.slice a len cap)) W3 := ⟨O3.out.cell 1, O3.out.cell 2, O3.out.cell 3, O3.out.cell 4, O3.out.cell 5⟩
  refine oneL (i := 9) (by kernel_rfl) rfl (fun K hK => ?_)
  go_simp
  refine (rput_ok rb rv qs rc rk hr _ H3.out.rs fa fn ta tn a (cl len) cap bs hbl.out hok.out hl2 (fun h => (hn.out h).2) (H3.out.rd h0.out hS.out hrd.out)).mono ?_; rintro e W4 ⟨rfl, rv', ra, rcp, hx⟩
  have O4 := hide (O3.out.kp hx.kp hA2.out)
  have H4 := hide (H3.out.callR hx)
  clear hx H3 O3
  refine hK.out _ _ ?_ ?_
  · exact ⟨O4.out.cell 1, O4.out.cell 2, O4.out.cell 3, O4.out.cell 4, O4.out.cell 5⟩
  clear hK K
  try simp only [Act.put, List.setIfInBounds_toArray, List.set_cons_zero, List.set_cons_succ]
  clear hHeld
  have hHeld : (fun w' => w'.cell? ⟨A, 1, none⟩ = some (.bool fa) ∧ w'.cell? ⟨A, 2, none⟩ = some (.int .i64 fn) ∧ w'.cell? ⟨A, 3, none⟩ = some (.bool ta) ∧ w'.cell? ⟨A, 4, none⟩ = some (.int .i64 tn) ∧ w'.cell? ⟨A, 5, none⟩ = some (.slice a len cap)) W4 := ⟨O4.out.cell 1, O4.out.cell 2, O4.out.cell 3, O4.out.cell 4, O4.out.cell 5⟩
  refine pickA (v := ?_) 10 (some 37) rfl rfl (by kernel_rfl) (by kernel_rfl) (by kernel_rfl) (by decide) (fun _ _ _ h => h) (by rfl) ?_ (by assumption) ?_
  rotate_left
  · intro w'
    go_simp
    try with_reducible rfl
  try simp only [Act.put, List.setIfInBounds_toArray, List.set_cons_zero, List.set_cons_succ]
  refine pickA (v := ?_) 11 (some 6) rfl rfl (by kernel_rfl) (by kernel_rfl) (by kernel_rfl) (by decide) (fun _ _ _ h => h) (by rfl) ?_ (by assumption) ?_
  rotate_left
  · intro w'
    go_simp
    try with_reducible rfl
  try simp only [Act.put, List.setIfInBounds_toArray, List.set_cons_zero, List.set_cons_succ]
  refine doneL (by kernel_rfl) ?_ _
  clear hHeld
  go_wp2
  go_ret
  exact ⟨rfl, v', rv', _, _, H4.out, rfl, rfl⟩

set_option maxHeartbeats 4000000 in
set_option maxRecDepth 100000 in
theorem step_put_full {L : List Nat} {w1 w : World} {b m rb : Nat} {v rv : Value} {ps qs : List Pc} {c rc : Cnt} {k rk : Nat} (hk : k < 1000000) (hr : rk < 1000000) (h : Two L w1 w b m rb v rv ps qs c rc k rk) (hl : ps.length = 4096) (hl2 : qs.length = 4096) (fa : Bool) (fn : Int) (ta : Bool) (tn : Int) (a : Option Addr) (len cap : Nat) (hlc : len ≤ cap) (hn : a = none → len = 0 ∧ cap = 0) (I KK : Int) (hok : okP fn tn (cl len) = true) :
    Calls Try.prog 9 #[.pointer (some ⟨b, 0, none⟩), .pointer (some ⟨rb, 0, none⟩), .agg #[.int .i64 1, .bool fa, .int .i64 fn, .bool ta, .int .i64 tn, .slice a len cap, .int .i64 I, .int .i64 KK]] w fun e w' => e = .returned (.bool true) ∧ ∃ v' rv', Two L w1 w' b m rb v' rv' ps qs { c with r := c.r + 1 } { rc with r := rc.r + 1 } (k + 1) (rk + 1) := by
  have mixed : Try.prog.follows .mixedOrders = true := by kernel_rfl
  have bel := ((Below.refl w.heap.size w).alloc (Nat.le_refl _) (.cells #[.int .i64 1, .bool fa, .int .i64 fn, .bool ta, .int .i64 tn, .slice a len cap, .int .i64 I, .int .i64 KK] 37)).drew
  have O0 := hide ((IsB.new w #[.int .i64 1, .bool fa, .int .i64 fn, .bool ta, .int .i64 tn, .slice a len cap, .int .i64 I, .int .i64 KK] 37).below ((Below.refl _ _).drew))
  have hA1 : Hid (w.heap.size ∉ foot b m v) := fun hm => by have := h.ns.lt _ hm; omega
  have hA2 : Hid (w.heap.size ∉ rfoot rb rv) := fun hm => by have := h.rs.lt _ hm; omega
  have H0 := hide (h.bel bel)
  replace bel := hide bel
  clear h
  go_enter Try.func9, Try.ntmps9
  go_wp2
  generalize w.heap.size = A at O0 hA1 hA2 ⊢
  generalize w.alloc (.cells #[.int .i64 1, .bool fa, .int .i64 fn, .bool ta, .int .i64 tn, .slice a len cap, .int .i64 I, .int .i64 KK] 37) = W0 at *
  replace hlc := hide hlc
  replace hok := hide hok
  replace hl := hide hl
  replace hl2 := hide hl2
  replace hn := hide hn
  refine regionL 12 (fun w' => w'.cell? ⟨A, 1, none⟩ = some (.bool fa) ∧ w'.cell? ⟨A, 2, none⟩ = some (.int .i64 fn) ∧ w'.cell? ⟨A, 3, none⟩ = some (.bool ta) ∧ w'.cell? ⟨A, 4, none⟩ = some (.int .i64 tn) ∧ w'.cell? ⟨A, 5, none⟩ = some (.slice a len cap)) mixed ⟨O0.out.cell 1, O0.out.cell 2, O0.out.cell 3, O0.out.cell 4, O0.out.cell 5⟩ (fun hHeld => ?_)
  refine pickA (v := ?_) 0 (some 27) rfl rfl (by kernel_rfl) (by kernel_rfl) (by kernel_rfl) (by decide) (fun _ _ _ h => h) (by rfl) ?_ (by assumption) ?_
  rotate_left
  · intro w'
    go_simp
    try with_reducible rfl
  try simp only [Act.put, List.setIfInBounds_toArray, List.set_cons_zero, List.set_cons_succ]
  refine pickA (v := ?_) 1 (some 28) rfl rfl (by kernel_rfl) (by kernel_rfl) (by kernel_rfl) (by decide) (fun _ _ _ h => h) (by rfl) ?_ (by assumption) ?_
  rotate_left
  · intro w'
    go_simp
    try with_reducible rfl
  try simp only [Act.put, List.setIfInBounds_toArray, List.set_cons_zero, List.set_cons_succ]
  refine pickL (v := ?_) 2 (some 29) rfl rfl (by kernel_rfl) (by kernel_rfl) (by kernel_rfl) (by decide) (by kernel_rfl) (by kernel_rfl) (fun _ _ _ h => h) (by rfl) ?_ (by assumption) ?_
  rotate_left
  · intro w' hSw
    obtain ⟨q1, q2, q3, q4, q5⟩ := hSw
    go_simp
    try with_reducible rfl
  try simp only [Act.put, List.setIfInBounds_toArray, List.set_cons_zero, List.set_cons_succ]
  refine pickA (v := ?_) 5 (some 32) rfl rfl (by kernel_rfl) (by kernel_rfl) (by kernel_rfl) (by decide) (fun _ _ _ h => h) (by rfl) ?_ (by assumption) ?_
  rotate_left
  · intro w'
    go_simp
    try with_reducible rfl
  try simp only [Act.put, List.setIfInBounds_toArray, List.set_cons_zero, List.set_cons_succ]
  refine pickA (v := ?_) 6 (some 33) rfl rfl (by kernel_rfl) (by kernel_rfl) (by kernel_rfl) (by decide) (fun _ _ _ h => h) (by rfl) ?_ (by assumption) ?_
  rotate_left
  · intro w'
    go_simp
    try with_reducible rfl
  try simp only [Act.put, List.setIfInBounds_toArray, List.set_cons_zero, List.set_cons_succ]
  refine pickL (v := ?_) 7 (some 34) rfl rfl (by kernel_rfl) (by kernel_rfl) (by kernel_rfl) (by decide) (by kernel_rfl) (by kernel_rfl) (fun _ _ _ h => h) (by rfl) ?_ (by assumption) ?_
  rotate_left
  · intro w' hSw
    obtain ⟨q1, q2, q3, q4, q5⟩ := hSw
    go_simp
    try with_reducible rfl
  try simp only [Act.put, List.setIfInBounds_toArray, List.set_cons_zero, List.set_cons_succ]
  refine oneL (i := 3) (by kernel_rfl) rfl (fun K hK => ?_)
  go_simp
  refine (lcut_any fa fn ta tn a len cap hlc.out hn.out _).mono ?_; rintro e W1 ⟨rfl, hb⟩
  have O1 := hide (O0.out.below hb)
  have H1 := hide (H0.out.bel hb)
  clear hb H0 O0
  refine hK.out _ _ ?_ ?_
  · exact ⟨O1.out.cell 1, O1.out.cell 2, O1.out.cell 3, O1.out.cell 4, O1.out.cell 5⟩
  clear hK K
  try simp only [Act.put, List.setIfInBounds_toArray, List.set_cons_zero, List.set_cons_succ]
  clear hHeld
  have hHeld : (fun w' => w'.cell? ⟨A, 1, none⟩ = some (.bool fa) ∧ w'.cell? ⟨A, 2, none⟩ = some (.int .i64 fn) ∧ w'.cell? ⟨A, 3, none⟩ = some (.bool ta) ∧ w'.cell? ⟨A, 4, none⟩ = some (.int .i64 tn) ∧ w'.cell? ⟨A, 5, none⟩ = some (.slice a len cap)) W1 := ⟨O1.out.cell 1, O1.out.cell 2, O1.out.cell 3, O1.out.cell 4, O1.out.cell 5⟩
  refine oneL (i := 4) (by kernel_rfl) rfl (fun K hK => ?_)
  go_simp
  refine (put_full b m v ps c k hk _ H1.out.ns fa fn ta tn a (cl len) cap hok.out hl.out).mono ?_; rintro e W2 ⟨rfl, hx⟩
  have O2 := hide (O1.out.kp hx.kp hA1.out)
  have H2 := hide (H1.out.callN hx)
  clear hx H1 O1
  refine hK.out _ _ ?_ ?_
  · exact ⟨O2.out.cell 1, O2.out.cell 2, O2.out.cell 3, O2.out.cell 4, O2.out.cell 5⟩
  clear hK K
  try simp only [Act.put, List.setIfInBounds_toArray, List.set_cons_zero, List.set_cons_succ]
  clear hHeld
  have hHeld : (fun w' => w'.cell? ⟨A, 1, none⟩ = some (.bool fa) ∧ w'.cell? ⟨A, 2, none⟩ = some (.int .i64 fn) ∧ w'.cell? ⟨A, 3, none⟩ = some (.bool ta) ∧ w'.cell? ⟨A, 4, none⟩ = some (.int .i64 tn) ∧ w'.cell? ⟨A, 5, none⟩ = some (.slice a len cap)) W2 := ⟨O2.out.cell 1, O2.out.cell 2, O2.out.cell 3, O2.out.cell 4, O2.out.cell 5⟩
  refine oneL (i := 8) (by kernel_rfl) rfl (fun K hK => ?_)
  go_simp
  refine (lcut_any fa fn ta tn a len cap hlc.out hn.out _).mono ?_; rintro e W3 ⟨rfl, hb⟩
  have O3 := hide (O2.out.below hb)
  have H3 := hide (H2.out.bel hb)
  clear hb H2 O2
  refine hK.out _ _ ?_ ?_
  · exact ⟨O3.out.cell 1, O3.out.cell 2, O3.out.cell 3, O3.out.cell 4, O3.out.cell 5⟩
  clear hK K
  try simp only [Act.put, List.setIfInBounds_toArray, List.set_cons_zero, List.set_cons_succ]
  clear hHeld
  have hHeld : (fun w' => w'.cell? ⟨A, 1, none⟩ = some (.bool fa) ∧ w'.cell? ⟨A, 2, none⟩ = some (.int .i64 fn) ∧ w'.cell? ⟨A, 3, none⟩ = some (.bool ta) ∧ w'.cell? ⟨A, 4, none⟩ = some (.int .i64 tn) ∧ w'.cell? ⟨A, 5, none⟩ = some (.slice a len cap)) W3 := ⟨O3.out.cell 1, O3.out.cell 2, O3.out.cell 3, O3.out.cell 4, O3.out.cell 5⟩
  refine oneL (i := 9) (by kernel_rfl) rfl (fun K hK => ?_)
  go_simp
  refine (rput_full rb rv qs rc rk hr _ H3.out.rs fa fn ta tn a (cl len) cap hok.out hl2.out).mono ?_; rintro e W4 ⟨rfl, hx⟩
  have O4 := hide (O3.out.kp hx.kp hA2.out)
  have H4 := hide (H3.out.callR hx)
  clear hx H3 O3
  refine hK.out _ _ ?_ ?_
  · exact ⟨O4.out.cell 1, O4.out.cell 2, O4.out.cell 3, O4.out.cell 4, O4.out.cell 5⟩
  clear hK K
  try simp only [Act.put, List.setIfInBounds_toArray, List.set_cons_zero, List.set_cons_succ]
  clear hHeld
  have hHeld : (fun w' => w'.cell? ⟨A, 1, none⟩ = some (.bool fa) ∧ w'.cell? ⟨A, 2, none⟩ = some (.int .i64 fn) ∧ w'.cell? ⟨A, 3, none⟩ = some (.bool ta) ∧ w'.cell? ⟨A, 4, none⟩ = some (.int .i64 tn) ∧ w'.cell? ⟨A, 5, none⟩ = some (.slice a len cap)) W4 := ⟨O4.out.cell 1, O4.out.cell 2, O4.out.cell 3, O4.out.cell 4, O4.out.cell 5⟩
  refine pickA (v := ?_) 10 (some 37) rfl rfl (by kernel_rfl) (by kernel_rfl) (by kernel_rfl) (by decide) (fun _ _ _ h => h) (by rfl) ?_ (by assumption) ?_
  rotate_left
  · intro w'
    go_simp
    try with_reducible rfl
  try simp only [Act.put, List.setIfInBounds_toArray, List.set_cons_zero, List.set_cons_succ]
  refine pickA (v := ?_) 11 (some 6) rfl rfl (by kernel_rfl) (by kernel_rfl) (by kernel_rfl) (by decide) (fun _ _ _ h => h) (by rfl) ?_ (by assumption) ?_
  rotate_left
  · intro w'
    go_simp
    try with_reducible rfl
  try simp only [Act.put, List.setIfInBounds_toArray, List.set_cons_zero, List.set_cons_succ]
  refine doneL (by kernel_rfl) ?_ _
  clear hHeld
  go_wp2
  go_ret
  exact ⟨rfl, v, rv, H4.out⟩

set_option maxHeartbeats 4000000 in
set_option maxRecDepth 100000 in
theorem step_put_bad {L : List Nat} {w1 w : World} {b m rb : Nat} {v rv : Value} {ps qs : List Pc} {c rc : Cnt} {k rk : Nat} (h : Two L w1 w b m rb v rv ps qs c rc k rk) (fa : Bool) (fn : Int) (ta : Bool) (tn : Int) (a : Option Addr) (len cap : Nat) (hlc : len ≤ cap) (hn : a = none → len = 0 ∧ cap = 0) (I KK : Int) (hok : okP fn tn (cl len) = false) :
    Calls Try.prog 9 #[.pointer (some ⟨b, 0, none⟩), .pointer (some ⟨rb, 0, none⟩), .agg #[.int .i64 1, .bool fa, .int .i64 fn, .bool ta, .int .i64 tn, .slice a len cap, .int .i64 I, .int .i64 KK]] w fun e w' => e = .returned (.bool true) ∧ Below w.heap.size w w' := by
  have mixed : Try.prog.follows .mixedOrders = true := by kernel_rfl
  have bel := ((Below.refl w.heap.size w).alloc (Nat.le_refl _) (.cells #[.int .i64 1, .bool fa, .int .i64 fn, .bool ta, .int .i64 tn, .slice a len cap, .int .i64 I, .int .i64 KK] 37)).drew
  have O0 := hide ((IsB.new w #[.int .i64 1, .bool fa, .int .i64 fn, .bool ta, .int .i64 tn, .slice a len cap, .int .i64 I, .int .i64 KK] 37).below ((Below.refl _ _).drew))
  have hA1 : Hid (w.heap.size ∉ foot b m v) := fun hm => by have := h.ns.lt _ hm; omega
  have hA2 : Hid (w.heap.size ∉ rfoot rb rv) := fun hm => by have := h.rs.lt _ hm; omega
  have H0 := hide (h.bel bel)
  replace bel := hide bel
  clear h
  go_enter Try.func9, Try.ntmps9
  go_wp2
  generalize w.heap.size = A at O0 hA1 hA2 ⊢
  generalize w.alloc (.cells #[.int .i64 1, .bool fa, .int .i64 fn, .bool ta, .int .i64 tn, .slice a len cap, .int .i64 I, .int .i64 KK] 37) = W0 at *
  replace hlc := hide hlc
  replace hn := hide hn
  replace hok := hide hok
  refine regionL 12 (fun w' => w'.cell? ⟨A, 1, none⟩ = some (.bool fa) ∧ w'.cell? ⟨A, 2, none⟩ = some (.int .i64 fn) ∧ w'.cell? ⟨A, 3, none⟩ = some (.bool ta) ∧ w'.cell? ⟨A, 4, none⟩ = some (.int .i64 tn) ∧ w'.cell? ⟨A, 5, none⟩ = some (.slice a len cap)) mixed ⟨O0.out.cell 1, O0.out.cell 2, O0.out.cell 3, O0.out.cell 4, O0.out.cell 5⟩ (fun hHeld => ?_)
  refine pickA (v := ?_) 0 (some 27) rfl rfl (by kernel_rfl) (by kernel_rfl) (by kernel_rfl) (by decide) (fun _ _ _ h => h) (by rfl) ?_ (by assumption) ?_
  rotate_left
  · intro w'
    go_simp
    try with_reducible rfl
  try simp only [Act.put, List.setIfInBounds_toArray, List.set_cons_zero, List.set_cons_succ]
  refine pickA (v := ?_) 1 (some 28) rfl rfl (by kernel_rfl) (by kernel_rfl) (by kernel_rfl) (by decide) (fun _ _ _ h => h) (by rfl) ?_ (by assumption) ?_
  rotate_left
  · intro w'
    go_simp
    try with_reducible rfl
  try simp only [Act.put, List.setIfInBounds_toArray, List.set_cons_zero, List.set_cons_succ]
  refine pickL (v := ?_) 2 (some 29) rfl rfl (by kernel_rfl) (by kernel_rfl) (by kernel_rfl) (by decide) (by kernel_rfl) (by kernel_rfl) (fun _ _ _ h => h) (by rfl) ?_ (by assumption) ?_
  rotate_left
  · intro w' hSw
    obtain ⟨q1, q2, q3, q4, q5⟩ := hSw
    go_simp
    try with_reducible rfl
  try simp only [Act.put, List.setIfInBounds_toArray, List.set_cons_zero, List.set_cons_succ]
  refine pickA (v := ?_) 5 (some 32) rfl rfl (by kernel_rfl) (by kernel_rfl) (by kernel_rfl) (by decide) (fun _ _ _ h => h) (by rfl) ?_ (by assumption) ?_
  rotate_left
  · intro w'
    go_simp
    try with_reducible rfl
  try simp only [Act.put, List.setIfInBounds_toArray, List.set_cons_zero, List.set_cons_succ]
  refine pickA (v := ?_) 6 (some 33) rfl rfl (by kernel_rfl) (by kernel_rfl) (by kernel_rfl) (by decide) (fun _ _ _ h => h) (by rfl) ?_ (by assumption) ?_
  rotate_left
  · intro w'
    go_simp
    try with_reducible rfl
  try simp only [Act.put, List.setIfInBounds_toArray, List.set_cons_zero, List.set_cons_succ]
  refine pickL (v := ?_) 7 (some 34) rfl rfl (by kernel_rfl) (by kernel_rfl) (by kernel_rfl) (by decide) (by kernel_rfl) (by kernel_rfl) (fun _ _ _ h => h) (by rfl) ?_ (by assumption) ?_
  rotate_left
  · intro w' hSw
    obtain ⟨q1, q2, q3, q4, q5⟩ := hSw
    go_simp
    try with_reducible rfl
  try simp only [Act.put, List.setIfInBounds_toArray, List.set_cons_zero, List.set_cons_succ]
  refine oneL (i := 3) (by kernel_rfl) rfl (fun K hK => ?_)
  go_simp
  refine (lcut_any fa fn ta tn a len cap hlc.out hn.out _).mono ?_; rintro e W1 ⟨rfl, hb⟩
  have O1 := hide (O0.out.below hb)
  have H1 := hide (H0.out.bel hb)
  have B1 := hide (bel.out.trans (hb.mono bel.out.size))
  clear hb H0 O0
  refine hK.out _ _ ?_ ?_
  · exact ⟨O1.out.cell 1, O1.out.cell 2, O1.out.cell 3, O1.out.cell 4, O1.out.cell 5⟩
  clear hK K
  try simp only [Act.put, List.setIfInBounds_toArray, List.set_cons_zero, List.set_cons_succ]
  clear hHeld
  have hHeld : (fun w' => w'.cell? ⟨A, 1, none⟩ = some (.bool fa) ∧ w'.cell? ⟨A, 2, none⟩ = some (.int .i64 fn) ∧ w'.cell? ⟨A, 3, none⟩ = some (.bool ta) ∧ w'.cell? ⟨A, 4, none⟩ = some (.int .i64 tn) ∧ w'.cell? ⟨A, 5, none⟩ = some (.slice a len cap)) W1 := ⟨O1.out.cell 1, O1.out.cell 2, O1.out.cell 3, O1.out.cell 4, O1.out.cell 5⟩
  refine oneL (i := 4) (by kernel_rfl) rfl (fun K hK => ?_)
  go_simp
  refine (put_bad b m v ps c k _ H1.out.ns fa fn ta tn a (cl len) cap hok.out).mono ?_; rintro e W2 ⟨rfl, hb⟩
  have O2 := hide (O1.out.below hb)
  have H2 := hide (H1.out.bel hb)
  have B2 := hide (B1.out.trans (hb.mono B1.out.size))
  clear hb H1 O1
  refine hK.out _ _ ?_ ?_
  · exact ⟨O2.out.cell 1, O2.out.cell 2, O2.out.cell 3, O2.out.cell 4, O2.out.cell 5⟩
  clear hK K
  try simp only [Act.put, List.setIfInBounds_toArray, List.set_cons_zero, List.set_cons_succ]
  clear hHeld
  have hHeld : (fun w' => w'.cell? ⟨A, 1, none⟩ = some (.bool fa) ∧ w'.cell? ⟨A, 2, none⟩ = some (.int .i64 fn) ∧ w'.cell? ⟨A, 3, none⟩ = some (.bool ta) ∧ w'.cell? ⟨A, 4, none⟩ = some (.int .i64 tn) ∧ w'.cell? ⟨A, 5, none⟩ = some (.slice a len cap)) W2 := ⟨O2.out.cell 1, O2.out.cell 2, O2.out.cell 3, O2.out.cell 4, O2.out.cell 5⟩
  refine oneL (i := 8) (by kernel_rfl) rfl (fun K hK => ?_)
  go_simp
  refine (lcut_any fa fn ta tn a len cap hlc.out hn.out _).mono ?_; rintro e W3 ⟨rfl, hb⟩
  have O3 := hide (O2.out.below hb)
  have H3 := hide (H2.out.bel hb)
  have B3 := hide (B2.out.trans (hb.mono B2.out.size))
  clear hb H2 O2
  refine hK.out _ _ ?_ ?_
  · exact ⟨O3.out.cell 1, O3.out.cell 2, O3.out.cell 3, O3.out.cell 4, O3.out.cell 5⟩
  clear hK K
  try simp only [Act.put, List.setIfInBounds_toArray, List.set_cons_zero, List.set_cons_succ]
  clear hHeld
  have hHeld : (fun w' => w'.cell? ⟨A, 1, none⟩ = some (.bool fa) ∧ w'.cell? ⟨A, 2, none⟩ = some (.int .i64 fn) ∧ w'.cell? ⟨A, 3, none⟩ = some (.bool ta) ∧ w'.cell? ⟨A, 4, none⟩ = some (.int .i64 tn) ∧ w'.cell? ⟨A, 5, none⟩ = some (.slice a len cap)) W3 := ⟨O3.out.cell 1, O3.out.cell 2, O3.out.cell 3, O3.out.cell 4, O3.out.cell 5⟩
  refine oneL (i := 9) (by kernel_rfl) rfl (fun K hK => ?_)
  go_simp
  refine (rput_bad rb fa fn ta tn a (cl len) cap hok.out _).mono ?_; rintro e W4 ⟨rfl, hb⟩
  have O4 := hide (O3.out.below hb)
  have H4 := hide (H3.out.bel hb)
  have B4 := hide (B3.out.trans (hb.mono B3.out.size))
  clear hb H3 O3
  refine hK.out _ _ ?_ ?_
  · exact ⟨O4.out.cell 1, O4.out.cell 2, O4.out.cell 3, O4.out.cell 4, O4.out.cell 5⟩
  clear hK K
  try simp only [Act.put, List.setIfInBounds_toArray, List.set_cons_zero, List.set_cons_succ]
  clear hHeld
  have hHeld : (fun w' => w'.cell? ⟨A, 1, none⟩ = some (.bool fa) ∧ w'.cell? ⟨A, 2, none⟩ = some (.int .i64 fn) ∧ w'.cell? ⟨A, 3, none⟩ = some (.bool ta) ∧ w'.cell? ⟨A, 4, none⟩ = some (.int .i64 tn) ∧ w'.cell? ⟨A, 5, none⟩ = some (.slice a len cap)) W4 := ⟨O4.out.cell 1, O4.out.cell 2, O4.out.cell 3, O4.out.cell 4, O4.out.cell 5⟩
  refine pickA (v := ?_) 10 (some 37) rfl rfl (by kernel_rfl) (by kernel_rfl) (by kernel_rfl) (by decide) (fun _ _ _ h => h) (by rfl) ?_ (by assumption) ?_
  rotate_left
  · intro w'
    go_simp
    try with_reducible rfl
  try simp only [Act.put, List.setIfInBounds_toArray, List.set_cons_zero, List.set_cons_succ]
  refine pickA (v := ?_) 11 (some 6) rfl rfl (by kernel_rfl) (by kernel_rfl) (by kernel_rfl) (by decide) (fun _ _ _ h => h) (by rfl) ?_ (by assumption) ?_
  rotate_left
  · intro w'
    go_simp
    try with_reducible rfl
  try simp only [Act.put, List.setIfInBounds_toArray, List.set_cons_zero, List.set_cons_succ]
  refine doneL (by kernel_rfl) ?_ _
  clear hHeld
  go_wp2
  go_ret
  exact ⟨rfl, B4.out⟩

set_option maxHeartbeats 4000000 in
set_option maxRecDepth 100000 in
theorem step_to {L : List Nat} {w1 w : World} {b m rb : Nat} {v rv : Value} {ps qs : List Pc} {c rc : Cnt} {k rk : Nat} (h : Two L w1 w b m rb v rv ps qs c rc k rk) (hl : Like ps qs) (fa : Bool) (fn : Int) (ta : Bool) (tn : Int) (a : Option Addr) (len cap : Nat) (I KK : Int) :
    Calls Try.prog 9 #[.pointer (some ⟨b, 0, none⟩), .pointer (some ⟨rb, 0, none⟩), .agg #[.int .i64 8, .bool fa, .int .i64 fn, .bool ta, .int .i64 tn, .slice a len cap, .int .i64 I, .int .i64 KK]] w fun e w' => e = .returned (.bool true) ∧ Below w.heap.size w w' := by
  have mixed : Try.prog.follows .mixedOrders = true := by kernel_rfl
  have bel := ((Below.refl w.heap.size w).alloc (Nat.le_refl _) (.cells #[.int .i64 8, .bool fa, .int .i64 fn, .bool ta, .int .i64 tn, .slice a len cap, .int .i64 I, .int .i64 KK] 37)).drew
  have O0 := hide ((IsB.new w #[.int .i64 8, .bool fa, .int .i64 fn, .bool ta, .int .i64 tn, .slice a len cap, .int .i64 I, .int .i64 KK] 37).below ((Below.refl _ _).drew))
  have hA1 : Hid (w.heap.size ∉ foot b m v) := fun hm => by have := h.ns.lt _ hm; omega
  have hA2 : Hid (w.heap.size ∉ rfoot rb rv) := fun hm => by have := h.rs.lt _ hm; omega
  have H0 := hide (h.bel bel)
  replace bel := hide bel
  clear h
  go_enter Try.func9, Try.ntmps9
  go_wp2
  generalize w.heap.size = A at O0 hA1 hA2 ⊢
  generalize w.alloc (.cells #[.int .i64 8, .bool fa, .int .i64 fn, .bool ta, .int .i64 tn, .slice a len cap, .int .i64 I, .int .i64 KK] 37) = W0 at *
  replace hl := hide hl
  have hp : Hid (ps.length ≤ 4096) := H0.out.ns.len
  refine regionL 12 (fun w' => w'.cell? ⟨A, 3, none⟩ = some (.bool ta) ∧ w'.cell? ⟨A, 4, none⟩ = some (.int .i64 tn)) mixed ⟨O0.out.cell 3, O0.out.cell 4⟩ (fun hHeld => ?_)
  refine pickA (v := ?_) 0 (some 164) rfl rfl (by kernel_rfl) (by kernel_rfl) (by kernel_rfl) (by decide) (fun _ _ _ h => h) (by rfl) ?_ (by assumption) ?_
  rotate_left
  · intro w'
    go_simp
    try with_reducible rfl
  try simp only [Act.put, List.setIfInBounds_toArray, List.set_cons_zero, List.set_cons_succ]
  refine pickA (v := ?_) 1 (some 165) rfl rfl (by kernel_rfl) (by kernel_rfl) (by kernel_rfl) (by decide) (fun _ _ _ h => h) (by rfl) ?_ (by assumption) ?_
  rotate_left
  · intro w'
    go_simp
    try with_reducible rfl
  try simp only [Act.put, List.setIfInBounds_toArray, List.set_cons_zero, List.set_cons_succ]
  refine pickA (v := ?_) 2 (some 166) rfl rfl (by kernel_rfl) (by kernel_rfl) (by kernel_rfl) (by decide) (fun _ _ _ h => h) (by rfl) ?_ (by assumption) ?_
  rotate_left
  · intro w'
    go_simp
    try with_reducible rfl
  try simp only [Act.put, List.setIfInBounds_toArray, List.set_cons_zero, List.set_cons_succ]
  refine pickL (v := ?_) 3 (some 167) rfl rfl (by kernel_rfl) (by kernel_rfl) (by kernel_rfl) (by decide) (by kernel_rfl) (by kernel_rfl) (fun _ _ _ h => h) (by rfl) ?_ (by assumption) ?_
  rotate_left
  · intro w' hSw
    obtain ⟨q3, q4⟩ := hSw
    go_simp
    try with_reducible rfl
  try simp only [Act.put, List.setIfInBounds_toArray, List.set_cons_zero, List.set_cons_succ]
  refine pickA (v := ?_) 5 (some 169) rfl rfl (by kernel_rfl) (by kernel_rfl) (by kernel_rfl) (by decide) (fun _ _ _ h => h) (by rfl) ?_ (by assumption) ?_
  rotate_left
  · intro w'
    go_simp
    try with_reducible rfl
  try simp only [Act.put, List.setIfInBounds_toArray, List.set_cons_zero, List.set_cons_succ]
  refine pickA (v := ?_) 6 (some 170) rfl rfl (by kernel_rfl) (by kernel_rfl) (by kernel_rfl) (by decide) (fun _ _ _ h => h) (by rfl) ?_ (by assumption) ?_
  rotate_left
  · intro w'
    go_simp
    try with_reducible rfl
  try simp only [Act.put, List.setIfInBounds_toArray, List.set_cons_zero, List.set_cons_succ]
  refine pickA (v := ?_) 7 (some 171) rfl rfl (by kernel_rfl) (by kernel_rfl) (by kernel_rfl) (by decide) (fun _ _ _ h => h) (by rfl) ?_ (by assumption) ?_
  rotate_left
  · intro w'
    go_simp
    try with_reducible rfl
  try simp only [Act.put, List.setIfInBounds_toArray, List.set_cons_zero, List.set_cons_succ]
  refine pickL (v := ?_) 8 (some 172) rfl rfl (by kernel_rfl) (by kernel_rfl) (by kernel_rfl) (by decide) (by kernel_rfl) (by kernel_rfl) (fun _ _ _ h => h) (by rfl) ?_ (by assumption) ?_
  rotate_left
  · intro w' hSw
    obtain ⟨q3, q4⟩ := hSw
    go_simp
    try with_reducible rfl
  try simp only [Act.put, List.setIfInBounds_toArray, List.set_cons_zero, List.set_cons_succ]
  refine oneL (i := 4) (by kernel_rfl) rfl (fun K hK => ?_)
  go_simp
  refine (to_any b m v ps c k _ H0.out.ns ta tn).mono ?_; rintro e W1 ⟨⟨u1, rfl, P1⟩, hb⟩
  replace P1 := hide P1
  have O1 := hide (O0.out.below hb)
  have H1 := hide (H0.out.bel hb)
  have B1 := hide (bel.out.trans (hb.mono bel.out.size))
  clear hb H0 O0
  refine hK.out _ _ ?_ ?_
  · exact ⟨O1.out.cell 3, O1.out.cell 4⟩
  clear hK K
  try simp only [Act.put, List.setIfInBounds_toArray, List.set_cons_zero, List.set_cons_succ]
  clear hHeld
  have hHeld : (fun w' => w'.cell? ⟨A, 3, none⟩ = some (.bool ta) ∧ w'.cell? ⟨A, 4, none⟩ = some (.int .i64 tn)) W1 := ⟨O1.out.cell 3, O1.out.cell 4⟩
  refine oneL (i := 9) (by kernel_rfl) rfl (fun K hK => ?_)
  go_simp
  refine (rto_any rb rv qs rc rk _ H1.out.rs ta tn).mono ?_; rintro e W2 ⟨⟨u2, rfl, P2⟩, hb⟩
  replace P2 := hide P2
  replace P1 := hide (P1.out.below hb)
  have O2 := hide (O1.out.below hb)
  have H2 := hide (H1.out.bel hb)
  have B2 := hide (B1.out.trans (hb.mono B1.out.size))
  clear hb H1 O1
  refine hK.out _ _ ?_ ?_
  · exact ⟨O2.out.cell 3, O2.out.cell 4⟩
  clear hK K
  try simp only [Act.put, List.setIfInBounds_toArray, List.set_cons_zero, List.set_cons_succ]
  clear hHeld
  have hHeld : (fun w' => w'.cell? ⟨A, 3, none⟩ = some (.bool ta) ∧ w'.cell? ⟨A, 4, none⟩ = some (.int .i64 tn)) W2 := ⟨O2.out.cell 3, O2.out.cell 4⟩
  refine oneL (i := 10) (by kernel_rfl) rfl (fun K hK => ?_)
  go_simp
  refine (lsame_like hl.out hp.out ta tn u1 u2 _ P1.out P2.out).mono ?_; rintro e W3 ⟨rfl, hb⟩
  clear P1 P2
  have O3 := hide (O2.out.below hb)
  have H3 := hide (H2.out.bel hb)
  have B3 := hide (B2.out.trans (hb.mono B2.out.size))
  clear hb H2 O2
  refine hK.out _ _ ?_ ?_
  · exact ⟨O3.out.cell 3, O3.out.cell 4⟩
  clear hK K
  try simp only [Act.put, List.setIfInBounds_toArray, List.set_cons_zero, List.set_cons_succ]
  clear hHeld
  have hHeld : (fun w' => w'.cell? ⟨A, 3, none⟩ = some (.bool ta) ∧ w'.cell? ⟨A, 4, none⟩ = some (.int .i64 tn)) W3 := ⟨O3.out.cell 3, O3.out.cell 4⟩
  refine pickA (v := ?_) 11 (some 6) rfl rfl (by kernel_rfl) (by kernel_rfl) (by kernel_rfl) (by decide) (fun _ _ _ h => h) (by rfl) ?_ (by assumption) ?_
  rotate_left
  · intro w'
    go_simp
    try with_reducible rfl
  try simp only [Act.put, List.setIfInBounds_toArray, List.set_cons_zero, List.set_cons_succ]
  refine doneL (by kernel_rfl) ?_ _
  clear hHeld
  go_wp2
  go_ret
  exact ⟨rfl, B3.out⟩

end Go.Proofs.Ytoinjmddmahpkaa
