/- Package peer: free, where somebody waits. -/
import Derived.Test.YtdogdinkopocaaaDoorPH
import Derived.Test.YtdogdinkopocaaaDoorJR
namespace Go.Proofs.YtdogdinkopocaaaDoor
open Go.RowKit Go.Maps

theorem infoRy : (Tryd.prog.info? 63).map (fun i => (i.zero, i.size, i.bytes)) = some (some (.agg #[.int .i64 0, .int .i64 0, .bool false, .int .i64 0, .int .i64 0, .int .u64 0, .int .i64 0, .int .u64 0, .int .i64 0, .int .i64 0, .int .u64 0, .int .i64 0, .int .u64 0, .slice none 0 0]), 14, 128) := by kernel_rfl
/-- A block of another type turns (it may be of owners, if it is no lock's row). -/
theorem PAt.outo {w w' : World} {base p lp lm km : Nat} {va : Option Addr} {vc : Nat} {ma : Option Addr} {mc : Nat} {s : PS} (h : PAt w base p lp lm km va vc ma mc s) {F : Nat} {cs : Array Value} {t : TypeId} (hk : Kp [F] w w') (hF : IsB w F cs t) (h1 : t ≠ 128) (h2 : t ≠ 154) (h3 : t ≠ 98) (h5 : t ≠ 78) (h6 : t ≠ 5) (h7 : t ≠ 116) (hrow : ∀ e ∈ s.L, ∀ k, e.2.v.ownBlock = some k → k ≠ F) : PAt w' base p lp lm km va vc ma mc s := by
  refine ⟨h.blk.kp hk ?_, h.by_.kp hk ?_, h.lk.own hF h1 h2 h3 hk hrow, h.kmap.kp hk ?_, h.row.kp hk ?_, h.ne, h.lo⟩
  · simp only [List.mem_cons, List.not_mem_nil, or_false]
    exact h.blk.ne_t hF (Ne.symm h5)
  · intro k hm cur h0
    simp only [List.mem_cons, List.not_mem_nil, or_false] at hm
    subst hm
    exact h6 (cells_inj h0 hF)
  · simp only [List.mem_cons, List.not_mem_nil, or_false]
    exact fun e => h.kmap.off hF e.symm
  · intro k hv hm
    simp only [List.mem_cons, List.not_mem_nil, or_false] at hm
    subst hm
    obtain ⟨-, cur, hc⟩ := h.row.lt k hv
    exact h7 (cells_inj hc hF)
/-- A block that is new turns. -/
theorem Kpt.fresh {km lm : Nat} {a b c : World} {g : Nat} (h : Kpt km lm a b) (hk : Kp [g] b c) (hg : a.heap.size ≤ g) : Kpt km lm a c := by
  refine ⟨Nat.le_trans h.size hk.size, fun j cur t h0 h1 h2 h3 h4 => ?_, fun j es cl h0 h1 h2 => ?_⟩
  · have := h.cells j cur t h0 h1 h2 h3 h4
    exact (hk.block j (lt_of_heap this) (by simp only [List.mem_cons, List.not_mem_nil, or_false]; have := lt_of_heap h0; omega)).trans this
  · have := h.maps j es cl h0 h1 h2
    exact (hk.block j (lt_of_heap this) (by simp only [List.mem_cons, List.not_mem_nil, or_false]; have := lt_of_heap h0; omega)).trans this

/-- What free makes of a peer and tells, where somebody waits. -/
def FreeTo (w w' : World) (base p lp lm km : Nat) (va : Option Addr) (vc : Nat) (ma : Option Addr) (mc : Nat) (s : PS) (t x y n1 n2 tk : Int) (Lok : Tb → Prop) (v : Value) : Prop := ∃ L' ca cc os x0 x1 x2 x3 x4 y0 y1 y2 y3 y4, Lok L' ∧ findC s.me L' (x, y) = some (os, (x0, x1, x2, x3, x4), (y0, y1, y2, y3, y4)) ∧ Rw w' 63 14 v 2 ([.int .i64 t, .int .i64 1, .bool false, .int .i64 0, .int .i64 0, .int .u64 0, .int .i64 0, .int .u64 0, .int .i64 0, .int .i64 0, .int .u64 0, .int .i64 0, .int .u64 0, .slice none 0 0] ++ [.int .i64 tk, .int .i64 1, .bool s.mr, .int .i64 x0, .int .i64 x1, .int .u64 x2, .int .i64 x3, .int .u64 x4, .int .i64 y0, .int .i64 y1, .int .u64 y2, .int .i64 y3, .int .u64 y4, .slice ca 0 cc]) ∧ PAt w' base p lp lm km va vc ma mc { s with L := L', K := s.K.filter (fun e => decide (e.1 ≠ (x, y, n1, n2))) } ∧ Kpt km lm w w' ∧ Below base w w'

set_option maxHeartbeats 8000000 in
set_option maxRecDepth 100000 in
theorem pfree_next (base p lp lm km : Nat) (va : Option Addr) (vc : Nat) (ma : Option Addr) (mc : Nat) (s : PS) (w : World) (h : PAt w base p lp lm km va vc ma mc s) (hB : base ≤ w.heap.size) (t : Int) (k x y r0 r1 r2 r3 r4 s0 s1 s2 s3 s4 a o : Int) (hv : okV (x, y)) (hm : okMe s.me) (hy : 0 ≤ y) (n1 n2 : Int) (hC : okC (x, y, n1, n2)) (tn tk : Int) (hinK : ((x, y, n1, n2), (tn, tk)) ∈ s.K) (Lok : Tb → Prop) (hrec : ∀ L', Lok L' → ∃ os x0 x1 x2 x3 x4 y0 y1 y2 y3 y4, findC s.me L' (x, y) = some (os, (x0, x1, x2, x3, x4), (y0, y1, y2, y3, y4))) (hFr : ∀ W : World, LK W base lp lm s.me s.L → base ≤ W.heap.size → Calls Tryd.prog 49 #[.pointer (some ⟨lp, 0, none⟩), .agg #[.int .i64 x, .int .u64 y], .agg #[.int .i64 a, .int .i64 o]] W fun e w' => e = .returned (.tuple #[.agg #[.int .i64 n1, .int .i64 n2], .bool true, .int .i64 0]) ∧ ∃ L', Lok L' ∧ (∀ d ∈ L', ∀ k, d.2.v.ownBlock = some k → (∃ c ∈ s.L, c.2.v.ownBlock = some k) ∨ W.heap.size ≤ k) ∧ KX W w' base lp lm s.me s.L L') : Calls Tryd.prog 33 #[.pointer (some ⟨p, 0, none⟩), .int .i64 t, .agg #[.int .i64 k, .int .i64 x, .int .u64 y, .int .i64 r0, .int .i64 r1, .int .u64 r2, .int .i64 r3, .int .u64 r4, .int .i64 s0, .int .i64 s1, .int .u64 s2, .int .i64 s3, .int .u64 s4, .int .i64 a, .int .i64 o]] w fun e w' => ∃ qa qc, e = .returned (.slice qa 2 qc) ∧ FreeTo w w' base p lp lm km va vc ma mc s t x y n1 n2 tk Lok (.slice qa 2 qc) := by
  have mixed : Tryd.prog.follows .mixedOrders = true := by kernel_rfl
  have hFr := hide hFr
  have hC := hide hC
  have hrec := hide hrec
  have hinK := hide hinK
  have b1 : Below w.heap.size w (w.alloc (.cells #[.int .i64 k, .int .i64 x, .int .u64 y, .int .i64 r0, .int .i64 r1, .int .u64 r2, .int .i64 r3, .int .u64 r4, .int .i64 s0, .int .i64 s1, .int .u64 s2, .int .i64 s3, .int .u64 s4, .int .i64 a, .int .i64 o] 58)) := (Below.refl _ w).alloc (Nat.le_refl _) _
  have X := hide (h.below b1)
  have A := hide (IsB.new w #[.int .i64 k, .int .i64 x, .int .u64 y, .int .i64 r0, .int .i64 r1, .int .u64 r2, .int .i64 r3, .int .u64 r4, .int .i64 s0, .int .i64 s1, .int .u64 s2, .int .i64 s3, .int .u64 s4, .int .i64 a, .int .i64 o] 58)
  have B := hide (b1.mono hB)
  have Kt : Hid (Kpt km lm w (w.alloc (.cells #[.int .i64 k, .int .i64 x, .int .u64 y, .int .i64 r0, .int .i64 r1, .int .u64 r2, .int .i64 r3, .int .u64 r4, .int .i64 s0, .int .i64 s1, .int .u64 s2, .int .i64 s3, .int .u64 s4, .int .i64 a, .int .i64 o] 58))) := Kpt.of_below b1
  have hBs : base ≤ (w.alloc (.cells #[.int .i64 k, .int .i64 x, .int .u64 y, .int .i64 r0, .int .i64 r1, .int .u64 r2, .int .i64 r3, .int .u64 r4, .int .i64 s0, .int .i64 s1, .int .u64 s2, .int .i64 s3, .int .u64 s4, .int .i64 a, .int .i64 o] 58)).heap.size := by simp; omega
  clear h b1
  go_enter Tryd.func33, Tryd.ntmps33
  go_wp2_with fail
  generalize w.alloc (.cells #[.int .i64 k, .int .i64 x, .int .u64 y, .int .i64 r0, .int .i64 r1, .int .u64 r2, .int .i64 r3, .int .u64 r4, .int .i64 s0, .int .i64 s1, .int .u64 s2, .int .i64 s3, .int .u64 s4, .int .i64 a, .int .i64 o] 58) = W1 at X A B Kt hBs ⊢
  generalize hA0 : Value.agg #[.int .i64 k, .int .i64 x, .int .u64 y, .int .i64 r0, .int .i64 r1, .int .u64 r2, .int .i64 r3, .int .u64 r4, .int .i64 s0, .int .i64 s1, .int .u64 s2, .int .i64 s3, .int .u64 s4, .int .i64 a, .int .i64 o] = A0
  clear hA0
  generalize hH : w.heap.size = H at A ⊢
  replace hH := hide hH
  replace X := hide (X.out.below (Below.refl _ W1).drew)
  replace A := hide (A.out.below (Below.refl _ W1).drew)
  replace Kt := hide (Kt.out.trans (Kpt.of_below (Below.refl _ W1).drew))
  replace B := hide B.out.drew
  replace hBs : base ≤ W1.drew.heap.size := hBs
  refine regionL 17 (fun w' => w'.cell? ⟨p, 8, none⟩ = some (.pointer (some ⟨lp, 0, none⟩)) ∧ w'.cell? ⟨H, 1, none⟩ = some (.int .i64 x) ∧ w'.cell? ⟨H, 2, none⟩ = some (.int .u64 y) ∧ w'.cell? ⟨H, 13, none⟩ = some (.int .i64 a) ∧ w'.cell? ⟨H, 14, none⟩ = some (.int .i64 o)) mixed ⟨X.out.blk.cell 8, A.out.cell 1, A.out.cell 2, A.out.cell 13, A.out.cell 14⟩ (fun hHeld => ?_)
  generalize hW2 : W1.drew = W2 at *
  clear hW2
  refine pickA (v := ?_) 0 (some 12) rfl rfl (by kernel_rfl) (by kernel_rfl) (by kernel_rfl) (by decide) (fun _ _ _ h => h) (by rfl) ?_ (by assumption) ?_
  rotate_left
  · intro w'
    go_simp
    try with_reducible rfl
  try simp only [Act.put, List.setIfInBounds_toArray, List.set_cons_zero, List.set_cons_succ]
  refine pickA (v := ?_) 1 (some 13) rfl rfl (by kernel_rfl) (by kernel_rfl) (by kernel_rfl) (by decide) (fun _ _ _ h => h) (by rfl) ?_ (by assumption) ?_
  rotate_left
  · intro w'
    go_simp
    try with_reducible rfl
  try simp only [Act.put, List.setIfInBounds_toArray, List.set_cons_zero, List.set_cons_succ]
  refine pickA (v := ?_) 2 (some 14) rfl rfl (by kernel_rfl) (by kernel_rfl) (by kernel_rfl) (by decide) (fun _ _ _ h => h) (by rfl) ?_ (by assumption) ?_
  rotate_left
  · intro w'
    go_simp
    try with_reducible rfl
  try simp only [Act.put, List.setIfInBounds_toArray, List.set_cons_zero, List.set_cons_succ]
  refine pickL (v := ?_) 3 (some 15) rfl rfl (by kernel_rfl) (by kernel_rfl) (by kernel_rfl) (by decide) (by kernel_rfl) (by kernel_rfl) (fun _ _ _ h => h) (by rfl) ?_ (by assumption) ?_
  rotate_left
  · intro w' hSw
    obtain ⟨q0, q1, q2, q3, q4⟩ := hSw
    go_simp
    try with_reducible rfl
  try simp only [Act.put, List.setIfInBounds_toArray, List.set_cons_zero, List.set_cons_succ]
  refine pickA (v := ?_) 4 (some 16) rfl rfl (by kernel_rfl) (by kernel_rfl) (by kernel_rfl) (by decide) (fun _ _ _ h => h) (by rfl) ?_ (by assumption) ?_
  rotate_left
  · intro w'
    go_simp
    try with_reducible rfl
  try simp only [Act.put, List.setIfInBounds_toArray, List.set_cons_zero, List.set_cons_succ]
  refine pickL (v := ?_) 5 (some 17) rfl rfl (by kernel_rfl) (by kernel_rfl) (by kernel_rfl) (by decide) (by kernel_rfl) (by kernel_rfl) (fun _ _ _ h => h) (by rfl) ?_ (by assumption) ?_
  rotate_left
  · intro w' hSw
    obtain ⟨q0, q1, q2, q3, q4⟩ := hSw
    go_simp
    try with_reducible rfl
  try simp only [Act.put, List.setIfInBounds_toArray, List.set_cons_zero, List.set_cons_succ]
  refine pickA (v := ?_) 6 (some 18) rfl rfl (by kernel_rfl) (by kernel_rfl) (by kernel_rfl) (by decide) (fun _ _ _ h => h) (by rfl) ?_ (by assumption) ?_
  rotate_left
  · intro w'
    go_simp
    try with_reducible rfl
  try simp only [Act.put, List.setIfInBounds_toArray, List.set_cons_zero, List.set_cons_succ]
  refine pickL (v := ?_) 7 (some 19) rfl rfl (by kernel_rfl) (by kernel_rfl) (by kernel_rfl) (by decide) (by kernel_rfl) (by kernel_rfl) (fun _ _ _ h => h) (by rfl) ?_ (by assumption) ?_
  rotate_left
  · intro w' hSw
    obtain ⟨q0, q1, q2, q3, q4⟩ := hSw
    go_simp
    try with_reducible rfl
  try simp only [Act.put, List.setIfInBounds_toArray, List.set_cons_zero, List.set_cons_succ]
  refine twoL (i := 8) (j := 13) (by kernel_rfl) rfl rfl (fun K hK => ?_) (fun K hK => ?_)
  · go_simp
    refine (hFr.out _ X.out.lk hBs).mono ?_; rintro e w3 ⟨rfl, L', hLok, hrows, hx⟩
    have kx := hx.kpt (km := km) X.out.lk
    have lx := hx.low X.out.lk hBs
    have hold : ∀ c ∈ s.L, ∀ k, c.2.v.ownBlock = some k → k < W2.heap.size := fun c hc k hk => ((X.out.lk.recs c hc).ls.row.lt k hk).1
    replace X := hide (X.out.kx hx)
    replace A := hide (kx.isB A.out (by decide) (by decide) (by decide) (by decide))
    replace Kt := hide (Kt.out.trans kx)
    replace B := hide (B.out.trans lx)
    replace hBs : base ≤ w3.heap.size := Nat.le_trans hBs lx.size
    clear hx kx lx hold
    have hS : (fun w' => w'.cell? ⟨p, 8, none⟩ = some (.pointer (some ⟨lp, 0, none⟩)) ∧ w'.cell? ⟨H, 1, none⟩ = some (.int .i64 x) ∧ w'.cell? ⟨H, 2, none⟩ = some (.int .u64 y) ∧ w'.cell? ⟨H, 13, none⟩ = some (.int .i64 a) ∧ w'.cell? ⟨H, 14, none⟩ = some (.int .i64 o)) w3 := ⟨X.out.blk.cell 8, A.out.cell 1, A.out.cell 2, A.out.cell 13, A.out.cell 14⟩
    refine hK.out _ _ ?_ ?_
    · exact hS
    clear hK K
    try simp only [Act.put, List.setIfInBounds_toArray, List.set_cons_zero, List.set_cons_succ]
    clear hHeld
    have hHeld := hS
    clear hS
    refine pickA (v := ?_) 9 (some 11) rfl rfl (by kernel_rfl) (by kernel_rfl) (by kernel_rfl) (by decide) (fun _ _ _ h => h) (by rfl) ?_ (by assumption) ?_
    rotate_left
    · intro w'
      go_simp
      try with_reducible rfl
    try simp only [Act.put, List.setIfInBounds_toArray, List.set_cons_zero, List.set_cons_succ]
    refine pickA (v := ?_) 10 (some 21) rfl rfl (by kernel_rfl) (by kernel_rfl) (by kernel_rfl) (by decide) (fun _ _ _ h => h) (by rfl) ?_ (by assumption) ?_
    rotate_left
    · intro w'
      go_simp
      try with_reducible rfl
    try simp only [Act.put, List.setIfInBounds_toArray, List.set_cons_zero, List.set_cons_succ]
    refine pickA (v := ?_) 11 (some 22) rfl rfl (by kernel_rfl) (by kernel_rfl) (by kernel_rfl) (by decide) (fun _ _ _ h => h) (by rfl) ?_ (by assumption) ?_
    rotate_left
    · intro w'
      go_simp
      try with_reducible rfl
    try simp only [Act.put, List.setIfInBounds_toArray, List.set_cons_zero, List.set_cons_succ]
    refine pickA (v := ?_) 12 (some 23) rfl rfl (by kernel_rfl) (by kernel_rfl) (by kernel_rfl) (by decide) (fun _ _ _ h => h) (by rfl) ?_ (by assumption) ?_
    rotate_left
    · intro w'
      go_simp
      try with_reducible rfl
    try simp only [Act.put, List.setIfInBounds_toArray, List.set_cons_zero, List.set_cons_succ]
    refine oneL (i := 13) (by kernel_rfl) rfl (fun K hK => ?_)
    go_simp
    have ba := (Below.refl _ w3).alloc (Nat.le_refl _) (.cells #[.int .i64 0, .int .i64 0] 52)
    have G := hide (IsB.new w3 #[.int .i64 0, .int .i64 0] 52)
    have hrg : Hid (∀ d ∈ L', ∀ k, d.2.v.ownBlock = some k → k ≠ w3.heap.size) := fun d hd k hk e => by have := ((X.out.lk.recs d hd).ls.row.lt k hk).1; omega
    clear hrows
    have hgb : base ≤ w3.heap.size := hBs
    have hgw0 : w.heap.size ≤ w3.heap.size := Kt.out.size
    replace X := hide (X.out.below ba)
    replace A := hide (A.out.below ba)
    replace Kt := hide (Kt.out.trans (Kpt.of_below ba))
    replace B := hide (B.out.trans (ba.mono hBs))
    replace hBs : base ≤ _ := Nat.le_trans hBs ba.size
    clear ba
    have hS : (fun w' => w'.cell? ⟨p, 8, none⟩ = some (.pointer (some ⟨lp, 0, none⟩)) ∧ w'.cell? ⟨H, 1, none⟩ = some (.int .i64 x) ∧ w'.cell? ⟨H, 2, none⟩ = some (.int .u64 y) ∧ w'.cell? ⟨H, 13, none⟩ = some (.int .i64 a) ∧ w'.cell? ⟨H, 14, none⟩ = some (.int .i64 o)) (w3.alloc (.cells #[.int .i64 0, .int .i64 0] 52)) := ⟨X.out.blk.cell 8, A.out.cell 1, A.out.cell 2, A.out.cell 13, A.out.cell 14⟩
    refine hK.out _ _ ?_ ?_
    · exact hS
    clear hK K
    try simp only [Act.put, List.setIfInBounds_toArray, List.set_cons_zero, List.set_cons_succ]
    clear hHeld
    have hHeld := hS
    clear hS
    generalize w3.alloc (.cells #[.int .i64 0, .int .i64 0] 52) = W6 at X A B Kt hBs G hHeld ⊢
    generalize w3.heap.size = g at G hrg hgb hgw0 ⊢
    have hgw : w.heap.size ≤ g := hgw0
    have z0 := G.out.free 0
    have z1 := G.out.free 1
    have c0 : W6.cell? ⟨g, 0, none⟩ = some (.int .i64 0) := G.out.cell 0
    have c1 : W6.cell? ⟨g, 1, none⟩ = some (.int .i64 0) := G.out.cell 1
    have fl := G.out.lt
    refine oneL (i := 14) (by kernel_rfl) rfl (fun K hK => ?_)
    go_simp
    clear z0 z1 c0 c1
    have k5 : Kp [g] W6 (put2 W6 g (.int .i64 n1) (.int .i64 n2)) := put2_kp W6 g _ _
    have hpW : (W6.setCell ⟨g, 0, none⟩ (.int .i64 n1)).setCell ⟨g, 1, none⟩ (.int .i64 n2) = put2 W6 g (.int .i64 n1) (.int .i64 n2) := rfl
    first | rw [hpW] | skip
    clear hpW
    have G7 := hide (put2_is G.out (.int .i64 n1) (.int .i64 n2))
    have X7 := hide (X.out.outo k5 G.out (by decide) (by decide) (by decide) (by decide) (by decide) (by decide) hrg.out)
    have A7 := hide (A.out.kp k5 (by simp only [List.mem_cons, List.not_mem_nil, or_false]; exact A.out.ne_t G.out (by decide)))
    have B7 := hide (B.out.trans (k5.to_below hBs (by simp; omega)))
    have Kt7 := hide (Kt.out.fresh k5 hgw)
    have hBs7 : base ≤ (put2 W6 g (.int .i64 n1) (.int .i64 n2)).heap.size := Nat.le_trans hBs k5.size
    clear k5 X A B Kt hBs G
    generalize put2 W6 g (.int .i64 n1) (.int .i64 n2) = W7 at X7 A7 B7 Kt7 hBs7 G7 ⊢
    have hS : (fun w' => w'.cell? ⟨p, 8, none⟩ = some (.pointer (some ⟨lp, 0, none⟩)) ∧ w'.cell? ⟨H, 1, none⟩ = some (.int .i64 x) ∧ w'.cell? ⟨H, 2, none⟩ = some (.int .u64 y) ∧ w'.cell? ⟨H, 13, none⟩ = some (.int .i64 a) ∧ w'.cell? ⟨H, 14, none⟩ = some (.int .i64 o)) W7 := ⟨X7.out.blk.cell 8, A7.out.cell 1, A7.out.cell 2, A7.out.cell 13, A7.out.cell 14⟩
    refine hK.out _ _ ?_ ?_
    · exact hS
    clear hK K
    try simp only [Act.put, List.setIfInBounds_toArray, List.set_cons_zero, List.set_cons_succ]
    clear hHeld
    have hHeld := hS
    clear hS
    refine pickA (v := ?_) 15 (some 8) rfl rfl (by kernel_rfl) (by kernel_rfl) (by kernel_rfl) (by decide) (fun _ _ _ h => h) (by rfl) ?_ (by assumption) ?_
    rotate_left
    · intro w'
      go_simp
      try with_reducible rfl
    try simp only [Act.put, List.setIfInBounds_toArray, List.set_cons_zero, List.set_cons_succ]
    refine pickA (v := ?_) 16 (some 9) rfl rfl (by kernel_rfl) (by kernel_rfl) (by kernel_rfl) (by decide) (fun _ _ _ h => h) (by rfl) ?_ (by assumption) ?_
    rotate_left
    · intro w'
      go_simp
      try with_reducible rfl
    try simp only [Act.put, List.setIfInBounds_toArray, List.set_cons_zero, List.set_cons_succ]
    refine doneL (by kernel_rfl) ?_ _
    clear hHeld
    go_wp2_with fail
    refine (done_ok 0 rfl _).mono ?_; rintro e w8 ⟨rfl, b8⟩
    replace X7 := hide (X7.out.below b8)
    replace A7 := hide (A7.out.below b8)
    replace G7 := hide (G7.out.below b8)
    replace Kt7 := hide (Kt7.out.trans (Kpt.of_below b8))
    replace B7 := hide (B7.out.trans (b8.mono hBs7))
    replace hBs7 : base ≤ _ := Nat.le_trans hBs7 b8.size
    go_wp2_with fail
    refine (only_any t 1 false 0 0 0 0 0 0 0 0 0 0 none 0 0 _).mono ?_; rintro e w9 ⟨rb9, rfl, hrb, hI, b9⟩
    have R := hide hI
    have hrb2 : w.heap.size ≤ rb9 := Nat.le_trans (Nat.le_trans Kt7.out.size (Nat.le_refl _)) hrb
    replace X7 := hide (X7.out.below b9)
    replace A7 := hide (A7.out.below b9)
    replace G7 := hide (G7.out.below b9)
    replace Kt7 := hide (Kt7.out.trans (Kpt.of_below b9))
    replace B7 := hide (B7.out.trans (b9.mono hBs7))
    replace hBs7 : base ≤ _ := Nat.le_trans hBs7 b9.size
    clear hI
    go_wp2
    replace X7 := hide (X7.out.below (Below.refl w9.heap.size w9).drew)
    replace A7 := hide (A7.out.below (Below.refl w9.heap.size w9).drew)
    replace G7 := hide (G7.out.below (Below.refl w9.heap.size w9).drew)
    replace Kt7 := hide (Kt7.out.trans (Kpt.of_below (Below.refl w9.heap.size w9).drew))
    replace B7 := hide (B7.out.trans ((Below.refl w9.heap.size w9).drew.mono hBs7))
    replace hBs7 : base ≤ _ := Nat.le_trans hBs7 (Below.refl w9.heap.size w9).drew.size
    replace R := hide (R.out.below (Below.refl w9.heap.size w9).drew)
    refine regionL 14 (fun w' => w'.cell? ⟨H, 1, none⟩ = some (.int .i64 x) ∧ w'.cell? ⟨H, 2, none⟩ = some (.int .u64 y) ∧ w'.cell? ⟨g, 0, none⟩ = some (.int .i64 n1) ∧ w'.cell? ⟨g, 1, none⟩ = some (.int .i64 n2)) mixed ⟨A7.out.cell 1, A7.out.cell 2, G7.out.cell 0, G7.out.cell 1⟩ (fun hHeld => ?_)
    refine pickA (v := ?_) 0 (some 29) rfl rfl (by kernel_rfl) (by kernel_rfl) (by kernel_rfl) (by decide) (fun _ _ _ h => h) (by rfl) ?_ (by assumption) ?_
    rotate_left
    · intro w'
      go_simp
      try with_reducible rfl
    try simp only [Act.put, List.setIfInBounds_toArray, List.set_cons_zero, List.set_cons_succ]
    refine pickA (v := ?_) 1 (some 30) rfl rfl (by kernel_rfl) (by kernel_rfl) (by kernel_rfl) (by decide) (fun _ _ _ h => h) (by rfl) ?_ (by assumption) ?_
    rotate_left
    · intro w'
      go_simp
      try with_reducible rfl
    try simp only [Act.put, List.setIfInBounds_toArray, List.set_cons_zero, List.set_cons_succ]
    refine pickA (v := ?_) 2 (some 31) rfl rfl (by kernel_rfl) (by kernel_rfl) (by kernel_rfl) (by decide) (fun _ _ _ h => h) (by rfl) ?_ (by assumption) ?_
    rotate_left
    · intro w'
      go_simp
      try with_reducible rfl
    try simp only [Act.put, List.setIfInBounds_toArray, List.set_cons_zero, List.set_cons_succ]
    refine pickL (v := ?_) 3 (some 32) rfl rfl (by kernel_rfl) (by kernel_rfl) (by kernel_rfl) (by decide) (by kernel_rfl) (by kernel_rfl) (fun _ _ _ h => h) (by rfl) ?_ (by assumption) ?_
    rotate_left
    · intro w' hSw
      obtain ⟨q0, q1, q2, q3⟩ := hSw
      go_simp
      try with_reducible rfl
    try simp only [Act.put, List.setIfInBounds_toArray, List.set_cons_zero, List.set_cons_succ]
    refine pickL (v := ?_) 4 (some 33) rfl rfl (by kernel_rfl) (by kernel_rfl) (by kernel_rfl) (by decide) (by kernel_rfl) (by kernel_rfl) (fun _ _ _ h => h) (by rfl) ?_ (by assumption) ?_
    rotate_left
    · intro w' hSw
      obtain ⟨q0, q1, q2, q3⟩ := hSw
      go_simp
      try with_reducible rfl
    try simp only [Act.put, List.setIfInBounds_toArray, List.set_cons_zero, List.set_cons_succ]
    refine pickA (v := ?_) 6 (some 35) rfl rfl (by kernel_rfl) (by kernel_rfl) (by kernel_rfl) (by decide) (fun _ _ _ h => h) (by rfl) ?_ (by assumption) ?_
    rotate_left
    · intro w'
      go_simp
      try with_reducible rfl
    try simp only [Act.put, List.setIfInBounds_toArray, List.set_cons_zero, List.set_cons_succ]
    refine pickA (v := ?_) 7 (some 36) rfl rfl (by kernel_rfl) (by kernel_rfl) (by kernel_rfl) (by decide) (fun _ _ _ h => h) (by rfl) ?_ (by assumption) ?_
    rotate_left
    · intro w'
      go_simp
      try with_reducible rfl
    try simp only [Act.put, List.setIfInBounds_toArray, List.set_cons_zero, List.set_cons_succ]
    refine pickL (v := ?_) 8 (some 37) rfl rfl (by kernel_rfl) (by kernel_rfl) (by kernel_rfl) (by decide) (by kernel_rfl) (by kernel_rfl) (fun _ _ _ h => h) (by rfl) ?_ (by assumption) ?_
    rotate_left
    · intro w' hSw
      obtain ⟨q0, q1, q2, q3⟩ := hSw
      go_simp
      try with_reducible rfl
    try simp only [Act.put, List.setIfInBounds_toArray, List.set_cons_zero, List.set_cons_succ]
    refine oneL (i := 5) (by kernel_rfl) rfl (fun K hK => ?_)
    go_simp
    refine (called_any base p lp lm km va vc ma mc _ _ X7.out hBs7 x y n1 n2 hC.out tn tk hinK.out).mono ?_; rintro e w10 ⟨rfl, x10, kt10, b10⟩
    replace X7 := hide x10
    replace A7 := hide (kt10.isB A7.out (by decide) (by decide) (by decide) (by decide))
    replace G7 := hide (kt10.isB G7.out (by decide) (by decide) (by decide) (by decide))
    replace R := hide (kt10.isB R.out (by decide) (by decide) (by decide) (by decide))
    replace Kt7 := hide (Kt7.out.trans kt10)
    replace B7 := hide (B7.out.trans b10)
    replace hBs7 : base ≤ w10.heap.size := Nat.le_trans hBs7 b10.size
    clear x10 kt10 b10
    refine hK.out _ _ ?_ ?_
    · exact ⟨A7.out.cell 1, A7.out.cell 2, G7.out.cell 0, G7.out.cell 1⟩
    clear hK K
    try simp only [Act.put, List.setIfInBounds_toArray, List.set_cons_zero, List.set_cons_succ]
    clear hHeld
    have hHeld : (fun w' => w'.cell? ⟨H, 1, none⟩ = some (.int .i64 x) ∧ w'.cell? ⟨H, 2, none⟩ = some (.int .u64 y) ∧ w'.cell? ⟨g, 0, none⟩ = some (.int .i64 n1) ∧ w'.cell? ⟨g, 1, none⟩ = some (.int .i64 n2)) w10 := ⟨A7.out.cell 1, A7.out.cell 2, G7.out.cell 0, G7.out.cell 1⟩
    refine oneL (i := 9) (by kernel_rfl) rfl (fun K hK => ?_)
    go_simp
    obtain ⟨os, x0, x1, x2, x3, x4, y0, y1, y2, y3, y4, hfd⟩ := hrec.out L' hLok
    refine (rec_some base p lp lm km va vc ma mc _ _ X7.out hBs7 x y hv hm hy os x0 x1 x2 x3 x4 y0 y1 y2 y3 y4 hfd none 0 [] (by simp) (fun _ => rfl) (Or.inl ⟨rfl, rfl⟩)).mono ?_; rintro e w11 ⟨ca, cc, rfl, hby, b11⟩
    have BY := hide hby
    replace X7 := hide (X7.out.below b11)
    replace A7 := hide (A7.out.below b11)
    replace G7 := hide (G7.out.below b11)
    replace Kt7 := hide (Kt7.out.trans (Kpt.of_below b11))
    replace B7 := hide (B7.out.trans (b11.mono hBs7))
    replace hBs7 : base ≤ _ := Nat.le_trans hBs7 b11.size
    replace R := hide (R.out.below b11)
    clear hby
    refine hK.out _ _ ?_ ?_
    · exact ⟨A7.out.cell 1, A7.out.cell 2, G7.out.cell 0, G7.out.cell 1⟩
    clear hK K
    skip
    clear hHeld
    have hHeld : (fun w' => w'.cell? ⟨H, 1, none⟩ = some (.int .i64 x) ∧ w'.cell? ⟨H, 2, none⟩ = some (.int .u64 y) ∧ w'.cell? ⟨g, 0, none⟩ = some (.int .i64 n1) ∧ w'.cell? ⟨g, 1, none⟩ = some (.int .i64 n2)) w11 := ⟨A7.out.cell 1, A7.out.cell 2, G7.out.cell 0, G7.out.cell 1⟩
    refine oneL (i := 10) (by kernel_rfl) rfl (fun K hK => ?_)
    go_simp
    refine (ready_any tk 1 s.mr x0 x1 x2 x3 x4 y0 y1 y2 y3 y4 ca 0 cc _).mono ?_; rintro e w12 ⟨rfl, b12⟩
    replace X7 := hide (X7.out.below b12)
    replace A7 := hide (A7.out.below b12)
    replace G7 := hide (G7.out.below b12)
    replace Kt7 := hide (Kt7.out.trans (Kpt.of_below b12))
    replace B7 := hide (B7.out.trans (b12.mono hBs7))
    replace hBs7 : base ≤ _ := Nat.le_trans hBs7 b12.size
    replace R := hide (R.out.below b12)
    replace BY := hide (BY.out.below b12)
    refine hK.out _ _ ?_ ?_
    · exact ⟨A7.out.cell 1, A7.out.cell 2, G7.out.cell 0, G7.out.cell 1⟩
    clear hK K
    try simp only [Act.put, List.setIfInBounds_toArray, List.set_cons_zero, List.set_cons_succ]
    clear hHeld
    have hHeld : (fun w' => w'.cell? ⟨H, 1, none⟩ = some (.int .i64 x) ∧ w'.cell? ⟨H, 2, none⟩ = some (.int .u64 y) ∧ w'.cell? ⟨g, 0, none⟩ = some (.int .i64 n1) ∧ w'.cell? ⟨g, 1, none⟩ = some (.int .i64 n2)) w12 := ⟨A7.out.cell 1, A7.out.cell 2, G7.out.cell 0, G7.out.cell 1⟩
    refine oneL (i := 11) (by kernel_rfl) rfl (fun K hK => ?_)
    go_simp
    have b13 := (Below.refl _ w12).alloc (Nat.le_refl _) (.cells #[.int .i64 tk, .int .i64 1, .bool s.mr, .int .i64 x0, .int .i64 x1, .int .u64 x2, .int .i64 x3, .int .u64 x4, .int .i64 y0, .int .i64 y1, .int .u64 y2, .int .i64 y3, .int .u64 y4, .slice ca 0 cc] 63)
    have N := hide (IsB.new w12 #[.int .i64 tk, .int .i64 1, .bool s.mr, .int .i64 x0, .int .i64 x1, .int .u64 x2, .int .i64 x3, .int .u64 x4, .int .i64 y0, .int .i64 y1, .int .u64 y2, .int .i64 y3, .int .u64 y4, .slice ca 0 cc] 63)
    replace X7 := hide (X7.out.below b13)
    replace A7 := hide (A7.out.below b13)
    replace G7 := hide (G7.out.below b13)
    replace Kt7 := hide (Kt7.out.trans (Kpt.of_below b13))
    replace B7 := hide (B7.out.trans (b13.mono hBs7))
    replace hBs7 : base ≤ _ := Nat.le_trans hBs7 b13.size
    replace R := hide (R.out.below b13)
    replace BY := hide (BY.out.below b13)
    generalize w12.alloc (.cells #[.int .i64 tk, .int .i64 1, .bool s.mr, .int .i64 x0, .int .i64 x1, .int .u64 x2, .int .i64 x3, .int .u64 x4, .int .i64 y0, .int .i64 y1, .int .u64 y2, .int .i64 y3, .int .u64 y4, .slice ca 0 cc] 63) = W13 at X7 A7 G7 Kt7 B7 hBs7 R BY N ⊢
    generalize w12.heap.size = nb at N ⊢
    refine hK.out _ _ ?_ ?_
    · exact ⟨A7.out.cell 1, A7.out.cell 2, G7.out.cell 0, G7.out.cell 1⟩
    clear hK K
    try simp only [Act.put, List.setIfInBounds_toArray, List.set_cons_zero, List.set_cons_succ]
    clear hHeld
    have hHeld : (fun w' => w'.cell? ⟨H, 1, none⟩ = some (.int .i64 x) ∧ w'.cell? ⟨H, 2, none⟩ = some (.int .u64 y) ∧ w'.cell? ⟨g, 0, none⟩ = some (.int .i64 n1) ∧ w'.cell? ⟨g, 1, none⟩ = some (.int .i64 n2)) W13 := ⟨A7.out.cell 1, A7.out.cell 2, G7.out.cell 0, G7.out.cell 1⟩
    refine oneL (i := 12) (by kernel_rfl) rfl (fun K hK => ?_)
    obtain ⟨i0, hi0, hz0, hz1, hz2⟩ := info_parts infoRy
    have hown : Rw W13 63 14 (.slice (some ⟨rb9, 0, none⟩) 1 1) 1 [.int .i64 t, .int .i64 1, .bool false, .int .i64 0, .int .i64 0, .int .u64 0, .int .i64 0, .int .u64 0, .int .i64 0, .int .i64 0, .int .u64 0, .int .i64 0, .int .u64 0, .slice none 0 0] := ⟨rfl, Or.inr ⟨rb9, 1, #[.int .i64 t, .int .i64 1, .bool false, .int .i64 0, .int .i64 0, .int .u64 0, .int .i64 0, .int .u64 0, .int .i64 0, .int .i64 0, .int .u64 0, .int .i64 0, .int .u64 0, .slice none 0 0], rfl, R.out, Nat.le_refl _, by unfold maxLen; omega, by simp, rfl⟩⟩
    obtain ⟨v9, w14, hrun, hrw, hgr, hat, hnn⟩ := run_append_rw (P := Tryd.prog) W13 53 53 63 i0 _ 14 128 Tryd.underlying53 hi0 hz0 hz1 hz2 rfl _ 1 _ hown (.slice (some ⟨nb, 0, none⟩) 1 1) 1 [.int .i64 tk, .int .i64 1, .bool s.mr, .int .i64 x0, .int .i64 x1, .int .u64 x2, .int .i64 x3, .int .u64 x4, .int .i64 y0, .int .i64 y1, .int .u64 y2, .int .i64 y3, .int .u64 y4, .slice ca 0 cc] rfl (Or.inl ⟨⟨nb, 0, none⟩, 1, rfl, fun j u hu => by rw [add_none, Nat.zero_add, N.out.cell j]; simpa using hu⟩) (by intro u hu; simp at hu; rcases hu with rfl | rfl | rfl | rfl | rfl | rfl | rfl | rfl | rfl | rfl | rfl | rfl | rfl | rfl <;> rfl) (by unfold maxLen; omega) (by omega)
    obtain ⟨qa, qc, hv9, -, -⟩ := hrw.shape
    subst hv9
    have RW := hide hrw
    have k14 : Kp [rb9] W13 w14 := Kp.of_grown hgr (fun k hk => Or.inl (by simp [Value.ownBlock] at hk; simp [hk]))
    have X14 := hide (X7.out.outo k14 R.out (by decide) (by decide) (by decide) (by decide) (by decide) (by decide) (X7.out.lk.rows R.out (by decide)))
    have BY14 := hide (BY.out.kp k14 (by intro k hk cur h0; simp only [List.mem_cons, List.not_mem_nil, or_false] at hk; subst hk; exact absurd (cells_inj R.out h0) (by decide)))
    have A14 := hide (A7.out.kp k14 (by simp only [List.mem_cons, List.not_mem_nil, or_false]; exact A7.out.ne_t R.out (by decide)))
    have G14 := hide (G7.out.kp k14 (by simp only [List.mem_cons, List.not_mem_nil, or_false]; exact G7.out.ne_t R.out (by decide)))
    have Kt14 := hide (Kt7.out.fresh k14 hrb2)
    have B14 := hide (B7.out.trans (k14.to_below hBs7 (by simp; omega)))
    have HRN := hide hrun
    clear hrun hrw hgr hat hnn hown k14 i0 hi0 hz0 hz1 hz2
    refine step_append_eq rfl (.tmp 29) (.tmp 40) 53 rfl _ _ (.slice qa (1 + 1) qc) w14 rfl rfl HRN.out ?_
    refine hK.out _ _ ?_ ?_
    · exact ⟨A14.out.cell 1, A14.out.cell 2, G14.out.cell 0, G14.out.cell 1⟩
    clear hK K
    try simp only [Act.put, List.setIfInBounds_toArray]
    clear hHeld
    have hHeld : (fun w' => w'.cell? ⟨H, 1, none⟩ = some (.int .i64 x) ∧ w'.cell? ⟨H, 2, none⟩ = some (.int .u64 y) ∧ w'.cell? ⟨g, 0, none⟩ = some (.int .i64 n1) ∧ w'.cell? ⟨g, 1, none⟩ = some (.int .i64 n2)) w14 := ⟨A14.out.cell 1, A14.out.cell 2, G14.out.cell 0, G14.out.cell 1⟩
    refine pickA (v := ?_) 13 (some 10) rfl rfl (by kernel_rfl) (by kernel_rfl) (by kernel_rfl) (by decide) (fun _ _ _ h => h) (by rfl) ?_ (by assumption) ?_
    rotate_left
    · intro w'
      go_simp
      try with_reducible rfl
    try simp only [Act.put]
    refine doneL (by kernel_rfl) ?_ _
    clear hHeld
    go_wp2
    go_ret
    exact ⟨qa, qc, rfl, L', ca, cc, os, x0, x1, x2, x3, x4, y0, y1, y2, y3, y4, hLok, hfd, RW.out, X14.out, Kt14.out, B14.out⟩
  · go_simp
    have ba := (Below.refl _ W2).alloc (Nat.le_refl _) (.cells #[.int .i64 0, .int .i64 0] 52)
    have G := hide (IsB.new W2 #[.int .i64 0, .int .i64 0] 52)
    have hgb : base ≤ W2.heap.size := hBs
    have hgw0 : w.heap.size ≤ W2.heap.size := Kt.out.size
    have hgl : ∀ c ∈ s.L, ∀ k, c.2.v.ownBlock = some k → k < W2.heap.size := fun c hc k hk => ((X.out.lk.recs c hc).ls.row.lt k hk).1
    replace X := hide (X.out.below ba)
    replace A := hide (A.out.below ba)
    replace Kt := hide (Kt.out.trans (Kpt.of_below ba))
    replace B := hide (B.out.trans (ba.mono hBs))
    replace hBs : base ≤ _ := Nat.le_trans hBs ba.size
    clear ba
    have hsz : (W2.alloc (.cells #[.int .i64 0, .int .i64 0] 52)).heap.size = W2.heap.size + 1 := by simp
    have hS : (fun w' => w'.cell? ⟨p, 8, none⟩ = some (.pointer (some ⟨lp, 0, none⟩)) ∧ w'.cell? ⟨H, 1, none⟩ = some (.int .i64 x) ∧ w'.cell? ⟨H, 2, none⟩ = some (.int .u64 y) ∧ w'.cell? ⟨H, 13, none⟩ = some (.int .i64 a) ∧ w'.cell? ⟨H, 14, none⟩ = some (.int .i64 o)) (W2.alloc (.cells #[.int .i64 0, .int .i64 0] 52)) := ⟨X.out.blk.cell 8, A.out.cell 1, A.out.cell 2, A.out.cell 13, A.out.cell 14⟩
    refine hK.out _ _ ?_ ?_
    · exact hS
    clear hK K
    try simp only [Act.put, List.setIfInBounds_toArray, List.set_cons_zero, List.set_cons_succ]
    clear hHeld
    have hHeld := hS
    clear hS
    generalize W2.alloc (.cells #[.int .i64 0, .int .i64 0] 52) = W5 at X A B Kt hBs G hsz hHeld ⊢
    generalize W2.heap.size = g at G hgb hgl hsz hgw0 ⊢
    refine oneL (i := 8) (by kernel_rfl) rfl (fun K hK => ?_)
    go_simp
    refine (hFr.out _ X.out.lk hBs).mono ?_; rintro e w3 ⟨rfl, L', hLok, hrows, hx⟩
    have kx := hx.kpt (km := km) X.out.lk
    have lx := hx.low X.out.lk hBs
    have hold : ∀ c ∈ s.L, ∀ k, c.2.v.ownBlock = some k → k < W5.heap.size := fun c hc k hk => ((X.out.lk.recs c hc).ls.row.lt k hk).1
    replace X := hide (X.out.kx hx)
    replace A := hide (kx.isB A.out (by decide) (by decide) (by decide) (by decide))
    replace Kt := hide (Kt.out.trans kx)
    replace B := hide (B.out.trans lx)
    replace G := hide (kx.isB G.out (by decide) (by decide) (by decide) (by decide))
    have hrg : Hid (∀ d ∈ L', ∀ k, d.2.v.ownBlock = some k → k ≠ g) := fun d hd k hk e => by
      rcases hrows d hd k hk with ⟨c, hc, h9⟩ | h9
      · have := hgl c hc k h9; omega
      · omega
    replace hBs : base ≤ w3.heap.size := Nat.le_trans hBs lx.size
    clear hx kx lx hold hrows hgl hsz
    have hS : (fun w' => w'.cell? ⟨p, 8, none⟩ = some (.pointer (some ⟨lp, 0, none⟩)) ∧ w'.cell? ⟨H, 1, none⟩ = some (.int .i64 x) ∧ w'.cell? ⟨H, 2, none⟩ = some (.int .u64 y) ∧ w'.cell? ⟨H, 13, none⟩ = some (.int .i64 a) ∧ w'.cell? ⟨H, 14, none⟩ = some (.int .i64 o)) w3 := ⟨X.out.blk.cell 8, A.out.cell 1, A.out.cell 2, A.out.cell 13, A.out.cell 14⟩
    refine hK.out _ _ ?_ ?_
    · exact hS
    clear hK K
    try simp only [Act.put, List.setIfInBounds_toArray, List.set_cons_zero, List.set_cons_succ]
    clear hHeld
    have hHeld := hS
    clear hS
    refine pickA (v := ?_) 9 (some 11) rfl rfl (by kernel_rfl) (by kernel_rfl) (by kernel_rfl) (by decide) (fun _ _ _ h => h) (by rfl) ?_ (by assumption) ?_
    rotate_left
    · intro w'
      go_simp
      try with_reducible rfl
    try simp only [Act.put, List.setIfInBounds_toArray, List.set_cons_zero, List.set_cons_succ]
    refine pickA (v := ?_) 10 (some 21) rfl rfl (by kernel_rfl) (by kernel_rfl) (by kernel_rfl) (by decide) (fun _ _ _ h => h) (by rfl) ?_ (by assumption) ?_
    rotate_left
    · intro w'
      go_simp
      try with_reducible rfl
    try simp only [Act.put, List.setIfInBounds_toArray, List.set_cons_zero, List.set_cons_succ]
    refine pickA (v := ?_) 11 (some 22) rfl rfl (by kernel_rfl) (by kernel_rfl) (by kernel_rfl) (by decide) (fun _ _ _ h => h) (by rfl) ?_ (by assumption) ?_
    rotate_left
    · intro w'
      go_simp
      try with_reducible rfl
    try simp only [Act.put, List.setIfInBounds_toArray, List.set_cons_zero, List.set_cons_succ]
    refine pickA (v := ?_) 12 (some 23) rfl rfl (by kernel_rfl) (by kernel_rfl) (by kernel_rfl) (by decide) (fun _ _ _ h => h) (by rfl) ?_ (by assumption) ?_
    rotate_left
    · intro w'
      go_simp
      try with_reducible rfl
    try simp only [Act.put, List.setIfInBounds_toArray, List.set_cons_zero, List.set_cons_succ]
    generalize w3 = W6 at *
    have hgw : w.heap.size ≤ g := hgw0
    have z0 := G.out.free 0
    have z1 := G.out.free 1
    have c0 : W6.cell? ⟨g, 0, none⟩ = some (.int .i64 0) := G.out.cell 0
    have c1 : W6.cell? ⟨g, 1, none⟩ = some (.int .i64 0) := G.out.cell 1
    have fl := G.out.lt
    refine oneL (i := 14) (by kernel_rfl) rfl (fun K hK => ?_)
    go_simp
    clear z0 z1 c0 c1
    have k5 : Kp [g] W6 (put2 W6 g (.int .i64 n1) (.int .i64 n2)) := put2_kp W6 g _ _
    have hpW : (W6.setCell ⟨g, 0, none⟩ (.int .i64 n1)).setCell ⟨g, 1, none⟩ (.int .i64 n2) = put2 W6 g (.int .i64 n1) (.int .i64 n2) := rfl
    first | rw [hpW] | skip
    clear hpW
    have G7 := hide (put2_is G.out (.int .i64 n1) (.int .i64 n2))
    have X7 := hide (X.out.outo k5 G.out (by decide) (by decide) (by decide) (by decide) (by decide) (by decide) hrg.out)
    have A7 := hide (A.out.kp k5 (by simp only [List.mem_cons, List.not_mem_nil, or_false]; exact A.out.ne_t G.out (by decide)))
    have B7 := hide (B.out.trans (k5.to_below hBs (by simp; omega)))
    have Kt7 := hide (Kt.out.fresh k5 hgw)
    have hBs7 : base ≤ (put2 W6 g (.int .i64 n1) (.int .i64 n2)).heap.size := Nat.le_trans hBs k5.size
    clear k5 X A B Kt hBs G
    generalize put2 W6 g (.int .i64 n1) (.int .i64 n2) = W7 at X7 A7 B7 Kt7 hBs7 G7 ⊢
    have hS : (fun w' => w'.cell? ⟨p, 8, none⟩ = some (.pointer (some ⟨lp, 0, none⟩)) ∧ w'.cell? ⟨H, 1, none⟩ = some (.int .i64 x) ∧ w'.cell? ⟨H, 2, none⟩ = some (.int .u64 y) ∧ w'.cell? ⟨H, 13, none⟩ = some (.int .i64 a) ∧ w'.cell? ⟨H, 14, none⟩ = some (.int .i64 o)) W7 := ⟨X7.out.blk.cell 8, A7.out.cell 1, A7.out.cell 2, A7.out.cell 13, A7.out.cell 14⟩
    refine hK.out _ _ ?_ ?_
    · exact hS
    clear hK K
    try simp only [Act.put, List.setIfInBounds_toArray, List.set_cons_zero, List.set_cons_succ]
    clear hHeld
    have hHeld := hS
    clear hS
    refine pickA (v := ?_) 15 (some 8) rfl rfl (by kernel_rfl) (by kernel_rfl) (by kernel_rfl) (by decide) (fun _ _ _ h => h) (by rfl) ?_ (by assumption) ?_
    rotate_left
    · intro w'
      go_simp
      try with_reducible rfl
    try simp only [Act.put, List.setIfInBounds_toArray, List.set_cons_zero, List.set_cons_succ]
    refine pickA (v := ?_) 16 (some 9) rfl rfl (by kernel_rfl) (by kernel_rfl) (by kernel_rfl) (by decide) (fun _ _ _ h => h) (by rfl) ?_ (by assumption) ?_
    rotate_left
    · intro w'
      go_simp
      try with_reducible rfl
    try simp only [Act.put, List.setIfInBounds_toArray, List.set_cons_zero, List.set_cons_succ]
    refine doneL (by kernel_rfl) ?_ _
    clear hHeld
    go_wp2_with fail
    refine (done_ok 0 rfl _).mono ?_; rintro e w8 ⟨rfl, b8⟩
    replace X7 := hide (X7.out.below b8)
    replace A7 := hide (A7.out.below b8)
    replace G7 := hide (G7.out.below b8)
    replace Kt7 := hide (Kt7.out.trans (Kpt.of_below b8))
    replace B7 := hide (B7.out.trans (b8.mono hBs7))
    replace hBs7 : base ≤ _ := Nat.le_trans hBs7 b8.size
    go_wp2_with fail
    refine (only_any t 1 false 0 0 0 0 0 0 0 0 0 0 none 0 0 _).mono ?_; rintro e w9 ⟨rb9, rfl, hrb, hI, b9⟩
    have R := hide hI
    have hrb2 : w.heap.size ≤ rb9 := Nat.le_trans (Nat.le_trans Kt7.out.size (Nat.le_refl _)) hrb
    replace X7 := hide (X7.out.below b9)
    replace A7 := hide (A7.out.below b9)
    replace G7 := hide (G7.out.below b9)
    replace Kt7 := hide (Kt7.out.trans (Kpt.of_below b9))
    replace B7 := hide (B7.out.trans (b9.mono hBs7))
    replace hBs7 : base ≤ _ := Nat.le_trans hBs7 b9.size
    clear hI
    go_wp2
    replace X7 := hide (X7.out.below (Below.refl w9.heap.size w9).drew)
    replace A7 := hide (A7.out.below (Below.refl w9.heap.size w9).drew)
    replace G7 := hide (G7.out.below (Below.refl w9.heap.size w9).drew)
    replace Kt7 := hide (Kt7.out.trans (Kpt.of_below (Below.refl w9.heap.size w9).drew))
    replace B7 := hide (B7.out.trans ((Below.refl w9.heap.size w9).drew.mono hBs7))
    replace hBs7 : base ≤ _ := Nat.le_trans hBs7 (Below.refl w9.heap.size w9).drew.size
    replace R := hide (R.out.below (Below.refl w9.heap.size w9).drew)
    refine regionL 14 (fun w' => w'.cell? ⟨H, 1, none⟩ = some (.int .i64 x) ∧ w'.cell? ⟨H, 2, none⟩ = some (.int .u64 y) ∧ w'.cell? ⟨g, 0, none⟩ = some (.int .i64 n1) ∧ w'.cell? ⟨g, 1, none⟩ = some (.int .i64 n2)) mixed ⟨A7.out.cell 1, A7.out.cell 2, G7.out.cell 0, G7.out.cell 1⟩ (fun hHeld => ?_)
    refine pickA (v := ?_) 0 (some 29) rfl rfl (by kernel_rfl) (by kernel_rfl) (by kernel_rfl) (by decide) (fun _ _ _ h => h) (by rfl) ?_ (by assumption) ?_
    rotate_left
    · intro w'
      go_simp
      try with_reducible rfl
    try simp only [Act.put, List.setIfInBounds_toArray, List.set_cons_zero, List.set_cons_succ]
    refine pickA (v := ?_) 1 (some 30) rfl rfl (by kernel_rfl) (by kernel_rfl) (by kernel_rfl) (by decide) (fun _ _ _ h => h) (by rfl) ?_ (by assumption) ?_
    rotate_left
    · intro w'
      go_simp
      try with_reducible rfl
    try simp only [Act.put, List.setIfInBounds_toArray, List.set_cons_zero, List.set_cons_succ]
    refine pickA (v := ?_) 2 (some 31) rfl rfl (by kernel_rfl) (by kernel_rfl) (by kernel_rfl) (by decide) (fun _ _ _ h => h) (by rfl) ?_ (by assumption) ?_
    rotate_left
    · intro w'
      go_simp
      try with_reducible rfl
    try simp only [Act.put, List.setIfInBounds_toArray, List.set_cons_zero, List.set_cons_succ]
    refine pickL (v := ?_) 3 (some 32) rfl rfl (by kernel_rfl) (by kernel_rfl) (by kernel_rfl) (by decide) (by kernel_rfl) (by kernel_rfl) (fun _ _ _ h => h) (by rfl) ?_ (by assumption) ?_
    rotate_left
    · intro w' hSw
      obtain ⟨q0, q1, q2, q3⟩ := hSw
      go_simp
      try with_reducible rfl
    try simp only [Act.put, List.setIfInBounds_toArray, List.set_cons_zero, List.set_cons_succ]
    refine pickL (v := ?_) 4 (some 33) rfl rfl (by kernel_rfl) (by kernel_rfl) (by kernel_rfl) (by decide) (by kernel_rfl) (by kernel_rfl) (fun _ _ _ h => h) (by rfl) ?_ (by assumption) ?_
    rotate_left
    · intro w' hSw
      obtain ⟨q0, q1, q2, q3⟩ := hSw
      go_simp
      try with_reducible rfl
    try simp only [Act.put, List.setIfInBounds_toArray, List.set_cons_zero, List.set_cons_succ]
    refine pickA (v := ?_) 6 (some 35) rfl rfl (by kernel_rfl) (by kernel_rfl) (by kernel_rfl) (by decide) (fun _ _ _ h => h) (by rfl) ?_ (by assumption) ?_
    rotate_left
    · intro w'
      go_simp
      try with_reducible rfl
    try simp only [Act.put, List.setIfInBounds_toArray, List.set_cons_zero, List.set_cons_succ]
    refine pickA (v := ?_) 7 (some 36) rfl rfl (by kernel_rfl) (by kernel_rfl) (by kernel_rfl) (by decide) (fun _ _ _ h => h) (by rfl) ?_ (by assumption) ?_
    rotate_left
    · intro w'
      go_simp
      try with_reducible rfl
    try simp only [Act.put, List.setIfInBounds_toArray, List.set_cons_zero, List.set_cons_succ]
    refine pickL (v := ?_) 8 (some 37) rfl rfl (by kernel_rfl) (by kernel_rfl) (by kernel_rfl) (by decide) (by kernel_rfl) (by kernel_rfl) (fun _ _ _ h => h) (by rfl) ?_ (by assumption) ?_
    rotate_left
    · intro w' hSw
      obtain ⟨q0, q1, q2, q3⟩ := hSw
      go_simp
      try with_reducible rfl
    try simp only [Act.put, List.setIfInBounds_toArray, List.set_cons_zero, List.set_cons_succ]
    refine oneL (i := 5) (by kernel_rfl) rfl (fun K hK => ?_)
    go_simp
    refine (called_any base p lp lm km va vc ma mc _ _ X7.out hBs7 x y n1 n2 hC.out tn tk hinK.out).mono ?_; rintro e w10 ⟨rfl, x10, kt10, b10⟩
    replace X7 := hide x10
    replace A7 := hide (kt10.isB A7.out (by decide) (by decide) (by decide) (by decide))
    replace G7 := hide (kt10.isB G7.out (by decide) (by decide) (by decide) (by decide))
    replace R := hide (kt10.isB R.out (by decide) (by decide) (by decide) (by decide))
    replace Kt7 := hide (Kt7.out.trans kt10)
    replace B7 := hide (B7.out.trans b10)
    replace hBs7 : base ≤ w10.heap.size := Nat.le_trans hBs7 b10.size
    clear x10 kt10 b10
    refine hK.out _ _ ?_ ?_
    · exact ⟨A7.out.cell 1, A7.out.cell 2, G7.out.cell 0, G7.out.cell 1⟩
    clear hK K
    try simp only [Act.put, List.setIfInBounds_toArray, List.set_cons_zero, List.set_cons_succ]
    clear hHeld
    have hHeld : (fun w' => w'.cell? ⟨H, 1, none⟩ = some (.int .i64 x) ∧ w'.cell? ⟨H, 2, none⟩ = some (.int .u64 y) ∧ w'.cell? ⟨g, 0, none⟩ = some (.int .i64 n1) ∧ w'.cell? ⟨g, 1, none⟩ = some (.int .i64 n2)) w10 := ⟨A7.out.cell 1, A7.out.cell 2, G7.out.cell 0, G7.out.cell 1⟩
    refine oneL (i := 9) (by kernel_rfl) rfl (fun K hK => ?_)
    go_simp
    obtain ⟨os, x0, x1, x2, x3, x4, y0, y1, y2, y3, y4, hfd⟩ := hrec.out L' hLok
    refine (rec_some base p lp lm km va vc ma mc _ _ X7.out hBs7 x y hv hm hy os x0 x1 x2 x3 x4 y0 y1 y2 y3 y4 hfd none 0 [] (by simp) (fun _ => rfl) (Or.inl ⟨rfl, rfl⟩)).mono ?_; rintro e w11 ⟨ca, cc, rfl, hby, b11⟩
    have BY := hide hby
    replace X7 := hide (X7.out.below b11)
    replace A7 := hide (A7.out.below b11)
    replace G7 := hide (G7.out.below b11)
    replace Kt7 := hide (Kt7.out.trans (Kpt.of_below b11))
    replace B7 := hide (B7.out.trans (b11.mono hBs7))
    replace hBs7 : base ≤ _ := Nat.le_trans hBs7 b11.size
    replace R := hide (R.out.below b11)
    clear hby
    refine hK.out _ _ ?_ ?_
    · exact ⟨A7.out.cell 1, A7.out.cell 2, G7.out.cell 0, G7.out.cell 1⟩
    clear hK K
    skip
    clear hHeld
    have hHeld : (fun w' => w'.cell? ⟨H, 1, none⟩ = some (.int .i64 x) ∧ w'.cell? ⟨H, 2, none⟩ = some (.int .u64 y) ∧ w'.cell? ⟨g, 0, none⟩ = some (.int .i64 n1) ∧ w'.cell? ⟨g, 1, none⟩ = some (.int .i64 n2)) w11 := ⟨A7.out.cell 1, A7.out.cell 2, G7.out.cell 0, G7.out.cell 1⟩
    refine oneL (i := 10) (by kernel_rfl) rfl (fun K hK => ?_)
    go_simp
    refine (ready_any tk 1 s.mr x0 x1 x2 x3 x4 y0 y1 y2 y3 y4 ca 0 cc _).mono ?_; rintro e w12 ⟨rfl, b12⟩
    replace X7 := hide (X7.out.below b12)
    replace A7 := hide (A7.out.below b12)
    replace G7 := hide (G7.out.below b12)
    replace Kt7 := hide (Kt7.out.trans (Kpt.of_below b12))
    replace B7 := hide (B7.out.trans (b12.mono hBs7))
    replace hBs7 : base ≤ _ := Nat.le_trans hBs7 b12.size
    replace R := hide (R.out.below b12)
    replace BY := hide (BY.out.below b12)
    refine hK.out _ _ ?_ ?_
    · exact ⟨A7.out.cell 1, A7.out.cell 2, G7.out.cell 0, G7.out.cell 1⟩
    clear hK K
    try simp only [Act.put, List.setIfInBounds_toArray, List.set_cons_zero, List.set_cons_succ]
    clear hHeld
    have hHeld : (fun w' => w'.cell? ⟨H, 1, none⟩ = some (.int .i64 x) ∧ w'.cell? ⟨H, 2, none⟩ = some (.int .u64 y) ∧ w'.cell? ⟨g, 0, none⟩ = some (.int .i64 n1) ∧ w'.cell? ⟨g, 1, none⟩ = some (.int .i64 n2)) w12 := ⟨A7.out.cell 1, A7.out.cell 2, G7.out.cell 0, G7.out.cell 1⟩
    refine oneL (i := 11) (by kernel_rfl) rfl (fun K hK => ?_)
    go_simp
    have b13 := (Below.refl _ w12).alloc (Nat.le_refl _) (.cells #[.int .i64 tk, .int .i64 1, .bool s.mr, .int .i64 x0, .int .i64 x1, .int .u64 x2, .int .i64 x3, .int .u64 x4, .int .i64 y0, .int .i64 y1, .int .u64 y2, .int .i64 y3, .int .u64 y4, .slice ca 0 cc] 63)
    have N := hide (IsB.new w12 #[.int .i64 tk, .int .i64 1, .bool s.mr, .int .i64 x0, .int .i64 x1, .int .u64 x2, .int .i64 x3, .int .u64 x4, .int .i64 y0, .int .i64 y1, .int .u64 y2, .int .i64 y3, .int .u64 y4, .slice ca 0 cc] 63)
    replace X7 := hide (X7.out.below b13)
    replace A7 := hide (A7.out.below b13)
    replace G7 := hide (G7.out.below b13)
    replace Kt7 := hide (Kt7.out.trans (Kpt.of_below b13))
    replace B7 := hide (B7.out.trans (b13.mono hBs7))
    replace hBs7 : base ≤ _ := Nat.le_trans hBs7 b13.size
    replace R := hide (R.out.below b13)
    replace BY := hide (BY.out.below b13)
    generalize w12.alloc (.cells #[.int .i64 tk, .int .i64 1, .bool s.mr, .int .i64 x0, .int .i64 x1, .int .u64 x2, .int .i64 x3, .int .u64 x4, .int .i64 y0, .int .i64 y1, .int .u64 y2, .int .i64 y3, .int .u64 y4, .slice ca 0 cc] 63) = W13 at X7 A7 G7 Kt7 B7 hBs7 R BY N ⊢
    generalize w12.heap.size = nb at N ⊢
    refine hK.out _ _ ?_ ?_
    · exact ⟨A7.out.cell 1, A7.out.cell 2, G7.out.cell 0, G7.out.cell 1⟩
    clear hK K
    try simp only [Act.put, List.setIfInBounds_toArray, List.set_cons_zero, List.set_cons_succ]
    clear hHeld
    have hHeld : (fun w' => w'.cell? ⟨H, 1, none⟩ = some (.int .i64 x) ∧ w'.cell? ⟨H, 2, none⟩ = some (.int .u64 y) ∧ w'.cell? ⟨g, 0, none⟩ = some (.int .i64 n1) ∧ w'.cell? ⟨g, 1, none⟩ = some (.int .i64 n2)) W13 := ⟨A7.out.cell 1, A7.out.cell 2, G7.out.cell 0, G7.out.cell 1⟩
    refine oneL (i := 12) (by kernel_rfl) rfl (fun K hK => ?_)
    obtain ⟨i0, hi0, hz0, hz1, hz2⟩ := info_parts infoRy
    have hown : Rw W13 63 14 (.slice (some ⟨rb9, 0, none⟩) 1 1) 1 [.int .i64 t, .int .i64 1, .bool false, .int .i64 0, .int .i64 0, .int .u64 0, .int .i64 0, .int .u64 0, .int .i64 0, .int .i64 0, .int .u64 0, .int .i64 0, .int .u64 0, .slice none 0 0] := ⟨rfl, Or.inr ⟨rb9, 1, #[.int .i64 t, .int .i64 1, .bool false, .int .i64 0, .int .i64 0, .int .u64 0, .int .i64 0, .int .u64 0, .int .i64 0, .int .i64 0, .int .u64 0, .int .i64 0, .int .u64 0, .slice none 0 0], rfl, R.out, Nat.le_refl _, by unfold maxLen; omega, by simp, rfl⟩⟩
    obtain ⟨v9, w14, hrun, hrw, hgr, hat, hnn⟩ := run_append_rw (P := Tryd.prog) W13 53 53 63 i0 _ 14 128 Tryd.underlying53 hi0 hz0 hz1 hz2 rfl _ 1 _ hown (.slice (some ⟨nb, 0, none⟩) 1 1) 1 [.int .i64 tk, .int .i64 1, .bool s.mr, .int .i64 x0, .int .i64 x1, .int .u64 x2, .int .i64 x3, .int .u64 x4, .int .i64 y0, .int .i64 y1, .int .u64 y2, .int .i64 y3, .int .u64 y4, .slice ca 0 cc] rfl (Or.inl ⟨⟨nb, 0, none⟩, 1, rfl, fun j u hu => by rw [add_none, Nat.zero_add, N.out.cell j]; simpa using hu⟩) (by intro u hu; simp at hu; rcases hu with rfl | rfl | rfl | rfl | rfl | rfl | rfl | rfl | rfl | rfl | rfl | rfl | rfl | rfl <;> rfl) (by unfold maxLen; omega) (by omega)
    obtain ⟨qa, qc, hv9, -, -⟩ := hrw.shape
    subst hv9
    have RW := hide hrw
    have k14 : Kp [rb9] W13 w14 := Kp.of_grown hgr (fun k hk => Or.inl (by simp [Value.ownBlock] at hk; simp [hk]))
    have X14 := hide (X7.out.outo k14 R.out (by decide) (by decide) (by decide) (by decide) (by decide) (by decide) (X7.out.lk.rows R.out (by decide)))
    have BY14 := hide (BY.out.kp k14 (by intro k hk cur h0; simp only [List.mem_cons, List.not_mem_nil, or_false] at hk; subst hk; exact absurd (cells_inj R.out h0) (by decide)))
    have A14 := hide (A7.out.kp k14 (by simp only [List.mem_cons, List.not_mem_nil, or_false]; exact A7.out.ne_t R.out (by decide)))
    have G14 := hide (G7.out.kp k14 (by simp only [List.mem_cons, List.not_mem_nil, or_false]; exact G7.out.ne_t R.out (by decide)))
    have Kt14 := hide (Kt7.out.fresh k14 hrb2)
    have B14 := hide (B7.out.trans (k14.to_below hBs7 (by simp; omega)))
    have HRN := hide hrun
    clear hrun hrw hgr hat hnn hown k14 i0 hi0 hz0 hz1 hz2
    refine step_append_eq rfl (.tmp 29) (.tmp 40) 53 rfl _ _ (.slice qa (1 + 1) qc) w14 rfl rfl HRN.out ?_
    refine hK.out _ _ ?_ ?_
    · exact ⟨A14.out.cell 1, A14.out.cell 2, G14.out.cell 0, G14.out.cell 1⟩
    clear hK K
    try simp only [Act.put, List.setIfInBounds_toArray]
    clear hHeld
    have hHeld : (fun w' => w'.cell? ⟨H, 1, none⟩ = some (.int .i64 x) ∧ w'.cell? ⟨H, 2, none⟩ = some (.int .u64 y) ∧ w'.cell? ⟨g, 0, none⟩ = some (.int .i64 n1) ∧ w'.cell? ⟨g, 1, none⟩ = some (.int .i64 n2)) w14 := ⟨A14.out.cell 1, A14.out.cell 2, G14.out.cell 0, G14.out.cell 1⟩
    refine pickA (v := ?_) 13 (some 10) rfl rfl (by kernel_rfl) (by kernel_rfl) (by kernel_rfl) (by decide) (fun _ _ _ h => h) (by rfl) ?_ (by assumption) ?_
    rotate_left
    · intro w'
      go_simp
      try with_reducible rfl
    try simp only [Act.put]
    refine doneL (by kernel_rfl) ?_ _
    clear hHeld
    go_wp2
    go_ret
    exact ⟨qa, qc, rfl, L', ca, cc, os, x0, x1, x2, x3, x4, y0, y1, y2, y3, y4, hLok, hfd, RW.out, X14.out, Kt14.out, B14.out⟩

end Go.Proofs.YtdogdinkopocaaaDoor
