/- Package link: a table in memory; find. -/
import Derived.Test.YtdogdinkopocaaaDoorKO
namespace Go.Proofs.YtdogdinkopocaaaDoor
open Go.RowKit Go.Maps

/-- A record: its blocks, the row of its lock, who holds it and waits, who stands to the left and to the right. -/
structure Rc where
  rb : Nat
  lb : Nat
  v : Value
  os : List Ow
  x : Rf
  y : Rf
abbrev Tb := List (Vc × Rc)
def Rc.At (w : World) (c : Rc) : Prop := RecAt w c.rb c.lb c.v c.os c.x c.y
def pair (e : Vc × Rc) : Vc × Nat := (e.1, e.2.rb)
/-- Block p is the table of the peer me: block m is its map, these are its records. -/
structure LK (w : World) (base p m : Nat) (me : Rf) (L : Tb) : Prop where
  blk : IsB w p #[.int .i64 me.1, .int .i64 me.2.1, .int .u64 me.2.2.1, .int .i64 me.2.2.2.1, .int .u64 me.2.2.2.2, .map (some m)] 98
  map : VMp w m (L.map pair)
  recs : ∀ e ∈ L, e.2.At w
  ap : (L.map (·.2.rb)).Nodup
  al : (L.map (·.2.lb)).Nodup
  lo : base ≤ p ∧ base ≤ m ∧ ∀ e ∈ L, base ≤ e.2.rb ∧ base ≤ e.2.lb
theorem LK.below {w w' : World} {base p m : Nat} {me : Rf} {L : Tb} (h : LK w base p m me L) (hb : Below w.heap.size w w') : LK w' base p m me L := ⟨h.blk.below hb, h.map.below hb, fun e he => (h.recs e he).below hb, h.ap, h.al, h.lo⟩
/-- What calls may turn. -/
def foot (m : Nat) (L : Tb) : List Nat := m :: L.flatMap fun e => [e.2.rb, e.2.lb]
theorem mem_foot {m : Nat} {L : Tb} {k : Nat} : k ∈ foot m L ↔ k = m ∨ ∃ e ∈ L, k = e.2.rb ∨ k = e.2.lb := by
  simp only [foot, List.mem_cons, List.mem_flatMap, List.not_mem_nil, or_false]
theorem LK.foot_lo {w : World} {base p m : Nat} {me : Rf} {L : Tb} (h : LK w base p m me L) : ∀ k ∈ foot m L, base ≤ k := by
  intro k hk
  rcases mem_foot.1 hk with rfl | ⟨e, he, rfl | rfl⟩
  · exact h.lo.2.1
  · exact (h.lo.2.2 e he).1
  · exact (h.lo.2.2 e he).2
/-- A block of another kind is none of them. -/
theorem LK.off {w : World} {base p m : Nat} {me : Rf} {L : Tb} (h : LK w base p m me L) {b : Nat} {cs : Array Value} {t : TypeId} (hb : IsB w b cs t) (h1 : t ≠ 128) (h2 : t ≠ 154) : b ∉ foot m L := by
  intro hk
  rcases mem_foot.1 hk with rfl | ⟨e, he, rfl | rfl⟩
  · exact h.map.off hb rfl
  · have := (h.recs e he).blk
    unfold IsB at this hb
    rw [this] at hb
    injection hb with hb
    injection hb with _ hb
    exact h1 hb.symm
  · have := (h.recs e he).ls.blk
    unfold IsB at this hb
    rw [this] at hb
    injection hb with hb
    injection hb with _ hb
    exact h2 hb.symm
/-- What a call makes of a table. -/
structure KX (w w' : World) (base p m : Nat) (me : Rf) (L L' : Tb) : Prop where
  lk : LK w' base p m me L'
  kp : Kp (foot m L) w w'
  at_ : ∀ k ∈ foot m L', k ∈ foot m L ∨ w.heap.size ≤ k
theorem KX.bel {w w1 w2 : World} {base p m : Nat} {me : Rf} {L L1 : Tb} (h : KX w w1 base p m me L L1) (hb : Below w1.heap.size w1 w2) : KX w w2 base p m me L L1 := ⟨h.lk.below hb, h.kp.bel hb, h.at_⟩
theorem KX.trans {w w1 w2 : World} {base p m : Nat} {me : Rf} {L L1 L2 : Tb} (h : KX w w1 base p m me L L1) (g : KX w1 w2 base p m me L1 L2) : KX w w2 base p m me L L2 :=
  ⟨g.lk, h.kp.trans g.kp h.at_, fun k hk => by
    rcases g.at_ k hk with h1 | h1
    · exact h.at_ k h1
    · exact Or.inr (Nat.le_trans h.kp.size h1)⟩
theorem LK.kx {w w' : World} {base p m : Nat} {me : Rf} {L : Tb} (h : LK w base p m me L) (hb : Below w.heap.size w w') : KX w w' base p m me L L := ⟨h.below hb, Kp.of_below hb, fun _ hk => Or.inl hk⟩
theorem KX.low {w w' : World} {base p m : Nat} {me : Rf} {L L1 : Tb} (h : KX w w' base p m me L L1) (h0 : LK w base p m me L) (hB : base ≤ w.heap.size) : Below base w w' := h.kp.to_below hB h0.foot_lo
theorem mem_pair {L : Tb} {v : Vc} {c : Rc} (h : (v, c) ∈ L) : (v, c.rb) ∈ L.map pair := List.mem_map.2 ⟨(v, c), h, rfl⟩
theorem no_pair {L : Tb} {v : Vc} (h : ∀ e ∈ L, e.1 ≠ v) : ∀ e ∈ L.map pair, e.1 ≠ v := by
  intro e he
  obtain ⟨x, hx, rfl⟩ := List.mem_map.1 he
  exact h x hx

set_option maxHeartbeats 8000000 in
set_option maxRecDepth 100000 in
theorem find_in (base p m : Nat) (me : Rf) (L : Tb) (w : World) (h : LK w base p m me L) (x y : Int) (hv : okV (x, y)) (c : Rc) (hc : ((x, y), c) ∈ L) : Calls Tryd.prog 51 #[(.pointer (some ⟨p, 0, none⟩)), .agg #[.int .i64 x, .int .u64 y]] w fun e w' => e = .returned (.tuple #[.pointer (some ⟨c.rb, 0, none⟩), .int .i64 0]) ∧ Below w.heap.size w w' := by
  have mixed : Tryd.prog.follows .mixedOrders = true := by kernel_rfl
  obtain ⟨i, r, n, l, b⟩ := me
  have bel0 : Below w.heap.size w (w.alloc (.cells #[.int .i64 x, .int .u64 y] 27)) := (Below.refl w.heap.size w).alloc (Nat.le_refl _) _
  have L1 := hide (h.below bel0)
  have J1 := hide (IsB.new w #[.int .i64 x, .int .u64 y] 27)
  have B1 := hide bel0
  clear bel0 h
  have hc := hide hc
  have hv := hide hv
  obtain ⟨rb, hrb⟩ : ∃ rb, c.rb = rb := ⟨_, rfl⟩
  rw [hrb]
  have hmem : Hid (((x, y), rb) ∈ L.map pair) := by rw [← hrb]; exact mem_pair hc.out
  clear hrb hc
  go_enter Tryd.func51, Tryd.ntmps51
  go_wp2_with fail
  refine (lmade_yes p m i r n l b _ L1.out.blk).mono ?_; intro e w1 hE1; obtain ⟨rfl, hw⟩ := hE1
  rw [hw]
  clear hw
  generalize w.alloc (.cells #[.int .i64 x, .int .u64 y] 27) = W1 at L1 J1 B1 ⊢
  generalize hH : w.heap.size = H at J1 ⊢
  replace hH := hide hH
  go_wp2
  refine regionL 7 (fun w' => w'.cell? ⟨p, 5, none⟩ = some (.map (some m)) ∧ w'.cell? ⟨H, 0, none⟩ = some (.int .i64 x) ∧ w'.cell? ⟨H, 1, none⟩ = some (.int .u64 y) ∧ VMp w' m (L.map pair)) mixed ⟨L1.out.blk.cell 5, J1.out.cell 0, J1.out.cell 1, L1.out.map⟩ (fun hHeld => ?_)
  refine pickA (v := ?_) 0 (some 10) rfl rfl (by kernel_rfl) (by kernel_rfl) (by kernel_rfl) (by decide) (fun _ _ _ h => h) (by rfl) ?_ (by assumption) ?_
  rotate_left
  · intro w'
    go_simp
    try with_reducible rfl
  try simp only [Act.put, List.setIfInBounds_toArray, List.set_cons_zero, List.set_cons_succ]
  refine pickA (v := ?_) 1 (some 11) rfl rfl (by kernel_rfl) (by kernel_rfl) (by kernel_rfl) (by decide) (fun _ _ _ h => h) (by rfl) ?_ (by assumption) ?_
  rotate_left
  · intro w'
    go_simp
    try with_reducible rfl
  try simp only [Act.put, List.setIfInBounds_toArray, List.set_cons_zero, List.set_cons_succ]
  refine pickA (v := ?_) 2 (some 12) rfl rfl (by kernel_rfl) (by kernel_rfl) (by kernel_rfl) (by decide) (fun _ _ _ h => h) (by rfl) ?_ (by assumption) ?_
  rotate_left
  · intro w'
    go_simp
    try with_reducible rfl
  try simp only [Act.put, List.setIfInBounds_toArray, List.set_cons_zero, List.set_cons_succ]
  refine pickL (v := ?_) 3 (some 13) rfl rfl (by kernel_rfl) (by kernel_rfl) (by kernel_rfl) (by decide) (by kernel_rfl) (by kernel_rfl) (fun _ _ _ h => h) (by rfl) ?_ (by assumption) ?_
  rotate_left
  · intro w' hSw
    obtain ⟨q0, q1, q2, q3⟩ := hSw; have hlk : (Instr.lookup 96 (.map (some m)) (.agg #[.int .i64 x, .int .u64 y]) false).run Tryd.prog w' = .ok (.pointer (some ⟨rb, 0, none⟩)) w' := q3.look_in (x, y) hv.out rb hmem.out
    go_simp
    try with_reducible rfl
  try simp only [Act.put, List.setIfInBounds_toArray, List.set_cons_zero, List.set_cons_succ]
  refine pickL (v := ?_) 4 (some 14) rfl rfl (by kernel_rfl) (by kernel_rfl) (by kernel_rfl) (by decide) (by kernel_rfl) (by kernel_rfl) (fun _ _ _ h => h) (by rfl) ?_ (by assumption) ?_
  rotate_left
  · intro w' hSw
    obtain ⟨q0, q1, q2, q3⟩ := hSw; have hlk : (Instr.lookup 96 (.map (some m)) (.agg #[.int .i64 x, .int .u64 y]) false).run Tryd.prog w' = .ok (.pointer (some ⟨rb, 0, none⟩)) w' := q3.look_in (x, y) hv.out rb hmem.out
    go_simp
    try with_reducible rfl
  try simp only [Act.put, List.setIfInBounds_toArray, List.set_cons_zero, List.set_cons_succ]
  refine pickL (v := ?_) 5 (some 15) rfl rfl (by kernel_rfl) (by kernel_rfl) (by kernel_rfl) (by decide) (by kernel_rfl) (by kernel_rfl) (fun _ _ _ h => h) (by rfl) ?_ (by assumption) ?_
  rotate_left
  · intro w' hSw
    obtain ⟨q0, q1, q2, q3⟩ := hSw; have hlk : (Instr.lookup 96 (.map (some m)) (.agg #[.int .i64 x, .int .u64 y]) false).run Tryd.prog w' = .ok (.pointer (some ⟨rb, 0, none⟩)) w' := q3.look_in (x, y) hv.out rb hmem.out
    go_simp
    try with_reducible rfl
  try simp only [Act.put, List.setIfInBounds_toArray, List.set_cons_zero, List.set_cons_succ]
  refine pickA (v := ?_) 6 (some 6) rfl rfl (by kernel_rfl) (by kernel_rfl) (by kernel_rfl) (by decide) (fun _ _ _ h => h) (by rfl) ?_ (by assumption) ?_
  rotate_left
  · intro w'
    go_simp
    try with_reducible rfl
  try simp only [Act.put, List.setIfInBounds_toArray, List.set_cons_zero, List.set_cons_succ]
  refine doneL (by kernel_rfl) ?_ _
  clear hHeld
  go_wp2
  go_ret2
  exact ⟨rfl, B1.out.drew⟩

set_option maxHeartbeats 8000000 in
set_option maxRecDepth 100000 in
theorem find_gone (base p m : Nat) (me : Rf) (L : Tb) (w : World) (h : LK w base p m me L) (x y : Int) (hv : okV (x, y)) (hb0 : 0 ≤ me.2.2.2.2) (hy0 : 0 ≤ y) (hn : ∀ e ∈ L, e.1 ≠ (x, y)) (hm : ¬ (me.2.1 ≠ 2 ∧ mayA me.2.1 me.2.2.2.1 me.2.2.2.2 x y = true)) : Calls Tryd.prog 51 #[(.pointer (some ⟨p, 0, none⟩)), .agg #[.int .i64 x, .int .u64 y]] w fun e w' => e = .returned (.tuple #[.pointer none, .int .i64 82]) ∧ Below w.heap.size w w' := by
  have mixed : Tryd.prog.follows .mixedOrders = true := by kernel_rfl
  obtain ⟨i, r, n, l, b⟩ := me
  have bel0 : Below w.heap.size w (w.alloc (.cells #[.int .i64 x, .int .u64 y] 27)) := (Below.refl w.heap.size w).alloc (Nat.le_refl _) _
  have L1 := hide (h.below bel0)
  have J1 := hide (IsB.new w #[.int .i64 x, .int .u64 y] 27)
  have B1 := hide bel0
  clear bel0 h
  have hn := hide (no_pair hn)
  have hv := hide hv
  simp only [] at hm hb0
  go_enter Tryd.func51, Tryd.ntmps51
  go_wp2_with fail
  refine (lmade_yes p m i r n l b _ L1.out.blk).mono ?_; intro e w1 hE1; obtain ⟨rfl, hw⟩ := hE1
  rw [hw]
  clear hw
  generalize w.alloc (.cells #[.int .i64 x, .int .u64 y] 27) = W1 at L1 J1 B1 ⊢
  generalize hH : w.heap.size = H at J1 ⊢
  replace hH := hide hH
  go_wp2
  refine regionL 7 (fun w' => w'.cell? ⟨p, 5, none⟩ = some (.map (some m)) ∧ w'.cell? ⟨H, 0, none⟩ = some (.int .i64 x) ∧ w'.cell? ⟨H, 1, none⟩ = some (.int .u64 y) ∧ VMp w' m (L.map pair)) mixed ⟨L1.out.blk.cell 5, J1.out.cell 0, J1.out.cell 1, L1.out.map⟩ (fun hHeld => ?_)
  refine pickA (v := ?_) 0 (some 10) rfl rfl (by kernel_rfl) (by kernel_rfl) (by kernel_rfl) (by decide) (fun _ _ _ h => h) (by rfl) ?_ (by assumption) ?_
  rotate_left
  · intro w'
    go_simp
    try with_reducible rfl
  try simp only [Act.put, List.setIfInBounds_toArray, List.set_cons_zero, List.set_cons_succ]
  refine pickA (v := ?_) 1 (some 11) rfl rfl (by kernel_rfl) (by kernel_rfl) (by kernel_rfl) (by decide) (fun _ _ _ h => h) (by rfl) ?_ (by assumption) ?_
  rotate_left
  · intro w'
    go_simp
    try with_reducible rfl
  try simp only [Act.put, List.setIfInBounds_toArray, List.set_cons_zero, List.set_cons_succ]
  refine pickA (v := ?_) 2 (some 12) rfl rfl (by kernel_rfl) (by kernel_rfl) (by kernel_rfl) (by decide) (fun _ _ _ h => h) (by rfl) ?_ (by assumption) ?_
  rotate_left
  · intro w'
    go_simp
    try with_reducible rfl
  try simp only [Act.put, List.setIfInBounds_toArray, List.set_cons_zero, List.set_cons_succ]
  refine pickL (v := ?_) 3 (some 13) rfl rfl (by kernel_rfl) (by kernel_rfl) (by kernel_rfl) (by decide) (by kernel_rfl) (by kernel_rfl) (fun _ _ _ h => h) (by rfl) ?_ (by assumption) ?_
  rotate_left
  · intro w' hSw
    obtain ⟨q0, q1, q2, q3⟩ := hSw; have hlk : (Instr.lookup 96 (.map (some m)) (.agg #[.int .i64 x, .int .u64 y]) false).run Tryd.prog w' = .ok (.pointer none) w' := q3.look_no (x, y) hv.out hn.out
    go_simp
    try with_reducible rfl
  try simp only [Act.put, List.setIfInBounds_toArray, List.set_cons_zero, List.set_cons_succ]
  refine pickL (v := ?_) 4 (some 14) rfl rfl (by kernel_rfl) (by kernel_rfl) (by kernel_rfl) (by decide) (by kernel_rfl) (by kernel_rfl) (fun _ _ _ h => h) (by rfl) ?_ (by assumption) ?_
  rotate_left
  · intro w' hSw
    obtain ⟨q0, q1, q2, q3⟩ := hSw; have hlk : (Instr.lookup 96 (.map (some m)) (.agg #[.int .i64 x, .int .u64 y]) false).run Tryd.prog w' = .ok (.pointer none) w' := q3.look_no (x, y) hv.out hn.out
    go_simp
    try with_reducible rfl
  try simp only [Act.put, List.setIfInBounds_toArray, List.set_cons_zero, List.set_cons_succ]
  refine pickL (v := ?_) 5 (some 15) rfl rfl (by kernel_rfl) (by kernel_rfl) (by kernel_rfl) (by decide) (by kernel_rfl) (by kernel_rfl) (fun _ _ _ h => h) (by rfl) ?_ (by assumption) ?_
  rotate_left
  · intro w' hSw
    obtain ⟨q0, q1, q2, q3⟩ := hSw; have hlk : (Instr.lookup 96 (.map (some m)) (.agg #[.int .i64 x, .int .u64 y]) false).run Tryd.prog w' = .ok (.pointer none) w' := q3.look_no (x, y) hv.out hn.out
    go_simp
    try with_reducible rfl
  try simp only [Act.put, List.setIfInBounds_toArray, List.set_cons_zero, List.set_cons_succ]
  refine pickA (v := ?_) 6 (some 6) rfl rfl (by kernel_rfl) (by kernel_rfl) (by kernel_rfl) (by decide) (fun _ _ _ h => h) (by rfl) ?_ (by assumption) ?_
  rotate_left
  · intro w'
    go_simp
    try with_reducible rfl
  try simp only [Act.put, List.setIfInBounds_toArray, List.set_cons_zero, List.set_cons_succ]
  refine doneL (by kernel_rfl) ?_ _
  clear hHeld
  have L2 := hide (L1.out.below (Below.refl _ _).drew)
  have J2 := hide (J1.out.below (Below.refl _ _).drew)
  have B2 := hide B1.out.drew
  clear L1 J1 B1
  generalize W1.drew = W2 at L2 J2 B2 ⊢
  go_wp2_with fail
  refine (isEnd_any p m i r n l b _ L2.out.blk).mono ?_; intro e w1 hE1; obtain ⟨rfl, hw⟩ := hE1
  rw [hw]
  clear hw
  by_cases hr : r = 2
  · rw [decide_eq_false (by omega)]
    go_wp2
    go_ret2
    exact ⟨rfl, B2.out⟩
  · have hm2 : Hid (mayA r l b x y = false) := by
      show mayA r l b x y = false
      rcases hq : mayA r l b x y with _ | _
      · rfl
      · exact absurd ⟨hr, hq⟩ hm
    rw [decide_eq_true (by omega)]
    have q1 := J2.out.cell 0
    have q2 := J2.out.cell 1
    simp at q1 q2
    go_wp2_with fail
    refine (may_any p m i r n l b _ L2.out.blk x y hb0 hy0).mono ?_; rintro e w3 ⟨rfl, hb3⟩
    rw [hm2.out]
    have B3 := hide (B2.out.trans (hb3.mono B2.out.size))
    clear hb3 q1 q2
    go_wp2
    go_ret2
    exact ⟨rfl, B3.out⟩

set_option maxHeartbeats 8000000 in
set_option maxRecDepth 100000 in
theorem find_first (base p m : Nat) (me : Rf) (L : Tb) (w : World) (h : LK w base p m me L) (x y : Int) (hv : okV (x, y)) (hb0 : 0 ≤ me.2.2.2.2) (hy0 : 0 ≤ y) (hn : ∀ e ∈ L, e.1 ≠ (x, y)) (hr : me.2.1 ≠ 2) (hm : mayA me.2.1 me.2.2.2.1 me.2.2.2.2 x y = true) : Calls Tryd.prog 51 #[(.pointer (some ⟨p, 0, none⟩)), .agg #[.int .i64 x, .int .u64 y]] w fun e w' => ∃ rb lb, e = .returned (.tuple #[.pointer (some ⟨rb, 0, none⟩), .int .i64 0]) ∧ w.heap.size ≤ rb ∧ w.heap.size ≤ lb ∧ RecAt w' rb lb (.slice none 0 0) [] (fstL me.2.1 me.2.2.2.1 me.2.2.2.2) (fstR me.2.1 me.2.2.2.1 me.2.2.2.2) ∧ Below w.heap.size w w' := by
  have mixed : Tryd.prog.follows .mixedOrders = true := by kernel_rfl
  obtain ⟨i, r, n, l, b⟩ := me
  have bel0 : Below w.heap.size w (w.alloc (.cells #[.int .i64 x, .int .u64 y] 27)) := (Below.refl w.heap.size w).alloc (Nat.le_refl _) _
  have L1 := hide (h.below bel0)
  have J1 := hide (IsB.new w #[.int .i64 x, .int .u64 y] 27)
  have B1 := hide bel0
  clear bel0 h
  have hn := hide (no_pair hn)
  have hv := hide hv
  simp only [] at hm hb0 hr
  have hm := hide hm
  go_enter Tryd.func51, Tryd.ntmps51
  go_wp2_with fail
  refine (lmade_yes p m i r n l b _ L1.out.blk).mono ?_; intro e w1 hE1; obtain ⟨rfl, hw⟩ := hE1
  rw [hw]
  clear hw
  generalize w.alloc (.cells #[.int .i64 x, .int .u64 y] 27) = W1 at L1 J1 B1 ⊢
  generalize hH : w.heap.size = H at J1 ⊢
  replace hH := hide hH
  go_wp2
  refine regionL 7 (fun w' => w'.cell? ⟨p, 5, none⟩ = some (.map (some m)) ∧ w'.cell? ⟨H, 0, none⟩ = some (.int .i64 x) ∧ w'.cell? ⟨H, 1, none⟩ = some (.int .u64 y) ∧ VMp w' m (L.map pair)) mixed ⟨L1.out.blk.cell 5, J1.out.cell 0, J1.out.cell 1, L1.out.map⟩ (fun hHeld => ?_)
  refine pickA (v := ?_) 0 (some 10) rfl rfl (by kernel_rfl) (by kernel_rfl) (by kernel_rfl) (by decide) (fun _ _ _ h => h) (by rfl) ?_ (by assumption) ?_
  rotate_left
  · intro w'
    go_simp
    try with_reducible rfl
  try simp only [Act.put, List.setIfInBounds_toArray, List.set_cons_zero, List.set_cons_succ]
  refine pickA (v := ?_) 1 (some 11) rfl rfl (by kernel_rfl) (by kernel_rfl) (by kernel_rfl) (by decide) (fun _ _ _ h => h) (by rfl) ?_ (by assumption) ?_
  rotate_left
  · intro w'
    go_simp
    try with_reducible rfl
  try simp only [Act.put, List.setIfInBounds_toArray, List.set_cons_zero, List.set_cons_succ]
  refine pickA (v := ?_) 2 (some 12) rfl rfl (by kernel_rfl) (by kernel_rfl) (by kernel_rfl) (by decide) (fun _ _ _ h => h) (by rfl) ?_ (by assumption) ?_
  rotate_left
  · intro w'
    go_simp
    try with_reducible rfl
  try simp only [Act.put, List.setIfInBounds_toArray, List.set_cons_zero, List.set_cons_succ]
  refine pickL (v := ?_) 3 (some 13) rfl rfl (by kernel_rfl) (by kernel_rfl) (by kernel_rfl) (by decide) (by kernel_rfl) (by kernel_rfl) (fun _ _ _ h => h) (by rfl) ?_ (by assumption) ?_
  rotate_left
  · intro w' hSw
    obtain ⟨q0, q1, q2, q3⟩ := hSw; have hlk : (Instr.lookup 96 (.map (some m)) (.agg #[.int .i64 x, .int .u64 y]) false).run Tryd.prog w' = .ok (.pointer none) w' := q3.look_no (x, y) hv.out hn.out
    go_simp
    try with_reducible rfl
  try simp only [Act.put, List.setIfInBounds_toArray, List.set_cons_zero, List.set_cons_succ]
  refine pickL (v := ?_) 4 (some 14) rfl rfl (by kernel_rfl) (by kernel_rfl) (by kernel_rfl) (by decide) (by kernel_rfl) (by kernel_rfl) (fun _ _ _ h => h) (by rfl) ?_ (by assumption) ?_
  rotate_left
  · intro w' hSw
    obtain ⟨q0, q1, q2, q3⟩ := hSw; have hlk : (Instr.lookup 96 (.map (some m)) (.agg #[.int .i64 x, .int .u64 y]) false).run Tryd.prog w' = .ok (.pointer none) w' := q3.look_no (x, y) hv.out hn.out
    go_simp
    try with_reducible rfl
  try simp only [Act.put, List.setIfInBounds_toArray, List.set_cons_zero, List.set_cons_succ]
  refine pickL (v := ?_) 5 (some 15) rfl rfl (by kernel_rfl) (by kernel_rfl) (by kernel_rfl) (by decide) (by kernel_rfl) (by kernel_rfl) (fun _ _ _ h => h) (by rfl) ?_ (by assumption) ?_
  rotate_left
  · intro w' hSw
    obtain ⟨q0, q1, q2, q3⟩ := hSw; have hlk : (Instr.lookup 96 (.map (some m)) (.agg #[.int .i64 x, .int .u64 y]) false).run Tryd.prog w' = .ok (.pointer none) w' := q3.look_no (x, y) hv.out hn.out
    go_simp
    try with_reducible rfl
  try simp only [Act.put, List.setIfInBounds_toArray, List.set_cons_zero, List.set_cons_succ]
  refine pickA (v := ?_) 6 (some 6) rfl rfl (by kernel_rfl) (by kernel_rfl) (by kernel_rfl) (by decide) (fun _ _ _ h => h) (by rfl) ?_ (by assumption) ?_
  rotate_left
  · intro w'
    go_simp
    try with_reducible rfl
  try simp only [Act.put, List.setIfInBounds_toArray, List.set_cons_zero, List.set_cons_succ]
  refine doneL (by kernel_rfl) ?_ _
  clear hHeld
  have L2 := hide (L1.out.below (Below.refl _ _).drew)
  have J2 := hide (J1.out.below (Below.refl _ _).drew)
  have B2 := hide B1.out.drew
  clear L1 J1 B1
  generalize W1.drew = W2 at L2 J2 B2 ⊢
  go_wp2_with fail
  refine (isEnd_any p m i r n l b _ L2.out.blk).mono ?_; intro e w1 hE1; obtain ⟨rfl, hw⟩ := hE1
  rw [hw]
  clear hw
  rw [decide_eq_true (by omega)]
  have q1 := J2.out.cell 0
  have q2 := J2.out.cell 1
  simp at q1 q2
  go_wp2_with fail
  refine (may_any p m i r n l b _ L2.out.blk x y hb0 hy0).mono ?_; rintro e w3 ⟨rfl, hb3⟩
  rw [hm.out]
  have B3 := hide (B2.out.trans (hb3.mono B2.out.size))
  have L3 := hide (L2.out.below hb3)
  clear hb3 q1 q2
  go_wp2_with fail
  refine (first_rec p m i r n l b _ L3.out.blk).mono ?_; rintro e w4 ⟨rb, lb, rfl, g1, g2, g3, g4⟩
  have G3 := hide g3
  have B4 := hide (B3.out.trans (g4.mono B3.out.size))
  have hs := B3.out.size
  clear g3 g4
  go_wp2
  go_ret2
  first
    | exact ⟨rb, lb, rfl, by omega, by omega, G3.out, B4.out⟩
    | exact ⟨rb, rfl, by omega, lb, by omega, G3.out, B4.out⟩

set_option maxHeartbeats 8000000 in
set_option maxRecDepth 100000 in
theorem find_no (p : Value) (x y : Int) (w : World) (h : NoLinks w p) : Calls Tryd.prog 51 #[p, .agg #[.int .i64 x, .int .u64 y]] w fun e w' => e = .returned (.tuple #[.pointer none, .int .i64 4]) ∧ Below w.heap.size w w' := by
  replace h := hide (h.alloc (.cells #[.int .i64 x, .int .u64 y] 27))
  go_enter Tryd.func51, Tryd.ntmps51
  go_wp2_with fail
  refine (lmade_no p _ h.out).mono ?_; rintro e w1 ⟨rfl, rfl⟩
  go_wp2
  go_ret2
  exact ⟨rfl, (Below.refl _ _).alloc (Nat.le_refl _) _⟩

end Go.Proofs.YtdogdinkopocaaaDoor
