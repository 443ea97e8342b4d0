/- Searches in memory: at, stand. -/
import Derived.Test.YtfcmmchppcffmaaDoorGK
namespace Go.Proofs.YtfcmmchppcffmaaDoor
open Go.RowKit Go.Maps Go.ChangeMaps

abbrev Hp := Int × Rf
def hps : List Hp → List Value
  | [] => []
  | x :: l => .int .i64 x.1 :: .int .i64 x.2.id :: .int .i64 x.2.rk :: .int .u64 x.2.kn :: .int .i64 x.2.ln :: .int .u64 x.2.bt :: hps l
theorem hps_len : ∀ l : List Hp, (hps l).length = l.length * 6
  | [] => rfl
  | _ :: l => by simp [hps, hps_len l]; omega
theorem hps_app : ∀ l m : List Hp, hps (l ++ m) = hps l ++ hps m
  | [], _ => rfl
  | _ :: l, m => by simp [hps, hps_app l m]
theorem hps_get : ∀ (l : List Hp) (j : Nat) (hj : j < l.length), (hps l)[j * 6]? = some (.int .i64 l[j].1) ∧ (hps l)[j * 6 + 1]? = some (.int .i64 l[j].2.id) ∧ (hps l)[j * 6 + 2]? = some (.int .i64 l[j].2.rk) ∧ (hps l)[j * 6 + 3]? = some (.int .u64 l[j].2.kn) ∧ (hps l)[j * 6 + 4]? = some (.int .i64 l[j].2.ln) ∧ (hps l)[j * 6 + 5]? = some (.int .u64 l[j].2.bt)
  | p :: l, 0, _ => by simp [hps]
  | p :: l, j + 1, hj => by
    have := hps_get l j (by simpa using hj)
    rw [show (j + 1) * 6 = j * 6 + 1 + 1 + 1 + 1 + 1 + 1 by omega]
    simpa [hps] using this
theorem hps_one : ∀ (l : List Hp), ∀ u ∈ hps l, u.oneCell' = true
  | [], u, h => by simp [hps] at h
  | p :: l, u, h => by
    simp only [hps, List.mem_cons] at h
    rcases h with rfl | rfl | rfl | rfl | rfl | rfl | h
    · rfl
    · rfl
    · rfl
    · rfl
    · rfl
    · rfl
    · exact hps_one l u h
/-- A search's cells. -/
def scs (h : Int) (a : Option Addr) (n c : Nat) (tr tn : Int) (wv : Value) : Array Value := #[.int .i64 h, .int .i64 0, .int .i64 1, .int .u64 0, .int .i64 h, .int .u64 0, .int .i64 1, .int .i64 3, .int .u64 0, .int .i64 h, .int .u64 0, .slice a n c, .int .i64 tr, .int .u64 tn, wv]
/-- What is no search and no row of hops stays as it was. -/
structure Kt (w w' : World) : Prop where
  size : w.heap.size ≤ w'.heap.size
  os : w'.os = w.os
  tape : w'.tape = w.tape
  output : w'.output = w.output
  block : ∀ k, k < w.heap.size → (∀ cur, w.heap[k]? ≠ some (.cells cur 75 (0, 0))) → (∀ cur, w.heap[k]? ≠ some (.cells cur 98 (0, 0))) → w'.heap[k]? = w.heap[k]?
theorem Kt.of_below {w w' : World} (h : Below w.heap.size w w') : Kt w w' := ⟨h.size, h.os, h.tape, h.output, fun k hk _ _ => h.block k hk⟩
theorem Kt.trans {a b c : World} (h : Kt a b) (k : Kt b c) : Kt a c := ⟨Nat.le_trans h.size k.size, k.os.trans h.os, k.tape.trans h.tape, k.output.trans h.output, fun q hq h1 h2 => by
  have e := h.block q hq h1 h2
  exact (k.block q (Nat.lt_of_lt_of_le hq h.size) (fun cur => by rw [e]; exact h1 cur) (fun cur => by rw [e]; exact h2 cur)).trans e⟩
theorem Kt.rw {w w' : World} {v : Value} {n : Nat} {xs : List Value} (h : Rw w 30 5 v n xs) (k : Kt w w') : Rw w' 30 5 v n xs := h.kept fun g hg => by
  obtain ⟨h1, cur, hc⟩ := h.lt g hg
  exact k.block g h1 (fun _ e => absurd (cells_inj hc e) (by decide)) (fun _ e => absurd (cells_inj hc e) (by decide))
theorem Kt.isr {w w' : World} {b : Nat} {cs : Array Value} {t : TypeId} (h : IsB w b cs t) (ht : t ≠ 75) (ht2 : t ≠ 98) (k : Kt w w') : IsB w' b cs t :=
  (k.block b h.lt (fun _ e => ht (cells_inj h e)) (fun _ e => ht2 (cells_inj h e))).trans h
theorem Kt.grown {w w' : World} {row : Option Nat} (hg : w.grownBy w' row) (hr : ∀ k, row = some k → ∃ cur, w.heap[k]? = some (.cells cur 98 (0, 0))) : Kt w w' := ⟨hg.size, hg.os, hg.tape, hg.output, fun k hk h1 h2 => hg.block k hk (fun e => by
  obtain ⟨cur, hc⟩ := hr k e.symm
  exact h2 cur hc)⟩
theorem Kt.set {w : World} {b : Nat} {cs : Array Value} (h : IsB w b cs 75) (j : Nat) (u : Value) : Kt w (w.setCell ⟨b, j, none⟩ u) := ⟨by simp [World.setCell], rfl, rfl, rfl, fun k _ h1 _ => Below.heap_setCell _ _ _ _ (fun e => by
  simp at e
  subst e
  exact h1 _ h)⟩
/-- A search lies there. -/
structure Sr (w : World) (base b : Nat) (h : Int) (a : Option Addr) (n c : Nat) (tr tn : Int) (wv : Value) (hops : List Hp) : Prop where
  blk : IsB w b (scs h a n c tr tn wv) 75
  row : Rw w 98 6 wv hops.length (hps hops)
  own : ∀ k, wv.ownBlock = some k → base ≤ k
  lo : base ≤ b
theorem Sr.below {w w' : World} {base b : Nat} {h : Int} {a : Option Addr} {n c : Nat} {tr tn : Int} {wv : Value} {hops : List Hp} (s : Sr w base b h a n c tr tn wv hops) (hb : Below w.heap.size w w') : Sr w' base b h a n c tr tn wv hops := ⟨s.blk.below hb, s.row.below hb, s.own, s.lo⟩
theorem infoHop : (Tryd.prog.info? 98).map (fun i => (i.zero, i.size, i.bytes)) = some (some (.agg #[.int .i64 0, .int .i64 0, .int .i64 0, .int .u64 0, .int .i64 0, .int .u64 0]), 6, 48) := by kernel_rfl
theorem ret_ref {fn : Func} {p : Tmp} (hf : fn.results = #[.cell p 30]) {Q : Ending → World → Prop} {tmps : Array Value} {w : World} {b : Nat} {cs : Array Value} (hs : cs.size = 5)
    (hp : tmps.getD p undef = .pointer (some ⟨b, 0, none⟩)) (I : IsB w b cs 30) (hQ : Q (.returned (.agg cs)) w) :
    bodyPost Tryd.prog fn Q .ret ⟨tmps, []⟩ w :=
  bodyPost_ret (results_cell_row hf tmps w b 30 cs (0, 0) _ hp I Tryd.underlying30 rfl (by rw [hs]; exact ref_info)) rfl hQ

set_option maxHeartbeats 2000000 in
set_option maxRecDepth 100000 in
theorem at_any (base b : Nat) (h : Int) (a : Option Addr) (n c : Nat) (tr tn : Int) (wv : Value) (hs : List Hp) (lv : Int) (r : Rf) (hl : hs.length ≤ 100000) (w : World) (s : Sr w base b h a n c tr tn wv (hs ++ [(lv, r)])) :
    Calls Tryd.prog 52 #[.pointer (some ⟨b, 0, none⟩)] w fun e w' => e = .returned (.agg r.cells) ∧ Below w.heap.size w w' := by
  have mixed : Tryd.prog.follows .mixedOrders = true := by kernel_rfl
  obtain ⟨k, hk⟩ : ∃ k, hs.length = k := ⟨_, rfl⟩
  have hlen : (hs ++ [(lv, r)]).length = k + 1 := by simp [hk]
  obtain ⟨g, wc, rfl, -, -, -⟩ := s.row.form (by omega)
  have hb := s.blk
  unfold scs at hb
  obtain ⟨-, e1, e2, e3, e4, e5⟩ := hps_get (hs ++ [(lv, r)]) k (by omega)
  have hgt : (hs ++ [(lv, r)])[k]'(by omega) = (lv, r) := by
    subst hk
    simp
  rw [hgt] at e1 e2 e3 e4 e5
  have z1 := (s.row.cellAt (k * 6 + 1) (by omega)).trans e1
  have z2 := (s.row.cellAt (k * 6 + 2) (by omega)).trans e2
  have z3 := (s.row.cellAt (k * 6 + 3) (by omega)).trans e3
  have z4 := (s.row.cellAt (k * 6 + 4) (by omega)).trans e4
  have z5 := (s.row.cellAt (k * 6 + 5) (by omega)).trans e5
  clear e1 e2 e3 e4 e5 s hgt
  rw [hlen] at hb
  have hk1 : k ≤ 100000 := by omega
  clear hk hl hlen
  obtain ⟨x0, x1, x2, x3, x4⟩ := r
  simp only [Rf.cells] at z1 z2 z3 z4 z5 ⊢
  have b1 := (Below.refl w.heap.size w).alloc (Nat.le_refl _) (.cells #[.int .i64 0, .int .i64 0, .int .u64 0, .int .i64 0, .int .u64 0] 30)
  have Zb := hide (IsB.new w #[.int .i64 0, .int .i64 0, .int .u64 0, .int .i64 0, .int .u64 0] 30)
  have SB := hide (hb.below b1)
  have y1 := (b1.cell (lt_of_cell z1)).trans z1
  have y2 := (b1.cell (lt_of_cell z2)).trans z2
  have y3 := (b1.cell (lt_of_cell z3)).trans z3
  have y4 := (b1.cell (lt_of_cell z4)).trans z4
  have y5 := (b1.cell (lt_of_cell z5)).trans z5
  have B1 := hide b1
  clear b1 hb z1 z2 z3 z4 z5
  have hwk := wrap_small (k : Int) (by omega) (by omega)
  go_enter Tryd.func52, Tryd.ntmps52
  go_wp2_with fail
  generalize w.alloc (.cells #[.int .i64 0, .int .i64 0, .int .u64 0, .int .i64 0, .int .u64 0] 30) = W1 at *
  generalize hH : w.heap.size = H at Zb ⊢
  replace hH := hide hH
  have ZD := hide (Zb.out.below ((Below.refl _ _).drew))
  have BD := hide B1.out.drew
  have hHeld0 : (fun w' => IsB w' b #[.int .i64 h, .int .i64 0, .int .i64 1, .int .u64 0, .int .i64 h, .int .u64 0, .int .i64 1, .int .i64 3, .int .u64 0, .int .i64 h, .int .u64 0, .slice a n c, .int .i64 tr, .int .u64 tn, .slice (some ⟨g, 0, none⟩) (k + 1) wc] 75 ∧ w'.cell? ⟨g, k * 6 + 1, none⟩ = some (.int .i64 x0) ∧ w'.cell? ⟨g, k * 6 + 2, none⟩ = some (.int .i64 x1) ∧ w'.cell? ⟨g, k * 6 + 3, none⟩ = some (.int .u64 x2) ∧ w'.cell? ⟨g, k * 6 + 4, none⟩ = some (.int .i64 x3) ∧ w'.cell? ⟨g, k * 6 + 5, none⟩ = some (.int .u64 x4)) W1.drew := ⟨SB.out.below ((Below.refl _ _).drew), y1, y2, y3, y4, y5⟩
  refine regionL 13 (fun w' => IsB w' b #[.int .i64 h, .int .i64 0, .int .i64 1, .int .u64 0, .int .i64 h, .int .u64 0, .int .i64 1, .int .i64 3, .int .u64 0, .int .i64 h, .int .u64 0, .slice a n c, .int .i64 tr, .int .u64 tn, .slice (some ⟨g, 0, none⟩) (k + 1) wc] 75 ∧ w'.cell? ⟨g, k * 6 + 1, none⟩ = some (.int .i64 x0) ∧ w'.cell? ⟨g, k * 6 + 2, none⟩ = some (.int .i64 x1) ∧ w'.cell? ⟨g, k * 6 + 3, none⟩ = some (.int .u64 x2) ∧ w'.cell? ⟨g, k * 6 + 4, none⟩ = some (.int .i64 x3) ∧ w'.cell? ⟨g, k * 6 + 5, none⟩ = some (.int .u64 x4)) mixed hHeld0 (fun hHeld => ?_)
  generalize W1.drew = WD at *
  refine pickA (v := ?_) 0 (some 3) rfl rfl (by kernel_rfl) (by kernel_rfl) (by kernel_rfl) (by decide) (fun _ _ _ h => h) (by rfl) ?_ (by assumption) ?_
  rotate_left
  · intro w'
    go_simp
    try with_reducible rfl
  try simp only [Act.put, List.setIfInBounds_toArray, List.set_cons_zero, List.set_cons_succ]
  refine pickA (v := ?_) 1 (some 4) rfl rfl (by kernel_rfl) (by kernel_rfl) (by kernel_rfl) (by decide) (fun _ _ _ h => h) (by rfl) ?_ (by assumption) ?_
  rotate_left
  · intro w'
    go_simp
    try with_reducible rfl
  try simp only [Act.put, List.setIfInBounds_toArray, List.set_cons_zero, List.set_cons_succ]
  refine pickA (v := ?_) 2 (some 5) rfl rfl (by kernel_rfl) (by kernel_rfl) (by kernel_rfl) (by decide) (fun _ _ _ h => h) (by rfl) ?_ (by assumption) ?_
  rotate_left
  · intro w'
    go_simp
    try with_reducible rfl
  try simp only [Act.put, List.setIfInBounds_toArray, List.set_cons_zero, List.set_cons_succ]
  refine pickL (v := .slice (some ⟨g, 0, none⟩) (k + 1) wc) 3 (some 6) rfl rfl (by kernel_rfl) (by kernel_rfl) (by kernel_rfl) (by decide) (by kernel_rfl) (by kernel_rfl) (fun _ _ _ h => h) (by rfl) ?_ (by assumption) ?_
  · intro w' hSw
    obtain ⟨q0, q1, q2, q3, q4, q5⟩ := hSw
    have y14 := q0.cell 14
    simp at y14
    go_simp
  try simp only [Act.put, List.setIfInBounds_toArray, List.set_cons_zero, List.set_cons_succ]
  refine pickA (v := ?_) 4 (some 7) rfl rfl (by kernel_rfl) (by kernel_rfl) (by kernel_rfl) (by decide) (fun _ _ _ h => h) (by rfl) ?_ (by assumption) ?_
  rotate_left
  · intro w'
    go_simp
    try with_reducible rfl
  try simp only [Act.put, List.setIfInBounds_toArray, List.set_cons_zero, List.set_cons_succ]
  refine pickA (v := ?_) 5 (some 8) rfl rfl (by kernel_rfl) (by kernel_rfl) (by kernel_rfl) (by decide) (fun _ _ _ h => h) (by rfl) ?_ (by assumption) ?_
  rotate_left
  · intro w'
    go_simp
    try with_reducible rfl
  try simp only [Act.put, List.setIfInBounds_toArray, List.set_cons_zero, List.set_cons_succ]
  refine pickA (v := ?_) 6 (some 9) rfl rfl (by kernel_rfl) (by kernel_rfl) (by kernel_rfl) (by decide) (fun _ _ _ h => h) (by rfl) ?_ (by assumption) ?_
  rotate_left
  · intro w'
    go_simp
    try with_reducible rfl
  try simp only [Act.put, List.setIfInBounds_toArray, List.set_cons_zero, List.set_cons_succ]
  refine pickL (v := .slice (some ⟨g, 0, none⟩) (k + 1) wc) 7 (some 10) rfl rfl (by kernel_rfl) (by kernel_rfl) (by kernel_rfl) (by decide) (by kernel_rfl) (by kernel_rfl) (fun _ _ _ h => h) (by rfl) ?_ (by assumption) ?_
  · intro w' hSw
    obtain ⟨q0, q1, q2, q3, q4, q5⟩ := hSw
    have y14 := q0.cell 14
    simp at y14
    go_simp
  try simp only [Act.put, List.setIfInBounds_toArray, List.set_cons_zero, List.set_cons_succ]
  refine pickA (v := ?_) 8 (some 11) rfl rfl (by kernel_rfl) (by kernel_rfl) (by kernel_rfl) (by decide) (fun _ _ _ h => h) (by rfl) ?_ (by assumption) ?_
  rotate_left
  · intro w'
    go_simp
    try with_reducible rfl
  try simp only [Act.put, List.setIfInBounds_toArray, List.set_cons_zero, List.set_cons_succ]
  refine pickA (v := ?_) 9 (some 12) rfl rfl (by kernel_rfl) (by kernel_rfl) (by kernel_rfl) (by decide) (fun _ _ _ h => h) (by rfl) ?_ (by assumption) ?_
  rotate_left
  · intro w'
    go_simp
    try with_reducible rfl
  try simp only [Act.put, List.setIfInBounds_toArray, List.set_cons_zero, List.set_cons_succ]
  refine pickA (v := .pointer (some ⟨g, k * 6, none⟩)) 10 (some 13) rfl rfl (by kernel_rfl) (by kernel_rfl) (by kernel_rfl) (by decide) (fun _ _ _ h => h) (by rfl) ?_ (by assumption) ?_
  · intro w'
    go_simp
    exact fun hx => absurd hx (by omega)
  try simp only [Act.put, List.setIfInBounds_toArray, List.set_cons_zero, List.set_cons_succ]
  refine pickA (v := ?_) 11 (some 14) rfl rfl (by kernel_rfl) (by kernel_rfl) (by kernel_rfl) (by decide) (fun _ _ _ h => h) (by rfl) ?_ (by assumption) ?_
  rotate_left
  · intro w'
    go_simp
    try with_reducible rfl
  try simp only [Act.put, List.setIfInBounds_toArray, List.set_cons_zero, List.set_cons_succ]
  refine pickL (v := .agg #[.int .i64 x0, .int .i64 x1, .int .u64 x2, .int .i64 x3, .int .u64 x4]) 12 (some 15) rfl rfl (by kernel_rfl) (by kernel_rfl) (by kernel_rfl) (by decide) (by kernel_rfl) (by kernel_rfl) (fun _ _ _ h => h) (by rfl) ?_ (by assumption) ?_
  · intro w' hSw
    obtain ⟨q0, q1, q2, q3, q4, q5⟩ := hSw
    go_simp
  try simp only [Act.put, List.setIfInBounds_toArray, List.set_cons_zero, List.set_cons_succ]
  refine lateL (i := 13) (by kernel_rfl) rfl (by decide) (by kernel_rfl) (fun K hK => ?_)
  obtain ⟨w3, hst, I3, k3⟩ := store_ref ZD.out (cs := #[.int .i64 x0, .int .i64 x1, .int .u64 x2, .int .i64 x3, .int .u64 x4]) rfl rfl (by kernel_rfl)
  have B3 : Hid (Below w.heap.size w w3) := BD.out.trans (k3.to_below (by have := BD.out.size; omega) (by simp; have := hH.out; omega))
  have HST := hide hst
  have I3h := hide I3
  clear hst I3 k3
  refine step_store_w rfl 30 (.tmp 2) (.tmp 15) rfl rfl rfl HST.out ?_
  refine hK.out _ _ ?_
  clear hK K
  try simp only [Act.put, List.setIfInBounds_toArray]
  refine doneL (by kernel_rfl) ?_ _
  clear hHeld
  go_wp2
  refine ret_ref (p := 2) (b := H) Tryd.results52 rfl rfl I3h.out ?_
  exact ⟨rfl, B3.out⟩

set_option maxHeartbeats 2000000 in
set_option maxRecDepth 100000 in
theorem stand_any (base b : Nat) (h : Int) (a : Option Addr) (n c : Nat) (tr tn : Int) (wv : Value) (hs : List Hp) (hl : hs.length ≤ 100000) (lv : Int) (r : Rf) (w : World) (hbase : base ≤ w.heap.size) (s : Sr w base b h a n c tr tn wv hs) :
    Calls Tryd.prog 32 #[.pointer (some ⟨b, 0, none⟩), .int .i64 lv, .agg r.cells] w fun e w' => e = .returned (.tuple #[]) ∧ (∃ wv', Sr w' base b h a n c tr tn wv' (hs ++ [(lv, r)])) ∧ Kt w w' ∧ Below base w w' := by
  have mixed : Tryd.prog.follows .mixedOrders = true := by kernel_rfl
  obtain ⟨x0, x1, x2, x3, x4⟩ := r
  simp only [Rf.cells]
  obtain ⟨wa, wc, rfl, -, -⟩ := s.row.shape
  have b1 := (Below.refl w.heap.size w).alloc (Nat.le_refl _) (.cells #[.int .i64 x0, .int .i64 x1, .int .u64 x2, .int .i64 x3, .int .u64 x4] 30)
  have RB := hide (IsB.new w #[.int .i64 x0, .int .i64 x1, .int .u64 x2, .int .i64 x3, .int .u64 x4] 30)
  have SB0 := s.blk.below b1
  unfold scs at SB0
  have SB := hide SB0
  have SS := hide (s.below b1)
  have B1 := hide b1
  clear b1 SB0 s
  generalize hn : hs.length = wn at *
  replace hn := hide hn
  go_enter Tryd.func32, Tryd.ntmps32
  go_wp2_with fail
  generalize w.alloc (.cells #[.int .i64 x0, .int .i64 x1, .int .u64 x2, .int .i64 x3, .int .u64 x4] 30) = W1 at *
  generalize hH : w.heap.size = H at RB ⊢
  replace hH := hide hH
  replace RB := hide (RB.out.below ((Below.refl _ _).drew))
  replace SB := hide (SB.out.below ((Below.refl _ _).drew))
  replace SS := hide (SS.out.below ((Below.refl _ _).drew))
  replace B1 := hide B1.out.drew
  refine regionL 12 (fun w' => IsB w' b #[.int .i64 h, .int .i64 0, .int .i64 1, .int .u64 0, .int .i64 h, .int .u64 0, .int .i64 1, .int .i64 3, .int .u64 0, .int .i64 h, .int .u64 0, .slice a n c, .int .i64 tr, .int .u64 tn, .slice wa wn wc] 75 ∧ IsB w' H #[.int .i64 x0, .int .i64 x1, .int .u64 x2, .int .i64 x3, .int .u64 x4] 30) mixed ⟨SB.out, RB.out⟩ (fun hHeld => ?_)
  generalize W1.drew = WD at *
  refine pickA (v := ?_) 0 (some 6) rfl rfl (by kernel_rfl) (by kernel_rfl) (by kernel_rfl) (by decide) (fun _ _ _ h => h) (by rfl) ?_ (by assumption) ?_
  rotate_left
  · intro w'
    go_simp
    try with_reducible rfl
  try simp only [Act.put, List.setIfInBounds_toArray, List.set_cons_zero, List.set_cons_succ]
  refine pickA (v := ?_) 1 (some 7) rfl rfl (by kernel_rfl) (by kernel_rfl) (by kernel_rfl) (by decide) (fun _ _ _ h => h) (by rfl) ?_ (by assumption) ?_
  rotate_left
  · intro w'
    go_simp
    try with_reducible rfl
  try simp only [Act.put, List.setIfInBounds_toArray, List.set_cons_zero, List.set_cons_succ]
  refine pickA (v := ?_) 2 (some 8) rfl rfl (by kernel_rfl) (by kernel_rfl) (by kernel_rfl) (by decide) (fun _ _ _ h => h) (by rfl) ?_ (by assumption) ?_
  rotate_left
  · intro w'
    go_simp
    try with_reducible rfl
  try simp only [Act.put, List.setIfInBounds_toArray, List.set_cons_zero, List.set_cons_succ]
  refine pickA (v := ?_) 3 (some 9) rfl rfl (by kernel_rfl) (by kernel_rfl) (by kernel_rfl) (by decide) (fun _ _ _ h => h) (by rfl) ?_ (by assumption) ?_
  rotate_left
  · intro w'
    go_simp
    try with_reducible rfl
  try simp only [Act.put, List.setIfInBounds_toArray, List.set_cons_zero, List.set_cons_succ]
  refine pickL (v := .slice wa wn wc) 4 (some 10) rfl rfl (by kernel_rfl) (by kernel_rfl) (by kernel_rfl) (by decide) (by kernel_rfl) (by kernel_rfl) (fun _ _ _ h => h) (by rfl) ?_ (by assumption) ?_
  · intro w' hSw
    obtain ⟨q0, q1⟩ := hSw
    have y14 := q0.cell 14
    simp at y14
    go_simp
  try simp only [Act.put, List.setIfInBounds_toArray, List.set_cons_zero, List.set_cons_succ]
  refine pickA (v := ?_) 5 (some 11) rfl rfl (by kernel_rfl) (by kernel_rfl) (by kernel_rfl) (by decide) (fun _ _ _ h => h) (by rfl) ?_ (by assumption) ?_
  rotate_left
  · intro w'
    go_simp
    try with_reducible rfl
  try simp only [Act.put, List.setIfInBounds_toArray, List.set_cons_zero, List.set_cons_succ]
  refine pickL (v := .agg #[.int .i64 x0, .int .i64 x1, .int .u64 x2, .int .i64 x3, .int .u64 x4]) 6 (some 12) rfl rfl (by kernel_rfl) (by kernel_rfl) (by kernel_rfl) (by decide) (by kernel_rfl) (by kernel_rfl) (fun _ _ _ h => h) (by rfl) ?_ (by assumption) ?_
  · intro w' hSw
    obtain ⟨q0, q1⟩ := hSw
    exact exec_load rfl rfl (load_ref q1 rfl)
  try simp only [Act.put, List.setIfInBounds_toArray, List.set_cons_zero, List.set_cons_succ]
  refine pickA (v := ?_) 7 (some 13) rfl rfl (by kernel_rfl) (by kernel_rfl) (by kernel_rfl) (by decide) (fun _ _ _ h => h) (by rfl) ?_ (by assumption) ?_
  rotate_left
  · intro w'
    go_simp
    try with_reducible rfl
  try simp only [Act.put, List.setIfInBounds_toArray, List.set_cons_zero, List.set_cons_succ]
  refine oneL (i := 8) (by kernel_rfl) rfl (fun K hK => ?_)
  go_simp
  have b3 := (Below.refl WD.heap.size WD).alloc (Nat.le_refl _) (.cells #[.int .i64 lv, .int .i64 x0, .int .i64 x1, .int .u64 x2, .int .i64 x3, .int .u64 x4] 98)
  have Nb := hide (IsB.new WD #[.int .i64 lv, .int .i64 x0, .int .i64 x1, .int .u64 x2, .int .i64 x3, .int .u64 x4] 98)
  replace SB := hide (SB.out.below b3)
  replace RB := hide (RB.out.below b3)
  replace B1 := hide (B1.out.trans (b3.mono B1.out.size))
  replace SS := hide (SS.out.below b3)
  clear b3
  refine hK.out _ _ ?_ ?_
  · exact ⟨SB.out, RB.out⟩
  clear hK K
  try simp only [Act.put, List.setIfInBounds_toArray, List.set_cons_zero, List.set_cons_succ]
  generalize WD.alloc (.cells #[.int .i64 lv, .int .i64 x0, .int .i64 x1, .int .u64 x2, .int .i64 x3, .int .u64 x4] 98) = W3 at *
  generalize WD.heap.size = N at Nb ⊢
  clear hHeld
  have hHeld : (fun w' => IsB w' b #[.int .i64 h, .int .i64 0, .int .i64 1, .int .u64 0, .int .i64 h, .int .u64 0, .int .i64 1, .int .i64 3, .int .u64 0, .int .i64 h, .int .u64 0, .slice a n c, .int .i64 tr, .int .u64 tn, .slice wa wn wc] 75 ∧ IsB w' H #[.int .i64 x0, .int .i64 x1, .int .u64 x2, .int .i64 x3, .int .u64 x4] 30) W3 := ⟨SB.out, RB.out⟩
  refine oneL (i := 9) (by kernel_rfl) rfl (fun K hK => ?_)
  obtain ⟨i0, hi, hz0, hz1, hz2⟩ := info_parts infoHop
  obtain ⟨v4, w4, hr4, hrw4, hg4, hat4, -⟩ := run_append_rw (P := Tryd.prog) W3 49 49 98 i0 _ 6 48 Tryd.underlying49 hi hz0 hz1 hz2 rfl (.slice wa wn wc) _ _ SS.out.row (.slice (some ⟨N, 0, none⟩) 1 1) 1 (hps [(lv, (⟨x0, x1, x2, x3, x4⟩ : Rf))]) rfl (Or.inl ⟨⟨N, 0, none⟩, 1, rfl, fun j u hu => by
    have e : (⟨N, 0, none⟩ : Addr).add j = ⟨N, j, none⟩ := by unfold Addr.add; split <;> simp_all
    rw [e, Nb.out.cell j, ← hu]
    simp [hps]⟩) (hps_one _) (by unfold maxLen; have := hn.out; omega) (by have := hn.out; omega)
  have hbo : (Value.slice wa wn wc).ownBlock ≠ some b := fun e => by
    obtain ⟨-, cur, hc⟩ := SS.out.row.lt _ e
    exact absurd (cells_inj hc SB.out) (by decide)
  have hHo : (Value.slice wa wn wc).ownBlock ≠ some H := fun e => by
    obtain ⟨-, cur, hc⟩ := SS.out.row.lt _ e
    exact absurd (cells_inj hc RB.out) (by decide)
  have S4 : Hid (IsB w4 b #[.int .i64 h, .int .i64 0, .int .i64 1, .int .u64 0, .int .i64 h, .int .u64 0, .int .i64 1, .int .i64 3, .int .u64 0, .int .i64 h, .int .u64 0, .slice a n c, .int .i64 tr, .int .u64 tn, .slice wa wn wc] 75) := (hg4.block b SB.out.lt (fun e => hbo e.symm)).trans SB.out
  have RB4 : Hid (IsB w4 H #[.int .i64 x0, .int .i64 x1, .int .u64 x2, .int .i64 x3, .int .u64 x4] 30) := (hg4.block H RB.out.lt (fun e => hHo e.symm)).trans RB.out
  have KT4 : Hid (Kt W3 w4) := Kt.grown hg4 (fun k hk => (SS.out.row.lt k hk).2)
  have BB4 : Hid (Below base w w4) := (B1.out.mono hbase).grown hg4 (by have := B1.out.size; omega) (fun k hk => SS.out.own k hk)
  have R4 := hide hrw4
  have N4 : Hid (∀ k, v4.ownBlock = some k → base ≤ k ∧ k ≠ b) := fun k hk => by
    have hb2 := SS.out.blk.lt
    rcases hat4 with e | e
    · rw [e] at hk; exact ⟨SS.out.own k hk, fun e2 => hbo (by rw [hk, e2])⟩
    · rw [e] at hk; injection hk with hk; have := B1.out.size; exact ⟨by omega, by omega⟩
  have HA := hide hr4
  clear hr4 hrw4 hg4 hat4 hbo hHo
  refine step_append_eq rfl (.tmp 10) (.tmp 14) 49 rfl _ _ v4 w4 rfl rfl HA.out ?_
  refine hK.out _ _ ?_ ?_
  · exact ⟨S4.out, RB4.out⟩
  clear hK K
  try simp only [Act.put, List.setIfInBounds_toArray]
  clear hHeld
  have hHeld : (fun w' => IsB w' b #[.int .i64 h, .int .i64 0, .int .i64 1, .int .u64 0, .int .i64 h, .int .u64 0, .int .i64 1, .int .i64 3, .int .u64 0, .int .i64 h, .int .u64 0, .slice a n c, .int .i64 tr, .int .u64 tn, .slice wa wn wc] 75 ∧ IsB w' H #[.int .i64 x0, .int .i64 x1, .int .u64 x2, .int .i64 x3, .int .u64 x4] 30) w4 := ⟨S4.out, RB4.out⟩
  refine pickA (v := ?_) 10 (some 16) rfl rfl (by kernel_rfl) (by kernel_rfl) (by kernel_rfl) (by decide) (fun _ _ _ h => h) (by rfl) ?_ (by assumption) ?_
  rotate_left
  · intro w'
    go_simp
    try with_reducible rfl
  try simp only [Act.put]
  refine pickA (v := ?_) 11 (some 17) rfl rfl (by kernel_rfl) (by kernel_rfl) (by kernel_rfl) (by decide) (fun _ _ _ h => h) (by rfl) ?_ (by assumption) ?_
  rotate_left
  · intro w'
    go_simp
    try with_reducible rfl
  try simp only [Act.put]
  refine lateL (i := 12) (by kernel_rfl) rfl (by decide) (by kernel_rfl) (fun K hK => ?_)
  have y14 := S4.out.cell 14
  have z14 := S4.out.free 14
  simp at y14
  obtain ⟨va4, vc4, rfl, -, -⟩ := R4.out.shape
  go_simp
  refine hK.out _ _ ?_
  clear hK K
  try simp only [Act.put, List.setIfInBounds_toArray, List.set_cons_zero, List.set_cons_succ]
  refine doneL (by kernel_rfl) ?_ _
  clear hHeld
  refine bodyPost_end (results_none rfl _ _ _) rfl ?_
  refine ⟨rfl, ⟨.slice va4 (hs.length + 1) vc4, ?_, ?_, fun k hk => (N4.out k hk).1, SS.out.lo⟩, ((Kt.of_below B1.out).trans KT4.out).trans (Kt.set S4.out 14 _), BB4.out.setCell SS.out.lo _⟩
  · have h9 := S4.out.set 14 (.slice va4 (hs.length + 1) vc4)
    simp at h9
    exact h9
  · rw [List.length_append, hps_app]
    exact R4.out.kp ((Kp.refl [b] w4).set ⟨b, 14, none⟩ _ (Or.inl (by simp))) (fun k hk hm => by simp at hm; exact (N4.out k hk).2 hm)

end Go.Proofs.YtfcmmchppcffmaaDoor
