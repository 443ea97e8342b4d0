/- Package net: Swap. -/
import Derived.Test.YtoinjmddmahpkaaNL
namespace Go.Proofs.Ytoinjmddmahpkaa
open Go.RowKit Go.Maps

theorem Rw.some {w : World} {e : TypeId} {size g n cap : Nat} {xs : List Value} (h : Rw w e size (.slice (some ⟨g, 0, none⟩) n cap) n xs) (j : Nat) (hj : j < n * size) : ∃ u, w.cell? ⟨g, j, none⟩ = Option.some u := by
  rw [h.cellAt j hj]
  exact ⟨_, List.getElem?_eq_getElem (by rw [h.1]; exact hj)⟩
theorem Rw.drew {w : World} {e : TypeId} {size : Nat} {v : Value} {n : Nat} {xs : List Value} (h : Rw w e size v n xs) : Rw w.drew e size v n xs := h
theorem pcs_set (ps : List Pc) (i : Nat) (hi : i < ps.length) (p : Pc) : set5 (pcs ps) (i * 5) (.bool p.fa) (.int .i64 p.fn) (.bool p.ta) (.int .i64 p.tn) (.slice p.a p.bs.length p.cap) = pcs (ps.set i p) := by
  induction ps generalizing i with
  | nil => simp at hi
  | cons q r ih =>
    cases i with
    | zero => simp [pcs, set5, Pc.cs]
    | succ i =>
      have h := ih i (by simpa using hi)
      have e : (i + 1) * 5 = i * 5 + 5 := by omega
      unfold pcs at *
      rw [List.set_cons_succ, List.flatMap_cons, List.flatMap_cons, ← h, e]
      simp [set5, Pc.cs]

/-- Two of a row change places. -/
def swp (ps : List Pc) (i j : Nat) : List Pc := (ps.set i (ps.getD j Pc.none)).set j (ps.getD i Pc.none)

set_option maxHeartbeats 2000000 in
set_option maxRecDepth 100000 in
theorem swap_bad (b m : Nat) (v : Value) (ps : List Pc) (c : Cnt) (k : Nat) (w : World) (h : NS w b m v ps c k) (i j : Int) (hi : (inR ps.length i && inR ps.length j) = false) :
    Calls Try.prog 22 #[.pointer (some ⟨b, 0, none⟩), .int .i64 i, .int .i64 j] w fun e w' => e = .returned (.int .i64 5) ∧ Below w.heap.size w w' := by
  have h2 := hide (h.below ((Below.refl _ _).alloc (Nat.le_refl _) (.cells #[.int .i64 i, .int .i64 j] 3)))
  have e5 : (if [i, j].all (inR ps.length) then (0 : Int) else 5) = 5 := by
    rw [if_neg]
    simp only [List.all_cons, List.all_nil, Bool.and_true]
    rw [hi]; simp
  clear h
  go_enter Try.func22, Try.ntmps22
  go_wp2_with fail
  refine (places_any b m v ps c k _ h2.out w.heap.size 2 [i, j] (fun q hq => ?_) (by simp)).mono ?_
  · simp at hq
    have : q = 0 ∨ q = 1 := by omega
    rcases this with rfl | rfl <;> simp
  rintro e w1 ⟨rfl, rfl⟩
  rw [e5]
  clear h2 e5
  go_wp2
  go_ret
  exact ⟨rfl, (Below.refl _ _).alloc (Nat.le_refl _) _⟩

set_option maxHeartbeats 8000000 in
set_option maxRecDepth 100000 in
theorem swap_ok (b m : Nat) (v : Value) (ps : List Pc) (c : Cnt) (k : Nat) (w : World) (h : NS w b m v ps c k) (i j : Nat) (hi : i < ps.length) (hj : j < ps.length) :
    Calls Try.prog 22 #[.pointer (some ⟨b, 0, none⟩), .int .i64 (i : Int), .int .i64 (j : Int)] w fun e w' => e = .returned (.int .i64 0) ∧ Nx w w' b m v v (swp ps i j) c k := by
  have mixed : Try.prog.follows .mixedOrders = true := by kernel_rfl
  have X0 := h.nx ((Below.refl w.heap.size w).alloc (Nat.le_refl _) (.cells #[.int .i64 (i : Int), .int .i64 (j : Int)] 3))
  have e5 : (if [(i : Int), (j : Int)].all (inR ps.length) then (0 : Int) else 5) = 0 := by simp [inR]; omega
  have hlen := h.len
  have hsw : swp ps i j = (ps.set i ps[j]).set j ps[i] := by simp [swp, hi, hj]
  rw [hsw]
  clear h hsw
  have HPI := hide (show ps[i] ∈ ps from List.getElem_mem hi)
  have HPJ := hide (show ps[j] ∈ ps from List.getElem_mem hj)
  generalize hP : ps[i] = P at HPI ⊢
  generalize hR : ps[j] = R at HPJ ⊢
  have HP := hide hP
  have HRR := hide hR
  clear hP hR
  go_enter Try.func22, Try.ntmps22
  go_wp2_with fail
  refine (places_any b m v ps c k _ X0.ns w.heap.size 2 [(i : Int), (j : Int)] (fun q hq => ?_) (by simp)).mono ?_
  · simp at hq
    have : q = 0 ∨ q = 1 := by omega
    rcases this with rfl | rfl <;> simp
  intro e W hE; obtain ⟨rfl, hw⟩ := hE
  rw [e5]
  rw [← hw] at X0
  clear hw e5
  obtain ⟨g, cap, rfl, hcap, hmax, i0, i1, i2, i3, i4⟩ := X0.ns.cells i hi
  obtain ⟨g', cap', hv', -, -, j0, j1, j2, j3, j4⟩ := X0.ns.cells j hj
  injection hv' with h1 h2 h3
  injection h1 with h1
  injection h1 with h1
  subst h1
  subst h3
  clear h2
  have hb0 := X0.ns.blk.cell 0
  simp at hb0
  rw [HP.out] at i0 i1 i2 i3 i4
  rw [HRR.out] at j0 j1 j2 j3 j4
  clear HP HRR
  obtain ⟨ifa, ifn, ita, itn, ia, ic, ib⟩ := P
  obtain ⟨kfa, kfn, kta, ktn, ka, kc, kb⟩ := R
  simp only [] at i0 i1 i2 i3 i4 j0 j1 j2 j3 j4
  generalize hil : ib.length = il at *
  generalize hkl : kb.length = kl at *
  have HR : Hid (Rw W 35 5 (.slice (some ⟨g, 0, none⟩) ps.length cap) ps.length (pcs ps)) := X0.ns.row.row
  have HF := hide X0.ns.row.row.frozenAt
  have hgb : b ≠ g := by
    intro e
    have h1 := X0.ns.blk
    obtain ⟨-, cur, h2⟩ := X0.ns.row.row.lt g rfl
    unfold IsB at h1
    rw [e, h2] at h1
    injection h1 with h1
    injection h1 with _ h1
    cases h1
  generalize hn : ps.length = n at *
  replace hn := hide hn
  replace hil := hide hil
  replace hkl := hide hkl
  replace X0 := hide X0
  go_wp2
  have HS0 : Hid ((fun w' => w'.cell? ⟨b, 0, none⟩ = some (.slice (some ⟨g, 0, none⟩) n cap) ∧ w'.cell? ⟨g, i * 5, none⟩ = some (.bool ifa) ∧ w'.cell? ⟨g, i * 5 + 1, none⟩ = some (.int .i64 ifn) ∧ w'.cell? ⟨g, i * 5 + 2, none⟩ = some (.bool ita) ∧ w'.cell? ⟨g, i * 5 + 3, none⟩ = some (.int .i64 itn) ∧ w'.cell? ⟨g, i * 5 + 4, none⟩ = some (.slice ia il ic) ∧ w'.cell? ⟨g, j * 5, none⟩ = some (.bool kfa) ∧ w'.cell? ⟨g, j * 5 + 1, none⟩ = some (.int .i64 kfn) ∧ w'.cell? ⟨g, j * 5 + 2, none⟩ = some (.bool kta) ∧ w'.cell? ⟨g, j * 5 + 3, none⟩ = some (.int .i64 ktn) ∧ w'.cell? ⟨g, j * 5 + 4, none⟩ = some (.slice ka kl kc)) W.drew) := ⟨hb0, i0, i1, i2, i3, i4, j0, j1, j2, j3, j4⟩
  have HSW : Hid ((fun w' => w'.cell? ⟨b, 0, none⟩ = some (.slice (some ⟨g, 0, none⟩) n cap) ∧ w'.cell? ⟨g, i * 5, none⟩ = some (.bool ifa) ∧ w'.cell? ⟨g, i * 5 + 1, none⟩ = some (.int .i64 ifn) ∧ w'.cell? ⟨g, i * 5 + 2, none⟩ = some (.bool ita) ∧ w'.cell? ⟨g, i * 5 + 3, none⟩ = some (.int .i64 itn) ∧ w'.cell? ⟨g, i * 5 + 4, none⟩ = some (.slice ia il ic) ∧ w'.cell? ⟨g, j * 5, none⟩ = some (.bool kfa) ∧ w'.cell? ⟨g, j * 5 + 1, none⟩ = some (.int .i64 kfn) ∧ w'.cell? ⟨g, j * 5 + 2, none⟩ = some (.bool kta) ∧ w'.cell? ⟨g, j * 5 + 3, none⟩ = some (.int .i64 ktn) ∧ w'.cell? ⟨g, j * 5 + 4, none⟩ = some (.slice ka kl kc)) W) := ⟨hb0, i0, i1, i2, i3, i4, j0, j1, j2, j3, j4⟩
  clear hb0 i0 i1 i2 i3 i4 j0 j1 j2 j3 j4
  refine regionL 25 (fun w' => w'.cell? ⟨b, 0, none⟩ = some (.slice (some ⟨g, 0, none⟩) n cap) ∧ w'.cell? ⟨g, i * 5, none⟩ = some (.bool ifa) ∧ w'.cell? ⟨g, i * 5 + 1, none⟩ = some (.int .i64 ifn) ∧ w'.cell? ⟨g, i * 5 + 2, none⟩ = some (.bool ita) ∧ w'.cell? ⟨g, i * 5 + 3, none⟩ = some (.int .i64 itn) ∧ w'.cell? ⟨g, i * 5 + 4, none⟩ = some (.slice ia il ic) ∧ w'.cell? ⟨g, j * 5, none⟩ = some (.bool kfa) ∧ w'.cell? ⟨g, j * 5 + 1, none⟩ = some (.int .i64 kfn) ∧ w'.cell? ⟨g, j * 5 + 2, none⟩ = some (.bool kta) ∧ w'.cell? ⟨g, j * 5 + 3, none⟩ = some (.int .i64 ktn) ∧ w'.cell? ⟨g, j * 5 + 4, none⟩ = some (.slice ka kl kc)) mixed HS0.out (fun hHeld => ?_)
  refine pickA (v := ?_) 0 (some 16) rfl rfl (by kernel_rfl) (by kernel_rfl) (by kernel_rfl) (by decide) (fun _ _ _ h => h) (by rfl) ?_ (by assumption) ?_
  rotate_left
  · intro w'
    go_simp
    try with_reducible rfl
  try simp only [Act.put, List.setIfInBounds_toArray, List.set_cons_zero, List.set_cons_succ]
  refine pickA (v := ?_) 1 (some 17) rfl rfl (by kernel_rfl) (by kernel_rfl) (by kernel_rfl) (by decide) (fun _ _ _ h => h) (by rfl) ?_ (by assumption) ?_
  rotate_left
  · intro w'
    go_simp
    try with_reducible rfl
  try simp only [Act.put, List.setIfInBounds_toArray, List.set_cons_zero, List.set_cons_succ]
  refine pickA (v := ?_) 2 (some 18) rfl rfl (by kernel_rfl) (by kernel_rfl) (by kernel_rfl) (by decide) (fun _ _ _ h => h) (by rfl) ?_ (by assumption) ?_
  rotate_left
  · intro w'
    go_simp
    try with_reducible rfl
  try simp only [Act.put, List.setIfInBounds_toArray, List.set_cons_zero, List.set_cons_succ]
  refine pickL (v := ?_) 3 (some 19) rfl rfl (by kernel_rfl) (by kernel_rfl) (by kernel_rfl) (by decide) (by kernel_rfl) (by kernel_rfl) (fun _ _ _ h => h) (by rfl) ?_ (by assumption) ?_
  rotate_left
  · intro w' hSw
    obtain ⟨q0, i0, i1, i2, i3, i4, j0, j1, j2, j3, j4⟩ := hSw
    go_simp
    try with_reducible rfl
  try simp only [Act.put, List.setIfInBounds_toArray, List.set_cons_zero, List.set_cons_succ]
  refine pickA (v := ?_) 4 (some 20) rfl rfl (by kernel_rfl) (by kernel_rfl) (by kernel_rfl) (by decide) (fun _ _ _ h => h) (by rfl) ?_ (by assumption) ?_
  rotate_left
  · intro w'
    go_simp
    try with_reducible rfl
  try simp only [Act.put, List.setIfInBounds_toArray, List.set_cons_zero, List.set_cons_succ]
  refine pickA (v := ?_) 5 (some 21) rfl rfl (by kernel_rfl) (by kernel_rfl) (by kernel_rfl) (by decide) (fun _ _ _ h => h) (by rfl) ?_ (by assumption) ?_
  rotate_left
  · intro w'
    go_simp
    try with_reducible rfl
  try simp only [Act.put, List.setIfInBounds_toArray, List.set_cons_zero, List.set_cons_succ]
  refine pickA (v := ?_) 6 (some 22) rfl rfl (by kernel_rfl) (by kernel_rfl) (by kernel_rfl) (by decide) (fun _ _ _ h => h) (by rfl) ?_ (by assumption) ?_
  rotate_left
  · intro w'
    go_simp
    try with_reducible rfl
  try simp only [Act.put, List.setIfInBounds_toArray, List.set_cons_zero, List.set_cons_succ]
  refine pickA (v := ?_) 7 (some 23) rfl rfl (by kernel_rfl) (by kernel_rfl) (by kernel_rfl) (by decide) (fun _ _ _ h => h) (by rfl) ?_ (by assumption) ?_
  rotate_left
  · intro w'
    go_simp
    try with_reducible rfl
  try simp only [Act.put, List.setIfInBounds_toArray, List.set_cons_zero, List.set_cons_succ]
  refine pickL (v := ?_) 8 (some 24) rfl rfl (by kernel_rfl) (by kernel_rfl) (by kernel_rfl) (by decide) (by kernel_rfl) (by kernel_rfl) (fun _ _ _ h => h) (by rfl) ?_ (by assumption) ?_
  rotate_left
  · intro w' hSw
    obtain ⟨q0, i0, i1, i2, i3, i4, j0, j1, j2, j3, j4⟩ := hSw
    go_simp
    try with_reducible rfl
  try simp only [Act.put, List.setIfInBounds_toArray, List.set_cons_zero, List.set_cons_succ]
  refine pickA (v := ?_) 9 (some 25) rfl rfl (by kernel_rfl) (by kernel_rfl) (by kernel_rfl) (by decide) (fun _ _ _ h => h) (by rfl) ?_ (by assumption) ?_
  rotate_left
  · intro w'
    go_simp
    try with_reducible rfl
  try simp only [Act.put, List.setIfInBounds_toArray, List.set_cons_zero, List.set_cons_succ]
  refine pickA (v := ?_) 10 (some 26) rfl rfl (by kernel_rfl) (by kernel_rfl) (by kernel_rfl) (by decide) (fun _ _ _ h => h) (by rfl) ?_ (by assumption) ?_
  rotate_left
  · intro w'
    go_simp
    try with_reducible rfl
  try simp only [Act.put, List.setIfInBounds_toArray, List.set_cons_zero, List.set_cons_succ]
  refine pickA (v := ?_) 11 (some 27) rfl rfl (by kernel_rfl) (by kernel_rfl) (by kernel_rfl) (by decide) (fun _ _ _ h => h) (by rfl) ?_ (by assumption) ?_
  rotate_left
  · intro w'
    go_simp
    try with_reducible rfl
  try simp only [Act.put, List.setIfInBounds_toArray, List.set_cons_zero, List.set_cons_succ]
  refine pickA (v := ?_) 12 (some 28) rfl rfl (by kernel_rfl) (by kernel_rfl) (by kernel_rfl) (by decide) (fun _ _ _ h => h) (by rfl) ?_ (by assumption) ?_
  rotate_left
  · intro w'
    go_simp
    try with_reducible rfl
  try simp only [Act.put, List.setIfInBounds_toArray, List.set_cons_zero, List.set_cons_succ]
  refine pickL (v := ?_) 13 (some 29) rfl rfl (by kernel_rfl) (by kernel_rfl) (by kernel_rfl) (by decide) (by kernel_rfl) (by kernel_rfl) (fun _ _ _ h => h) (by rfl) ?_ (by assumption) ?_
  rotate_left
  · intro w' hSw
    obtain ⟨q0, i0, i1, i2, i3, i4, j0, j1, j2, j3, j4⟩ := hSw
    go_simp
    try with_reducible rfl
  try simp only [Act.put, List.setIfInBounds_toArray, List.set_cons_zero, List.set_cons_succ]
  refine pickA (v := ?_) 14 (some 30) rfl rfl (by kernel_rfl) (by kernel_rfl) (by kernel_rfl) (by decide) (fun _ _ _ h => h) (by rfl) ?_ (by assumption) ?_
  rotate_left
  · intro w'
    go_simp
    try with_reducible rfl
  try simp only [Act.put, List.setIfInBounds_toArray, List.set_cons_zero, List.set_cons_succ]
  refine pickA (v := ?_) 15 (some 31) rfl rfl (by kernel_rfl) (by kernel_rfl) (by kernel_rfl) (by decide) (fun _ _ _ h => h) (by rfl) ?_ (by assumption) ?_
  rotate_left
  · intro w'
    go_simp
    try with_reducible rfl
  try simp only [Act.put, List.setIfInBounds_toArray, List.set_cons_zero, List.set_cons_succ]
  refine pickL (v := ?_) 16 (some 32) rfl rfl (by kernel_rfl) (by kernel_rfl) (by kernel_rfl) (by decide) (by kernel_rfl) (by kernel_rfl) (fun _ _ _ h => h) (by rfl) ?_ (by assumption) ?_
  rotate_left
  · intro w' hSw
    obtain ⟨q0, i0, i1, i2, i3, i4, j0, j1, j2, j3, j4⟩ := hSw
    go_simp
    try with_reducible rfl
  try simp only [Act.put, List.setIfInBounds_toArray, List.set_cons_zero, List.set_cons_succ]
  refine pickA (v := ?_) 17 (some 33) rfl rfl (by kernel_rfl) (by kernel_rfl) (by kernel_rfl) (by decide) (fun _ _ _ h => h) (by rfl) ?_ (by assumption) ?_
  rotate_left
  · intro w'
    go_simp
    try with_reducible rfl
  try simp only [Act.put, List.setIfInBounds_toArray, List.set_cons_zero, List.set_cons_succ]
  refine pickA (v := ?_) 18 (some 34) rfl rfl (by kernel_rfl) (by kernel_rfl) (by kernel_rfl) (by decide) (fun _ _ _ h => h) (by rfl) ?_ (by assumption) ?_
  rotate_left
  · intro w'
    go_simp
    try with_reducible rfl
  try simp only [Act.put, List.setIfInBounds_toArray, List.set_cons_zero, List.set_cons_succ]
  refine pickA (v := ?_) 19 (some 35) rfl rfl (by kernel_rfl) (by kernel_rfl) (by kernel_rfl) (by decide) (fun _ _ _ h => h) (by rfl) ?_ (by assumption) ?_
  rotate_left
  · intro w'
    go_simp
    try with_reducible rfl
  try simp only [Act.put, List.setIfInBounds_toArray, List.set_cons_zero, List.set_cons_succ]
  refine pickL (v := ?_) 20 (some 36) rfl rfl (by kernel_rfl) (by kernel_rfl) (by kernel_rfl) (by decide) (by kernel_rfl) (by kernel_rfl) (fun _ _ _ h => h) (by rfl) ?_ (by assumption) ?_
  rotate_left
  · intro w' hSw
    obtain ⟨q0, i0, i1, i2, i3, i4, j0, j1, j2, j3, j4⟩ := hSw
    go_simp
    try with_reducible rfl
  try simp only [Act.put, List.setIfInBounds_toArray, List.set_cons_zero, List.set_cons_succ]
  refine pickA (v := ?_) 21 (some 37) rfl rfl (by kernel_rfl) (by kernel_rfl) (by kernel_rfl) (by decide) (fun _ _ _ h => h) (by rfl) ?_ (by assumption) ?_
  rotate_left
  · intro w'
    go_simp
    try with_reducible rfl
  try simp only [Act.put, List.setIfInBounds_toArray, List.set_cons_zero, List.set_cons_succ]
  refine pickA (v := ?_) 22 (some 38) rfl rfl (by kernel_rfl) (by kernel_rfl) (by kernel_rfl) (by decide) (fun _ _ _ h => h) (by rfl) ?_ (by assumption) ?_
  rotate_left
  · intro w'
    go_simp
    try with_reducible rfl
  try simp only [Act.put, List.setIfInBounds_toArray, List.set_cons_zero, List.set_cons_succ]
  refine pickL (v := ?_) 23 (some 39) rfl rfl (by kernel_rfl) (by kernel_rfl) (by kernel_rfl) (by decide) (by kernel_rfl) (by kernel_rfl) (fun _ _ _ h => h) (by rfl) ?_ (by assumption) ?_
  rotate_left
  · intro w' hSw
    obtain ⟨q0, i0, i1, i2, i3, i4, j0, j1, j2, j3, j4⟩ := hSw
    go_simp
    try with_reducible rfl
  try simp only [Act.put, List.setIfInBounds_toArray, List.set_cons_zero, List.set_cons_succ]
  refine pickA (v := ?_) 24 (some 40) rfl rfl (by kernel_rfl) (by kernel_rfl) (by kernel_rfl) (by decide) (fun _ _ _ h => h) (by rfl) ?_ (by assumption) ?_
  rotate_left
  · intro w'
    go_simp
    try with_reducible rfl
  try simp only [Act.put, List.setIfInBounds_toArray, List.set_cons_zero, List.set_cons_succ]
  refine lateL (i := 25) (by kernel_rfl) rfl (by decide) (by kernel_rfl) (fun K hK => ?_)
  have f0 := HF.out (i * 5)
  have f1 := HF.out (i * 5 + 1)
  have f2 := HF.out (i * 5 + 2)
  have f3 := HF.out (i * 5 + 3)
  have f4 := HF.out (i * 5 + 4)
  obtain ⟨q0, i0, i1, i2, i3, i4, j0, j1, j2, j3, j4⟩ := HSW.out
  go_simp
  refine hK.out _ _ ?_
  clear hK K
  try simp only [Act.put]
  clear f0 f1 f2 f3 f4 q0 i0 i1 i2 i3 i4 j0 j1 j2 j3 j4
  generalize hW5 : (((((W.setCell ⟨g, i * 5, none⟩ (.bool kfa)).setCell ⟨g, i * 5 + 1, none⟩ (.int .i64 kfn)).setCell ⟨g, i * 5 + 2, none⟩ (.bool kta)).setCell ⟨g, i * 5 + 3, none⟩ (.int .i64 ktn)).setCell ⟨g, i * 5 + 4, none⟩ (.slice ka kl kc)).drew = W5
  have R5 := hide ((HR.out.stored5 (i * 5) (.bool kfa) (.int .i64 kfn) (.bool kta) (.int .i64 ktn) (.slice ka kl kc)).drew)
  have K5 := hide (put5at_kp W g (i * 5) (.bool kfa) (.int .i64 kfn) (.bool kta) (.int .i64 ktn) (.slice ka kl kc)).drew
  dsimp only [put5at] at R5 K5
  rw [hW5] at R5 K5
  obtain ⟨u0, g0⟩ := R5.out.some (j * 5) (by omega)
  have f0 := R5.out.frozenAt (j * 5)
  obtain ⟨u1, g1⟩ := R5.out.some (j * 5 + 1) (by omega)
  have f1 := R5.out.frozenAt (j * 5 + 1)
  obtain ⟨u2, g2⟩ := R5.out.some (j * 5 + 2) (by omega)
  have f2 := R5.out.frozenAt (j * 5 + 2)
  obtain ⟨u3, g3⟩ := R5.out.some (j * 5 + 3) (by omega)
  have f3 := R5.out.frozenAt (j * 5 + 3)
  obtain ⟨u4, g4⟩ := R5.out.some (j * 5 + 4) (by omega)
  have f4 := R5.out.frozenAt (j * 5 + 4)
  refine lateL (i := 26) (by kernel_rfl) rfl (by decide) (by kernel_rfl) (fun K hK => ?_)
  go_simp
  refine hK.out _ _ ?_
  clear hK K
  try simp only [Act.put]
  refine lateL (i := 27) (by kernel_rfl) rfl (by decide) (by kernel_rfl) (fun K hK => ?_)
  go_simp
  refine hK.out _ _ ?_
  clear hK K
  try simp only [Act.put]
  refine doneL (by kernel_rfl) ?_ _
  have R6 := R5.out.stored5 (j * 5) (.bool ifa) (.int .i64 ifn) (.bool ita) (.int .i64 itn) (.slice ia il ic)
  have K6 := put5at_kp W5 g (j * 5) (.bool ifa) (.int .i64 ifn) (.bool ita) (.int .i64 itn) (.slice ia il ic)
  have hK : Kp [g] W (put5at W5 g (j * 5) (.bool ifa) (.int .i64 ifn) (.bool ita) (.int .i64 itn) (.slice ia il ic)) := K5.out.trans K6 (by simp)
  rw [← hil.out] at R6
  have e1 := pcs_set ps i (by rw [hn.out]; exact hi) ⟨kfa, kfn, kta, ktn, ka, kc, kb⟩
  have e2 := pcs_set (ps.set i ⟨kfa, kfn, kta, ktn, ka, kc, kb⟩) j (by rw [List.length_set, hn.out]; exact hj) ⟨ifa, ifn, ita, itn, ia, ic, ib⟩
  simp only [] at e1 e2
  rw [hkl.out] at e1
  rw [e1, e2] at R6
  have hnb : NoBy W [g] := fun q hq => X0.out.ns.noBy q (by simp at hq; subst hq; simp [foot, Value.ownBlock])
  have X6 : Nx w (put5at W5 g (j * 5) (.bool ifa) (.int .i64 ifn) (.bool ita) (.int .i64 itn) (.slice ia il ic)) b m (.slice (some ⟨g, 0, none⟩) n cap) (.slice (some ⟨g, 0, none⟩) n cap) ((ps.set i ⟨kfa, kfn, kta, ktn, ka, kc, kb⟩).set j ⟨ifa, ifn, ita, itn, ia, ic, ib⟩) c k := by
    refine ⟨⟨X0.out.ns.blk.kp hK (by simpa using hgb), X0.out.ns.map.kp hK ?_, ⟨?_, ?_⟩, by rw [List.length_set, List.length_set]; exact X0.out.ns.len, X0.out.ns.c0, X0.out.ns.c1⟩, X0.out.kp.trans hK (fun q hq => Or.inl (by simp at hq; subst hq; simp [foot, Value.ownBlock])), fun _ hq => Or.inl hq⟩
    · intro e
      simp at e
      obtain ⟨-, cur, hc⟩ := X0.out.ns.row.row.lt g rfl
      obtain ⟨es, cl, h1⟩ := X0.out.ns.map.heap
      rw [e, hc] at h1; cases h1
    · rw [List.length_set, List.length_set, hn.out, ← hil.out]
      exact R6
    · intro p hp
      have hp2 : p ∈ ps := by
        rcases List.mem_or_eq_of_mem_set hp with h1 | h1
        · rcases List.mem_or_eq_of_mem_set h1 with h2 | h2
          · exact h2
          · rw [h2]; exact HPJ.out
        · rw [h1]; exact HPI.out
      exact (X0.out.ns.row.by_ p hp2).kp hK hnb
  dsimp only [put5at] at X6
  generalize ((((W5.setCell ⟨g, j * 5, none⟩ (.bool ifa)).setCell ⟨g, j * 5 + 1, none⟩ (.int .i64 ifn)).setCell ⟨g, j * 5 + 2, none⟩ (.bool ita)).setCell ⟨g, j * 5 + 3, none⟩ (.int .i64 itn)).setCell ⟨g, j * 5 + 4, none⟩ (.slice ia il ic) = W7 at X6 ⊢
  replace X6 := hide X6
  go_wp2
  go_ret
  rw [hn.out]
  exact ⟨rfl, X6.out⟩

end Go.Proofs.Ytoinjmddmahpkaa
