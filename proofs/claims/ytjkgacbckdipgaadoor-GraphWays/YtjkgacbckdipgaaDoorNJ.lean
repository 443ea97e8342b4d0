/- The document's SameHops, of the same hops. -/
import Derived.Test.YtjkgacbckdipgaaDoorNI
import Derived.Test.YtjkgacbckdipgaaDoorGL
import Derived.Test.YtjkgacbckdipgaaDoorGR
import Derived.Test.YtjkgacbckdipgaaDoorHC
namespace Go.Proofs.YtjkgacbckdipgaaDoor
open Go.RowKit Go.Maps Go.ChangeMaps

theorem eir (dd : Nat) (i a b c d i' a' b' c' d' : Int) (w : World) : (Op.equalIn (dd + 1 + 1 + 1) 32 (.agg #[.int .i64 i, .int .i64 a, .int .u64 b, .int .i64 c, .int .u64 d]) (.agg #[.int .i64 i', .int .i64 a', .int .u64 b', .int .i64 c', .int .u64 d'])).run Tryd.prog w = .ok (i == i' && (a == a' && b == b') && (c == c' && d == d')) w := by
  have u0 := Tryd.underlying22
  have a0 := Tryd.isAgg22
  have z0 := Tryd.sizeOf22
  have u1 := Tryd.underlying3
  have a1 := Tryd.isAgg3
  have z1 := Tryd.sizeOf3
  have u2 := Tryd.underlying23
  have a2 := Tryd.isAgg23
  have z2 := Tryd.sizeOf23
  have u3 := Tryd.isAgg25
  have u4 := Tryd.sizeOf25
  have u5 := Tryd.isAgg30
  have u6 := Tryd.sizeOf30
  have hS : Tryd.prog.underlying 32 = some (.struct (Tryd.prog.fieldsOf 32)) := by kernel_rfl
  have hp : Tryd.prog.stoodInHeld 32 = false := by kernel_rfl
  have hS1 : Tryd.prog.underlying 25 = some (.struct (Tryd.prog.fieldsOf 25)) := by kernel_rfl
  have hp1 : Tryd.prog.stoodInHeld 25 = false := by kernel_rfl
  have hS2 : Tryd.prog.underlying 30 = some (.struct (Tryd.prog.fieldsOf 30)) := by kernel_rfl
  have hp2 : Tryd.prog.stoodInHeld 30 = false := by kernel_rfl
  rw [run_equalIn_agg w (dd + 1 + 1) 32 _ _ hS hp]
  clear hS
  simp only [Program.fieldsOf, Tryd.underlying32]
  have e1 : ∀ (x y x' y' : Int) w, (Op.equalIn (dd + 1 + 1) 25 (.agg #[.int .i64 x, .int .u64 y]) (.agg #[.int .i64 x', .int .u64 y'])).run Tryd.prog w = .ok (x == x' && y == y') w := fun x y x' y' w => by
    rw [run_equalIn_agg w (dd + 1) 25 _ _ hS1 hp1]
    simp only [Program.fieldsOf, Tryd.underlying25]
    go_simp
    by_cases h1 : x = x' <;> by_cases h2 : y = y' <;> simp [h1, h2]
  have e2 : ∀ (x y x' y' : Int) w, (Op.equalIn (dd + 1 + 1) 30 (.agg #[.int .i64 x, .int .u64 y]) (.agg #[.int .i64 x', .int .u64 y'])).run Tryd.prog w = .ok (x == x' && y == y') w := fun x y x' y' w => by
    rw [run_equalIn_agg w (dd + 1) 30 _ _ hS2 hp2]
    simp only [Program.fieldsOf, Tryd.underlying30]
    go_simp
    by_cases h1 : x = x' <;> by_cases h2 : y = y' <;> simp [h1, h2]
  clear hS1 hp1 hS2 hp2
  go_simp
  by_cases h1 : i = i' <;> by_cases h2 : a = a' <;> by_cases h3 : b = b' <;> by_cases h4 : c = c' <;> by_cases h5 : d = d' <;> simp [h1, h2, h3, h4, h5]
theorem nehop (n : Int) (r : Rf) (w : World) : (binOp .neq 57 (.agg #[.int .i64 n, .int .i64 r.id, .int .i64 r.rk, .int .u64 r.kn, .int .i64 r.ln, .int .u64 r.bt]) (.agg #[.int .i64 n, .int .i64 r.id, .int .i64 r.rk, .int .u64 r.kn, .int .i64 r.ln, .int .u64 r.bt])).run Tryd.prog w = .ok (.bool false) w := by
  have u1 := Tryd.underlying3
  have a1 := Tryd.isAgg3
  have z1 := Tryd.sizeOf3
  have u3 := Tryd.isAgg32
  have u4 := Tryd.sizeOf32
  have hS : Tryd.prog.underlying 57 = some (.struct (Tryd.prog.fieldsOf 57)) := by kernel_rfl
  have hp : Tryd.prog.stoodInHeld 57 = false := by kernel_rfl
  obtain ⟨dd, hd⟩ : ∃ dd, (10000 : Nat) = dd + 1 + 1 + 1 + 1 := ⟨9996, rfl⟩
  rw [run_neq_struct, hd, run_equalIn_agg w (dd + 1 + 1 + 1) 57 _ _ hS hp]
  clear hd hS
  simp only [Program.fieldsOf, Tryd.underlying57]
  have e1 := eir dd r.id r.rk r.kn r.ln r.bt r.id r.rk r.kn r.ln r.bt
  go_simp
theorem hguard : Tryd.prog.eqGuardType Tryd.prog.depth 57 = false := by kernel_rfl
theorem Rw.some {w : World} {t : TypeId} {k n : Nat} {v : Value} {l : List Value} (h : Rw w t k v n l) (hn : 0 < n) : ∃ g cap, v = .slice (some ⟨g, 0, none⟩) n cap := by
  rcases h.2 with ⟨-, h0⟩ | ⟨g, cap, cur, hv, -⟩
  · omega
  · exact ⟨g, cap, hv⟩
theorem ld_hop {w : World} {g cap n : Nat} {wy : List Hp} (R : Rw w 57 6 (.slice (some ⟨g, 0, none⟩) n cap) n (hps wy)) (hn : wy.length = n) (j : Nat) (hj : j < wy.length) : (Instr.loadAt 57 (.pointer (some ⟨g, j * 6, none⟩))).run Tryd.prog w = .ok (.agg #[.int .i64 wy[j].1, .int .i64 wy[j].2.id, .int .i64 wy[j].2.rk, .int .u64 wy[j].2.kn, .int .i64 wy[j].2.ln, .int .u64 wy[j].2.bt]) w := by
  obtain ⟨e0, e1, e2, e3, e4, e5⟩ := hps_get wy j hj
  have c0 := (R.cellAt (j * 6) (by omega)).trans e0
  have c1 := (R.cellAt (j * 6 + 1) (by omega)).trans e1
  have c2 := (R.cellAt (j * 6 + 2) (by omega)).trans e2
  have c3 := (R.cellAt (j * 6 + 3) (by omega)).trans e3
  have c4 := (R.cellAt (j * 6 + 4) (by omega)).trans e4
  have c5 := (R.cellAt (j * 6 + 5) (by omega)).trans e5
  refine run_loadAt_mid w g (j * 6) 57 [.int .i64 wy[j].1, .int .i64 wy[j].2.id, .int .i64 wy[j].2.rk, .int .u64 wy[j].2.kn, .int .i64 wy[j].2.ln, .int .u64 wy[j].2.bt] _ (fun k v hk => ?_) Tryd.underlying57 rfl (by kernel_rfl)
  match k, hk with
  | 0, hk => simp at hk; subst hk; exact c0
  | 1, hk => simp at hk; subst hk; exact c1
  | 2, hk => simp at hk; subst hk; exact c2
  | 3, hk => simp at hk; subst hk; exact c3
  | 4, hk => simp at hk; subst hk; exact c4
  | 5, hk => simp at hk; subst hk; exact c5
  | k + 6, hk => simp at hk

set_option maxHeartbeats 8000000 in
set_option maxRecDepth 100000 in
theorem samehops_any (v1 v2 : Value) (wy : List Hp) (n : Nat) (hn : wy.length = n) (hl : n ≤ 200000) (w : World) (R1 : Rw w 57 6 v1 n (hps wy)) (R2 : Rw w 57 6 v2 n (hps wy)) : Calls Tryd.prog 7 #[v1, v2] w fun e' w' => e' = .returned (.bool true) ∧ Below w.heap.size w w' := by
  have mixed : Tryd.prog.follows .mixedOrders = true := by kernel_rfl
  obtain ⟨a1, c1, rfl, -, -⟩ := R1.shape
  obtain ⟨a2, c2, rfl, -, -⟩ := R2.shape
  have K1 : Hid (∀ w', Below w.heap.size w w' → Rw w' 57 6 (.slice a1 n c1) n (hps wy)) := fun w' hb => R1.below hb
  have K2 : Hid (∀ w', Below w.heap.size w w' → Rw w' 57 6 (.slice a2 n c2) n (hps wy)) := fun w' hb => R2.below hb
  have B := hide (Below.refl w.heap.size w)
  clear R1 R2
  replace hn := hide hn
  go_enter Tryd.func7, Tryd.ntmps7
  go_wp2_with fail
  go_loopw [5] (fun i wr => ∃ j : Nat, j ≤ n ∧ i = .int .i64 (j : Int) ∧ Hid (Below w.heap.size w wr)) (fun i _ => n - (intOf i).toNat)
  case atStart => exact ⟨0, by omega, rfl, B⟩
  case round =>
    clear B
    obtain ⟨j, hj, rfl, B⟩ := hrel
    by_cases hlt : j < n
    rotate_left
    · obtain rfl : j = n := by omega
      have d1 : decide ((j : Int) < j) = false := by simp
      go_wp2
      go_ret
      exact ⟨rfl, B.out⟩
    have hjl : j < wy.length := by rw [hn.out]; exact hlt
    have hlt2 : (j : Int) < n := by omega
    have k1 := K1.out _ B.out.drew
    have k2 := K2.out _ B.out.drew
    obtain ⟨g1, c1, ev⟩ := k1.some (by omega)
    injection ev with ev el ec
    clear el
    subst ev ec
    obtain ⟨g2, c2, ev⟩ := k2.some (by omega)
    injection ev with ev el ec
    clear el
    subst ev ec
    have l1 := hide (ld_hop k1 hn.out j hjl)
    have l2 := hide (ld_hop k2 hn.out j hjl)
    clear k1 k2
    generalize wy[j].1 = x at *
    generalize wy[j].2 = y at *
    go_wp2_with fail
    refine regionL 9 (fun w' => (Instr.loadAt 57 (.pointer (some ⟨g1, j * 6, none⟩))).run Tryd.prog w' = .ok (.agg #[.int .i64 x, .int .i64 y.id, .int .i64 y.rk, .int .u64 y.kn, .int .i64 y.ln, .int .u64 y.bt]) w' ∧ (Instr.loadAt 57 (.pointer (some ⟨g2, j * 6, none⟩))).run Tryd.prog w' = .ok (.agg #[.int .i64 x, .int .i64 y.id, .int .i64 y.rk, .int .u64 y.kn, .int .i64 y.ln, .int .u64 y.bt]) w') mixed ⟨l1.out, l2.out⟩ (fun hHeld => ?_)
    replace B := hide B.out.drew
    generalize wr.drew = W9 at *
    refine pickA (v := ?_) 0 (some 17) rfl rfl (by kernel_rfl) (by kernel_rfl) (by kernel_rfl) (by decide) (fun _ _ _ h => h) (by rfl) ?_ (by assumption) ?_
    rotate_left
    · intro w'
      go_simp
      try with_reducible rfl
    try simp only [Act.put, List.setIfInBounds_toArray, List.set_cons_zero, List.set_cons_succ]
    refine pickA (v := ?_) 1 (some 18) rfl rfl (by kernel_rfl) (by kernel_rfl) (by kernel_rfl) (by decide) (fun _ _ _ h => h) (by rfl) ?_ (by assumption) ?_
    rotate_left
    · intro w'
      go_simp
      try with_reducible rfl
    try simp only [Act.put, List.setIfInBounds_toArray, List.set_cons_zero, List.set_cons_succ]
    refine pickA (v := ?_) 2 (some 19) rfl rfl (by kernel_rfl) (by kernel_rfl) (by kernel_rfl) (by decide) (fun _ _ _ h => h) (by rfl) ?_ (by assumption) ?_
    rotate_left
    · intro w'
      go_simp
      try with_reducible rfl
    try simp only [Act.put, List.setIfInBounds_toArray, List.set_cons_zero, List.set_cons_succ]
    refine pickL (v := .agg #[.int .i64 x, .int .i64 y.id, .int .i64 y.rk, .int .u64 y.kn, .int .i64 y.ln, .int .u64 y.bt]) 3 (some 20) rfl rfl (by kernel_rfl) (by kernel_rfl) (by kernel_rfl) (by decide) (by kernel_rfl) (by kernel_rfl) (fun _ _ _ h => h) (by rfl) ?_ (by assumption) ?_
    · intro w' hSw
      obtain ⟨q0, q1⟩ := hSw
      exact exec_load rfl rfl q0
    try simp only [Act.put, List.setIfInBounds_toArray, List.set_cons_zero, List.set_cons_succ]
    refine pickA (v := ?_) 4 (some 21) rfl rfl (by kernel_rfl) (by kernel_rfl) (by kernel_rfl) (by decide) (fun _ _ _ h => h) (by rfl) ?_ (by assumption) ?_
    rotate_left
    · intro w'
      go_simp
      try with_reducible rfl
    try simp only [Act.put, List.setIfInBounds_toArray, List.set_cons_zero, List.set_cons_succ]
    refine pickA (v := ?_) 5 (some 22) rfl rfl (by kernel_rfl) (by kernel_rfl) (by kernel_rfl) (by decide) (fun _ _ _ h => h) (by rfl) ?_ (by assumption) ?_
    rotate_left
    · intro w'
      go_simp
      try with_reducible rfl
    try simp only [Act.put, List.setIfInBounds_toArray, List.set_cons_zero, List.set_cons_succ]
    refine pickA (v := ?_) 6 (some 23) rfl rfl (by kernel_rfl) (by kernel_rfl) (by kernel_rfl) (by decide) (fun _ _ _ h => h) (by rfl) ?_ (by assumption) ?_
    rotate_left
    · intro w'
      go_simp
      try with_reducible rfl
    try simp only [Act.put, List.setIfInBounds_toArray, List.set_cons_zero, List.set_cons_succ]
    refine pickL (v := .agg #[.int .i64 x, .int .i64 y.id, .int .i64 y.rk, .int .u64 y.kn, .int .i64 y.ln, .int .u64 y.bt]) 7 (some 24) rfl rfl (by kernel_rfl) (by kernel_rfl) (by kernel_rfl) (by decide) (by kernel_rfl) (by kernel_rfl) (fun _ _ _ h => h) (by rfl) ?_ (by assumption) ?_
    · intro w' hSw
      obtain ⟨q0, q1⟩ := hSw
      exact exec_load rfl rfl q1
    try simp only [Act.put, List.setIfInBounds_toArray, List.set_cons_zero, List.set_cons_succ]
    refine pickA (v := .bool false) 8 (some 25) rfl rfl (by kernel_rfl) (by kernel_rfl) (by kernel_rfl) (by decide) (fun _ _ _ h => h) (by rfl) ?_ (by assumption) ?_
    · intro w'
      exact exec_bin hguard rfl rfl rfl (nehop x y _)
    try simp only [Act.put, List.setIfInBounds_toArray, List.set_cons_zero, List.set_cons_succ]
    refine doneL (by kernel_rfl) ?_ _
    clear hHeld
    go_wp2
    exact ⟨⟨j + 1, by omega, by simp, B⟩, by simp [intOf]; omega⟩

end Go.Proofs.YtjkgacbckdipgaaDoor

/- What the document's Way refuses. -/
namespace Go.Proofs.YtjkgacbckdipgaaDoor
open Go.RowKit Go.Maps Go.ChangeMaps

/-- Who is found in a row, the last one by this ID. -/
def lastD (d : Int) (ro : List Rf) : Rf × Bool := ro.foldl (fun s x => if x.id = d then (x, true) else s) (zr, false)
theorem lastD_yes {d : Int} {ro : List Rf} {j : Nat} (hj : j < ro.length) (h : ro[j].id = d) : lastD d (ro.take (j + 1)) = (ro[j], true) := by
  unfold lastD
  rw [List.take_add_one, List.getElem?_eq_getElem hj, List.foldl_append]
  simp [h]
theorem lastD_no {d : Int} {ro : List Rf} {j : Nat} (hj : j < ro.length) (h : ¬ ro[j].id = d) : lastD d (ro.take (j + 1)) = lastD d (ro.take j) := by
  unfold lastD
  rw [List.take_add_one, List.getElem?_eq_getElem hj, List.foldl_append]
  simp [h]
theorem ld_k2 {w : World} {b : Nat} {x y : Int} (I : IsB w b #[.int .i64 x, .int .u64 y] 25) : (Instr.loadAt 25 (.pointer (some ⟨b, 0, none⟩))).run Tryd.prog w = .ok (.agg #[.int .i64 (x), .int .u64 (y)]) w := load_mid (cs := [.int .i64 x, .int .u64 y]) I 0 _ [.int .i64 x, .int .u64 y] _ rfl Tryd.underlying25 rfl (by kernel_rfl)
/-- The row of all, in the document's own order. -/
def allRow (h : Int) (l : List Rf) : List Rf := rowL h (sortL (l.filter fun x => bgS x.ln x.bt 0 0))
theorem allRow_len (h : Int) (l : List Rf) (hl : l.length ≤ 1000) : (allRow h l).length ≤ 3000 := by
  unfold allRow
  rw [rowL_len, sortL_len]
  have := List.length_filter_le (fun r : Rf => bgS r.ln r.bt 0 0) l
  omega

set_option maxHeartbeats 8000000 in
set_option maxRecDepth 100000 in
theorem wayd_bad (h d tr tn : Int) (v : Value) (l : List Rf) (hl : l.length ≤ 1000) (hg : ¬okG h l) (w : World) (R : RSl w v l) : Calls Tryd.prog 6 #[.int .i64 h, .int .i64 d, .agg #[.int .i64 tr, .int .u64 tn], v] w fun e' w' => e' = .returned (.tuple #[.slice none 0 0, .agg zr.cells, .agg zr.cells, .int .i64 110]) ∧ Below w.heap.size w w' := by
  have mixed : Tryd.prog.follows .mixedOrders = true := by kernel_rfl
  have b3 : Below w.heap.size w (((w.alloc (.cells #[.int .i64 tr, .int .u64 tn] 25)).alloc (.cells #[.int .i64 0, .int .i64 0, .int .u64 0, .int .i64 0, .int .u64 0] 32)).alloc (.cells #[.int .i64 0, .int .i64 0, .int .u64 0, .int .i64 0, .int .u64 0] 32)) := (((Below.refl w.heap.size w).alloc (Nat.le_refl _) _).alloc (by simp) _).alloc (by simp; omega) _
  have Q : Hid (IsB (((w.alloc (.cells #[.int .i64 tr, .int .u64 tn] 25)).alloc (.cells #[.int .i64 0, .int .i64 0, .int .u64 0, .int .i64 0, .int .u64 0] 32)).alloc (.cells #[.int .i64 0, .int .i64 0, .int .u64 0, .int .i64 0, .int .u64 0] 32)) w.heap.size #[.int .i64 tr, .int .u64 tn] 25) := ((IsB.new w #[.int .i64 tr, .int .u64 tn] 25).below (gal1 _ (.cells #[.int .i64 0, .int .i64 0, .int .u64 0, .int .i64 0, .int .u64 0] 32))).below (gal1 _ (.cells #[.int .i64 0, .int .i64 0, .int .u64 0, .int .i64 0, .int .u64 0] 32))
  have A : Hid (IsB (((w.alloc (.cells #[.int .i64 tr, .int .u64 tn] 25)).alloc (.cells #[.int .i64 0, .int .i64 0, .int .u64 0, .int .i64 0, .int .u64 0] 32)).alloc (.cells #[.int .i64 0, .int .i64 0, .int .u64 0, .int .i64 0, .int .u64 0] 32)) (w.heap.size + 1) zr.cells 32) := by
    have h7 := (IsB.new (w.alloc (.cells #[.int .i64 tr, .int .u64 tn] 25)) #[.int .i64 0, .int .i64 0, .int .u64 0, .int .i64 0, .int .u64 0] 32).below (gal1 _ (.cells #[.int .i64 0, .int .i64 0, .int .u64 0, .int .i64 0, .int .u64 0] 32))
    rw [World.size_alloc] at h7
    exact h7
  have C : Hid (IsB (((w.alloc (.cells #[.int .i64 tr, .int .u64 tn] 25)).alloc (.cells #[.int .i64 0, .int .i64 0, .int .u64 0, .int .i64 0, .int .u64 0] 32)).alloc (.cells #[.int .i64 0, .int .i64 0, .int .u64 0, .int .i64 0, .int .u64 0] 32)) (w.heap.size + 1 + 1) zr.cells 32) := by
    have h7 := IsB.new ((w.alloc (.cells #[.int .i64 tr, .int .u64 tn] 25)).alloc (.cells #[.int .i64 0, .int .i64 0, .int .u64 0, .int .i64 0, .int .u64 0] 32)) #[.int .i64 0, .int .i64 0, .int .u64 0, .int .i64 0, .int .u64 0] 32
    rw [World.size_alloc, World.size_alloc] at h7
    exact h7
  go_enter Tryd.func6, Tryd.ntmps6
  go_wp2_with fail
  generalize (((w.alloc (.cells #[.int .i64 tr, .int .u64 tn] 25)).alloc (.cells #[.int .i64 0, .int .i64 0, .int .u64 0, .int .i64 0, .int .u64 0] 32)).alloc (.cells #[.int .i64 0, .int .i64 0, .int .u64 0, .int .i64 0, .int .u64 0] 32)) = W1 at *
  obtain ⟨H, hH⟩ : ∃ H, w.heap.size = H := ⟨_, rfl⟩
  have HH : Hid (w.heap.size = H) := hH
  rw [hH] at Q A C b3 ⊢
  have B := hide b3
  have RA : Hid (∀ w', Below H w w' → RSl w' v l) := fun w' hb => R.below (hH ▸ hb)
  clear R b3 hH
  refine (check_doc h v l hl W1 (RA.out _ B.out)).mono ?_
  rintro e w2 ⟨rfl, hb⟩
  replace Q := hide (Q.out.below hb)
  replace A := hide (A.out.below hb)
  replace C := hide (C.out.below hb)
  replace B := hide (B.out.trans (hb.mono (Nat.le_trans (Nat.le_of_eq HH.out.symm) B.out.size)))
  clear hb
  rw [chkE_no hg]
  obtain ⟨w6, hs6, A6, k6⟩ := st_ref A.out zr
  have HS6 := hide hs6
  have C6 := C.out.kp k6 (by simp)
  obtain ⟨w7, hs7, C7, k7⟩ := st_ref C6 zr
  have HS7 := hide hs7
  have A9 := hide (A6.kp k7 (by simp))
  have C9 := hide C7
  have B9 : Hid (Below H w w7) := (B.out.trans (k6.to_below (Nat.le_trans (Nat.le_of_eq HH.out.symm) B.out.size) (by simp))).trans (k7.to_below (Nat.le_trans (Nat.le_trans (Nat.le_of_eq HH.out.symm) B.out.size) k6.size) (by simp; omega))
  clear hs6 hs7 A6 C6 C7 k6 k7
  go_wp2_with (first | (focus ((with_reducible refine wpList_store_w ?_ 32 (.tmp 9) (.tmp 28) ?_ ?_ ?_ HS6.out ?_); rotate_left; rfl; rfl; rfl; rotate_left; rfl)) | (focus ((with_reducible refine wpList_store_w ?_ 32 (.tmp 10) (.tmp 29) ?_ ?_ ?_ HS7.out ?_); rotate_left; rfl; rfl; rfl; rotate_left; rfl)))
  refine ret_way (s := 8) (p := 9) (q := 10) (u := 11) (a := H + 1) (b := H + 1 + 1) Tryd.results6 rfl rfl rfl rfl rfl rfl A9.out C9.out ?_
  exact ⟨rfl, HH.out.symm ▸ B9.out⟩

set_option maxHeartbeats 8000000 in
set_option maxRecDepth 100000 in
theorem wayd_none (h d tr tn : Int) (v : Value) (l : List Rf) (hl : l.length ≤ 1000) (hbt : ∀ r ∈ l, 0 ≤ r.bt) (hg : okG h l) (hF : (lastD d (allRow h l)).2 = false) (w : World) (R : RSl w v l) : Calls Tryd.prog 6 #[.int .i64 h, .int .i64 d, .agg #[.int .i64 tr, .int .u64 tn], v] w fun e' w' => e' = .returned (.tuple #[.slice none 0 0, .agg zr.cells, .agg zr.cells, .int .i64 111]) ∧ Below w.heap.size w w' := by
  have mixed : Tryd.prog.follows .mixedOrders = true := by kernel_rfl
  have b3 : Below w.heap.size w (((w.alloc (.cells #[.int .i64 tr, .int .u64 tn] 25)).alloc (.cells #[.int .i64 0, .int .i64 0, .int .u64 0, .int .i64 0, .int .u64 0] 32)).alloc (.cells #[.int .i64 0, .int .i64 0, .int .u64 0, .int .i64 0, .int .u64 0] 32)) := (((Below.refl w.heap.size w).alloc (Nat.le_refl _) _).alloc (by simp) _).alloc (by simp; omega) _
  have Q : Hid (IsB (((w.alloc (.cells #[.int .i64 tr, .int .u64 tn] 25)).alloc (.cells #[.int .i64 0, .int .i64 0, .int .u64 0, .int .i64 0, .int .u64 0] 32)).alloc (.cells #[.int .i64 0, .int .i64 0, .int .u64 0, .int .i64 0, .int .u64 0] 32)) w.heap.size #[.int .i64 tr, .int .u64 tn] 25) := ((IsB.new w #[.int .i64 tr, .int .u64 tn] 25).below (gal1 _ (.cells #[.int .i64 0, .int .i64 0, .int .u64 0, .int .i64 0, .int .u64 0] 32))).below (gal1 _ (.cells #[.int .i64 0, .int .i64 0, .int .u64 0, .int .i64 0, .int .u64 0] 32))
  have A : Hid (IsB (((w.alloc (.cells #[.int .i64 tr, .int .u64 tn] 25)).alloc (.cells #[.int .i64 0, .int .i64 0, .int .u64 0, .int .i64 0, .int .u64 0] 32)).alloc (.cells #[.int .i64 0, .int .i64 0, .int .u64 0, .int .i64 0, .int .u64 0] 32)) (w.heap.size + 1) zr.cells 32) := by
    have h7 := (IsB.new (w.alloc (.cells #[.int .i64 tr, .int .u64 tn] 25)) #[.int .i64 0, .int .i64 0, .int .u64 0, .int .i64 0, .int .u64 0] 32).below (gal1 _ (.cells #[.int .i64 0, .int .i64 0, .int .u64 0, .int .i64 0, .int .u64 0] 32))
    rw [World.size_alloc] at h7
    exact h7
  have C : Hid (IsB (((w.alloc (.cells #[.int .i64 tr, .int .u64 tn] 25)).alloc (.cells #[.int .i64 0, .int .i64 0, .int .u64 0, .int .i64 0, .int .u64 0] 32)).alloc (.cells #[.int .i64 0, .int .i64 0, .int .u64 0, .int .i64 0, .int .u64 0] 32)) (w.heap.size + 1 + 1) zr.cells 32) := by
    have h7 := IsB.new ((w.alloc (.cells #[.int .i64 tr, .int .u64 tn] 25)).alloc (.cells #[.int .i64 0, .int .i64 0, .int .u64 0, .int .i64 0, .int .u64 0] 32)) #[.int .i64 0, .int .i64 0, .int .u64 0, .int .i64 0, .int .u64 0] 32
    rw [World.size_alloc, World.size_alloc] at h7
    exact h7
  go_enter Tryd.func6, Tryd.ntmps6
  go_wp2_with fail
  generalize (((w.alloc (.cells #[.int .i64 tr, .int .u64 tn] 25)).alloc (.cells #[.int .i64 0, .int .i64 0, .int .u64 0, .int .i64 0, .int .u64 0] 32)).alloc (.cells #[.int .i64 0, .int .i64 0, .int .u64 0, .int .i64 0, .int .u64 0] 32)) = W1 at *
  obtain ⟨H, hH⟩ : ∃ H, w.heap.size = H := ⟨_, rfl⟩
  have HH : Hid (w.heap.size = H) := hH
  rw [hH] at Q A C b3 ⊢
  have B := hide b3
  have RA : Hid (∀ w', Below H w w' → RSl w' v l) := fun w' hb => R.below (hH ▸ hb)
  clear R b3 hH
  refine (check_doc h v l hl W1 (RA.out _ B.out)).mono ?_
  rintro e w2 ⟨rfl, hb⟩
  replace Q := hide (Q.out.below hb)
  replace A := hide (A.out.below hb)
  replace C := hide (C.out.below hb)
  replace B := hide (B.out.trans (hb.mono (Nat.le_trans (Nat.le_of_eq HH.out.symm) B.out.size)))
  clear hb
  rw [chkE_yes hg]
  have HG := hide hg
  clear hg
  go_wp2_with fail
  refine (row_doc h 0 0 HG.out.1.1 HG.out.1.2 (Int.le_refl 0) v l hl hbt w2 (RA.out _ B.out)).mono ?_
  rintro e w4 ⟨vr, rfl, hrow, hb⟩
  replace Q := hide (Q.out.below hb)
  replace A := hide (A.out.below hb)
  replace C := hide (C.out.below hb)
  replace B := hide (B.out.trans (hb.mono (Nat.le_trans (Nat.le_of_eq HH.out.symm) B.out.size)))
  clear hb
  have hrl := hide (allRow_len h l hl)
  have hrow2 : Gr5 w2.heap.size w4 vr (allRow h l) := hrow
  have hsl := hrow2.rsl
  obtain ⟨va, vc, rfl, -, -⟩ := hsl.shape
  clear hrow hrow2
  obtain ⟨ro, hro⟩ : ∃ ro, allRow h l = ro := ⟨_, rfl⟩
  have HRO := hide hro
  rw [hro] at hsl hrl hF
  rw [hro]
  clear hro
  obtain ⟨n, hn⟩ : ∃ n, ro.length = n := ⟨_, rfl⟩
  have hn3 : n ≤ 3000 := hn ▸ hrl.out
  rw [hn]
  have HN := hide hn
  have D : Hid (IsB (w4.alloc (.cells #[.int .i64 0, .int .i64 0, .int .u64 0, .int .i64 0, .int .u64 0] 32)) w4.heap.size zr.cells 32) := IsB.new w4 #[.int .i64 0, .int .i64 0, .int .u64 0, .int .i64 0, .int .u64 0] 32
  have hsz : H + 1 + 1 < w4.heap.size := C.out.lt
  obtain ⟨v0, hs0, D0, k0⟩ := st_ref D.out zr
  have HS0 := hide hs0
  have BN : Hid (Below w4.heap.size w4 v0) := (gal1 w4 (.cells #[.int .i64 0, .int .i64 0, .int .u64 0, .int .i64 0, .int .u64 0] 32)).trans (k0.to_below (gal1 w4 (.cells #[.int .i64 0, .int .i64 0, .int .u64 0, .int .i64 0, .int .u64 0] 32)).size (by simp))
  replace D := hide D0
  clear hs0 D0 k0
  have hKN : H = H := rfl
  go_wp2_with (first | (focus ((with_reducible refine wpList_store_w ?_ 32 (.tmp 13) (.tmp 34) ?_ ?_ ?_ HS0.out ?_); rotate_left; rfl; rfl; rfl; rotate_left; rfl)))
  clear HS0
  have RO : Hid (∀ w', Below w4.heap.size w4 w' → RSl w' (.slice va n vc) ro) := fun w' hb => (hn ▸ hsl).below hb
  have RL : Hid (∀ w', Below w4.heap.size w4 w' → RSl w' v l) := fun w' hb => (RA.out _ B.out).below hb
  have hNs : Hid (∀ w', Below w4.heap.size w4 w' → w4.heap.size ≤ w'.heap.size) := fun w' hb => hb.size
  have hHN : H ≤ w4.heap.size := (Nat.le_trans (Nat.le_of_eq HH.out.symm) B.out.size)
  clear RA hsl hn hKN
  generalize w4.heap.size = N at *
  have KE : Hid (∀ (b : Nat) (cs : Array Value) (t : TypeId), b < N → IsB w4 b cs t → ∀ w', Below N w4 w' → IsB w' b cs t) := fun b cs t hb I w' hB => (hB.block b hb).trans I
  go_loopw [14, 15] (fun f i wr => ∃ j : Nat, j ≤ n ∧ i = .int .i64 (j : Int) ∧ f = .bool (lastD d (ro.take j)).2 ∧ Hid (IsB wr N (lastD d (ro.take j)).1.cells 32) ∧ Hid (Below N w4 wr)) (fun _ i _ => n - (intOf i).toNat)
  case atStart => exact ⟨0, by omega, rfl, rfl, D, BN⟩
  case round =>
    clear D BN
    obtain ⟨j, hj, rfl, rfl, D, BN⟩ := hrel
    by_cases hlt : j < n
    rotate_left
    · obtain rfl : j = n := by omega
      have d1 : decide ((j : Int) < j) = false := by simp
      have eT : ro.take j = ro := List.take_of_length_le (Nat.le_of_eq HN.out)
      rw [eT] at D ⊢
      clear eT
      replace Q := hide (KE.out _ _ _ (by omega) Q.out _ BN.out)
      replace A := hide (KE.out _ _ _ (by omega) A.out _ BN.out)
      replace C := hide (KE.out _ _ _ (by omega) C.out _ BN.out)
      replace B := hide (B.out.trans (BN.out.mono hHN))
      rw [hF]
      obtain ⟨w6, hs6, A6, k6⟩ := st_ref A.out zr
      have HS6 := hide hs6
      have C6 := C.out.kp k6 (by simp)
      obtain ⟨w7, hs7, C7, k7⟩ := st_ref C6 zr
      have HS7 := hide hs7
      have A9 := hide (A6.kp k7 (by simp))
      have C9 := hide C7
      have B9 : Hid (Below H w w7) := (B.out.trans (k6.to_below (Nat.le_trans (Nat.le_of_eq HH.out.symm) B.out.size) (by simp))).trans (k7.to_below (Nat.le_trans (Nat.le_trans (Nat.le_of_eq HH.out.symm) B.out.size) k6.size) (by simp; omega))
      clear hs6 hs7 A6 C6 C7 k6 k7
      go_wp2_with (first | (focus ((with_reducible refine wpList_store_w ?_ 32 (.tmp 9) (.tmp 54) ?_ ?_ ?_ HS6.out ?_); rotate_left; rfl; rfl; rfl; rotate_left; rfl)) | (focus ((with_reducible refine wpList_store_w ?_ 32 (.tmp 10) (.tmp 55) ?_ ?_ ?_ HS7.out ?_); rotate_left; rfl; rfl; rfl; rotate_left; rfl)))
      refine ret_way (s := 8) (p := 9) (q := 10) (u := 11) (a := H + 1) (b := H + 1 + 1) Tryd.results6 rfl rfl rfl rfl rfl rfl A9.out C9.out ?_
      exact ⟨rfl, HH.out.symm ▸ B9.out⟩
    have hjl : j < ro.length := by rw [HN.out]; exact hlt
    have hlt2 : (j : Int) < n := by omega
    obtain ⟨g, o, cap, ev, hcap, -⟩ := (RO.out _ BN.out).form (by omega)
    injection ev with ev el ec
    clear el
    subst ev ec
    have y0 : wr.cell? ⟨g, o + j * 5, none⟩ = some (.int .i64 ro[j].id) := (RO.out _ BN.out).cid j hjl
    by_cases hid : ro[j].id = d
    · have dn : (ro[j].id == d) = true := by simp [hid]
      have E := hide (lastD_yes hjl hid)
      have LL : Hid ((Instr.loadAt 32 (.pointer (some ⟨g, o + j * 5, none⟩))).run Tryd.prog wr = .ok (.agg #[.int .i64 ro[j].id, .int .i64 ro[j].rk, .int .u64 ro[j].kn, .int .i64 ro[j].ln, .int .u64 ro[j].bt]) wr) := (RO.out _ BN.out).ldr j hjl
      obtain ⟨w5, hs5, D5, k5⟩ := st_ref D.out ro[j]
      have HS5 : Hid ((Instr.storeAt 32 (.pointer (some ⟨N, 0, none⟩)) (.agg #[.int .i64 ro[j].id, .int .i64 ro[j].rk, .int .u64 ro[j].kn, .int .i64 ro[j].ln, .int .u64 ro[j].bt])).run Tryd.prog wr = .ok () w5) := hs5
      replace BN := hide (BN.out.trans (k5.to_below (hNs.out _ BN.out) (by simp)))
      clear hs5 k5 D hid
      have D := hide D5
      clear D5
      generalize ro[j] = x at *
      go_wp2_with (first | (focus ((with_reducible refine wpList_load_w ?_ 32 (.tmp 50) ?_ ?_ LL.out ?_); rotate_left; rfl; rfl; rotate_left; rfl)) | (focus ((with_reducible refine wpList_store_w ?_ 32 (.tmp 13) (.tmp 51) ?_ ?_ ?_ HS5.out ?_); rotate_left; rfl; rfl; rfl; rotate_left; rfl)))
      exact ⟨⟨j + 1, by omega, by simp, by rw [E.out], by rw [E.out]; exact D, BN⟩, by simp [intOf]; omega⟩
    · have dn : (ro[j].id == d) = false := by simp [hid]
      have E := hide (lastD_no hjl hid)
      clear hid
      generalize ro[j].id = x at *
      go_wp2
      exact ⟨⟨j + 1, by omega, by simp, by rw [E.out], by rw [E.out]; exact D, BN⟩, by simp [intOf]; omega⟩

set_option maxHeartbeats 8000000 in
set_option maxRecDepth 100000 in
theorem wayd_arg (h d tr tn : Int) (v : Value) (l : List Rf) (hl : l.length ≤ 1000) (hbt : ∀ r ∈ l, 0 ≤ r.bt) (hg : okG h l) (hF : (lastD d (allRow h l)).2 = true) (hck : ckE tr tn ≠ 0) (w : World) (R : RSl w v l) : Calls Tryd.prog 6 #[.int .i64 h, .int .i64 d, .agg #[.int .i64 tr, .int .u64 tn], v] w fun e' w' => e' = .returned (.tuple #[.slice none 0 0, .agg zr.cells, .agg zr.cells, .int .i64 1]) ∧ Below w.heap.size w w' := by
  have mixed : Tryd.prog.follows .mixedOrders = true := by kernel_rfl
  have b3 : Below w.heap.size w (((w.alloc (.cells #[.int .i64 tr, .int .u64 tn] 25)).alloc (.cells #[.int .i64 0, .int .i64 0, .int .u64 0, .int .i64 0, .int .u64 0] 32)).alloc (.cells #[.int .i64 0, .int .i64 0, .int .u64 0, .int .i64 0, .int .u64 0] 32)) := (((Below.refl w.heap.size w).alloc (Nat.le_refl _) _).alloc (by simp) _).alloc (by simp; omega) _
  have Q : Hid (IsB (((w.alloc (.cells #[.int .i64 tr, .int .u64 tn] 25)).alloc (.cells #[.int .i64 0, .int .i64 0, .int .u64 0, .int .i64 0, .int .u64 0] 32)).alloc (.cells #[.int .i64 0, .int .i64 0, .int .u64 0, .int .i64 0, .int .u64 0] 32)) w.heap.size #[.int .i64 tr, .int .u64 tn] 25) := ((IsB.new w #[.int .i64 tr, .int .u64 tn] 25).below (gal1 _ (.cells #[.int .i64 0, .int .i64 0, .int .u64 0, .int .i64 0, .int .u64 0] 32))).below (gal1 _ (.cells #[.int .i64 0, .int .i64 0, .int .u64 0, .int .i64 0, .int .u64 0] 32))
  have A : Hid (IsB (((w.alloc (.cells #[.int .i64 tr, .int .u64 tn] 25)).alloc (.cells #[.int .i64 0, .int .i64 0, .int .u64 0, .int .i64 0, .int .u64 0] 32)).alloc (.cells #[.int .i64 0, .int .i64 0, .int .u64 0, .int .i64 0, .int .u64 0] 32)) (w.heap.size + 1) zr.cells 32) := by
    have h7 := (IsB.new (w.alloc (.cells #[.int .i64 tr, .int .u64 tn] 25)) #[.int .i64 0, .int .i64 0, .int .u64 0, .int .i64 0, .int .u64 0] 32).below (gal1 _ (.cells #[.int .i64 0, .int .i64 0, .int .u64 0, .int .i64 0, .int .u64 0] 32))
    rw [World.size_alloc] at h7
    exact h7
  have C : Hid (IsB (((w.alloc (.cells #[.int .i64 tr, .int .u64 tn] 25)).alloc (.cells #[.int .i64 0, .int .i64 0, .int .u64 0, .int .i64 0, .int .u64 0] 32)).alloc (.cells #[.int .i64 0, .int .i64 0, .int .u64 0, .int .i64 0, .int .u64 0] 32)) (w.heap.size + 1 + 1) zr.cells 32) := by
    have h7 := IsB.new ((w.alloc (.cells #[.int .i64 tr, .int .u64 tn] 25)).alloc (.cells #[.int .i64 0, .int .i64 0, .int .u64 0, .int .i64 0, .int .u64 0] 32)) #[.int .i64 0, .int .i64 0, .int .u64 0, .int .i64 0, .int .u64 0] 32
    rw [World.size_alloc, World.size_alloc] at h7
    exact h7
  go_enter Tryd.func6, Tryd.ntmps6
  go_wp2_with fail
  generalize (((w.alloc (.cells #[.int .i64 tr, .int .u64 tn] 25)).alloc (.cells #[.int .i64 0, .int .i64 0, .int .u64 0, .int .i64 0, .int .u64 0] 32)).alloc (.cells #[.int .i64 0, .int .i64 0, .int .u64 0, .int .i64 0, .int .u64 0] 32)) = W1 at *
  obtain ⟨H, hH⟩ : ∃ H, w.heap.size = H := ⟨_, rfl⟩
  have HH : Hid (w.heap.size = H) := hH
  rw [hH] at Q A C b3 ⊢
  have B := hide b3
  have RA : Hid (∀ w', Below H w w' → RSl w' v l) := fun w' hb => R.below (hH ▸ hb)
  clear R b3 hH
  refine (check_doc h v l hl W1 (RA.out _ B.out)).mono ?_
  rintro e w2 ⟨rfl, hb⟩
  replace Q := hide (Q.out.below hb)
  replace A := hide (A.out.below hb)
  replace C := hide (C.out.below hb)
  replace B := hide (B.out.trans (hb.mono (Nat.le_trans (Nat.le_of_eq HH.out.symm) B.out.size)))
  clear hb
  rw [chkE_yes hg]
  have HG := hide hg
  clear hg
  go_wp2_with fail
  refine (row_doc h 0 0 HG.out.1.1 HG.out.1.2 (Int.le_refl 0) v l hl hbt w2 (RA.out _ B.out)).mono ?_
  rintro e w4 ⟨vr, rfl, hrow, hb⟩
  replace Q := hide (Q.out.below hb)
  replace A := hide (A.out.below hb)
  replace C := hide (C.out.below hb)
  replace B := hide (B.out.trans (hb.mono (Nat.le_trans (Nat.le_of_eq HH.out.symm) B.out.size)))
  clear hb
  have hrl := hide (allRow_len h l hl)
  have hrow2 : Gr5 w2.heap.size w4 vr (allRow h l) := hrow
  have hsl := hrow2.rsl
  obtain ⟨va, vc, rfl, -, -⟩ := hsl.shape
  clear hrow hrow2
  obtain ⟨ro, hro⟩ : ∃ ro, allRow h l = ro := ⟨_, rfl⟩
  have HRO := hide hro
  rw [hro] at hsl hrl hF
  rw [hro]
  clear hro
  obtain ⟨n, hn⟩ : ∃ n, ro.length = n := ⟨_, rfl⟩
  have hn3 : n ≤ 3000 := hn ▸ hrl.out
  rw [hn]
  have HN := hide hn
  have D : Hid (IsB (w4.alloc (.cells #[.int .i64 0, .int .i64 0, .int .u64 0, .int .i64 0, .int .u64 0] 32)) w4.heap.size zr.cells 32) := IsB.new w4 #[.int .i64 0, .int .i64 0, .int .u64 0, .int .i64 0, .int .u64 0] 32
  have hsz : H + 1 + 1 < w4.heap.size := C.out.lt
  obtain ⟨v0, hs0, D0, k0⟩ := st_ref D.out zr
  have HS0 := hide hs0
  have BN : Hid (Below w4.heap.size w4 v0) := (gal1 w4 (.cells #[.int .i64 0, .int .i64 0, .int .u64 0, .int .i64 0, .int .u64 0] 32)).trans (k0.to_below (gal1 w4 (.cells #[.int .i64 0, .int .i64 0, .int .u64 0, .int .i64 0, .int .u64 0] 32)).size (by simp))
  replace D := hide D0
  clear hs0 D0 k0
  have hKN : H = H := rfl
  go_wp2_with (first | (focus ((with_reducible refine wpList_store_w ?_ 32 (.tmp 13) (.tmp 34) ?_ ?_ ?_ HS0.out ?_); rotate_left; rfl; rfl; rfl; rotate_left; rfl)))
  clear HS0
  have RO : Hid (∀ w', Below w4.heap.size w4 w' → RSl w' (.slice va n vc) ro) := fun w' hb => (hn ▸ hsl).below hb
  have RL : Hid (∀ w', Below w4.heap.size w4 w' → RSl w' v l) := fun w' hb => (RA.out _ B.out).below hb
  have hNs : Hid (∀ w', Below w4.heap.size w4 w' → w4.heap.size ≤ w'.heap.size) := fun w' hb => hb.size
  have hHN : H ≤ w4.heap.size := (Nat.le_trans (Nat.le_of_eq HH.out.symm) B.out.size)
  clear RA hsl hn hKN
  generalize w4.heap.size = N at *
  have KE : Hid (∀ (b : Nat) (cs : Array Value) (t : TypeId), b < N → IsB w4 b cs t → ∀ w', Below N w4 w' → IsB w' b cs t) := fun b cs t hb I w' hB => (hB.block b hb).trans I
  go_loopw [14, 15] (fun f i wr => ∃ j : Nat, j ≤ n ∧ i = .int .i64 (j : Int) ∧ f = .bool (lastD d (ro.take j)).2 ∧ Hid (IsB wr N (lastD d (ro.take j)).1.cells 32) ∧ Hid (Below N w4 wr)) (fun _ i _ => n - (intOf i).toNat)
  case atStart => exact ⟨0, by omega, rfl, rfl, D, BN⟩
  case round =>
    clear D BN
    obtain ⟨j, hj, rfl, rfl, D, BN⟩ := hrel
    by_cases hlt : j < n
    rotate_left
    · obtain rfl : j = n := by omega
      have d1 : decide ((j : Int) < j) = false := by simp
      have eT : ro.take j = ro := List.take_of_length_le (Nat.le_of_eq HN.out)
      rw [eT] at D ⊢
      clear eT
      replace Q := hide (KE.out _ _ _ (by omega) Q.out _ BN.out)
      replace A := hide (KE.out _ _ _ (by omega) A.out _ BN.out)
      replace C := hide (KE.out _ _ _ (by omega) C.out _ BN.out)
      replace B := hide (B.out.trans (BN.out.mono hHN))
      rw [hF]
      have LK := hide (ld_k2 Q.out)
      go_wp2_with (first | (focus ((with_reducible refine wpList_load_w ?_ 25 (.tmp 6) ?_ ?_ LK.out ?_); rotate_left; rfl; rfl; rotate_left; rfl)))
      refine (isKey_any tr tn wr).mono ?_
      rintro e w8 ⟨rfl, hb⟩
      replace Q := hide (Q.out.below hb)
      replace A := hide (A.out.below hb)
      replace C := hide (C.out.below hb)
      replace B := hide (B.out.trans (hb.mono (Nat.le_trans (Nat.le_of_eq HH.out.symm) B.out.size)))
      clear hb
      have d2 : decide (ckE tr tn = 0) = false := by simpa using hck
      rw [d2]
      obtain ⟨w6, hs6, A6, k6⟩ := st_ref A.out zr
      have HS6 := hide hs6
      have C6 := C.out.kp k6 (by simp)
      obtain ⟨w7, hs7, C7, k7⟩ := st_ref C6 zr
      have HS7 := hide hs7
      have A9 := hide (A6.kp k7 (by simp))
      have C9 := hide C7
      have B9 : Hid (Below H w w7) := (B.out.trans (k6.to_below (Nat.le_trans (Nat.le_of_eq HH.out.symm) B.out.size) (by simp))).trans (k7.to_below (Nat.le_trans (Nat.le_trans (Nat.le_of_eq HH.out.symm) B.out.size) k6.size) (by simp; omega))
      clear hs6 hs7 A6 C6 C7 k6 k7
      go_wp2_with (first | (focus ((with_reducible refine wpList_store_w ?_ 32 (.tmp 9) (.tmp 59) ?_ ?_ ?_ HS6.out ?_); rotate_left; rfl; rfl; rfl; rotate_left; rfl)) | (focus ((with_reducible refine wpList_store_w ?_ 32 (.tmp 10) (.tmp 60) ?_ ?_ ?_ HS7.out ?_); rotate_left; rfl; rfl; rfl; rotate_left; rfl)))
      refine ret_way (s := 8) (p := 9) (q := 10) (u := 11) (a := H + 1) (b := H + 1 + 1) Tryd.results6 rfl rfl rfl rfl rfl rfl A9.out C9.out ?_
      exact ⟨rfl, HH.out.symm ▸ B9.out⟩
    have hjl : j < ro.length := by rw [HN.out]; exact hlt
    have hlt2 : (j : Int) < n := by omega
    obtain ⟨g, o, cap, ev, hcap, -⟩ := (RO.out _ BN.out).form (by omega)
    injection ev with ev el ec
    clear el
    subst ev ec
    have y0 : wr.cell? ⟨g, o + j * 5, none⟩ = some (.int .i64 ro[j].id) := (RO.out _ BN.out).cid j hjl
    by_cases hid : ro[j].id = d
    · have dn : (ro[j].id == d) = true := by simp [hid]
      have E := hide (lastD_yes hjl hid)
      have LL : Hid ((Instr.loadAt 32 (.pointer (some ⟨g, o + j * 5, none⟩))).run Tryd.prog wr = .ok (.agg #[.int .i64 ro[j].id, .int .i64 ro[j].rk, .int .u64 ro[j].kn, .int .i64 ro[j].ln, .int .u64 ro[j].bt]) wr) := (RO.out _ BN.out).ldr j hjl
      obtain ⟨w5, hs5, D5, k5⟩ := st_ref D.out ro[j]
      have HS5 : Hid ((Instr.storeAt 32 (.pointer (some ⟨N, 0, none⟩)) (.agg #[.int .i64 ro[j].id, .int .i64 ro[j].rk, .int .u64 ro[j].kn, .int .i64 ro[j].ln, .int .u64 ro[j].bt])).run Tryd.prog wr = .ok () w5) := hs5
      replace BN := hide (BN.out.trans (k5.to_below (hNs.out _ BN.out) (by simp)))
      clear hs5 k5 D hid
      have D := hide D5
      clear D5
      generalize ro[j] = x at *
      go_wp2_with (first | (focus ((with_reducible refine wpList_load_w ?_ 32 (.tmp 50) ?_ ?_ LL.out ?_); rotate_left; rfl; rfl; rotate_left; rfl)) | (focus ((with_reducible refine wpList_store_w ?_ 32 (.tmp 13) (.tmp 51) ?_ ?_ ?_ HS5.out ?_); rotate_left; rfl; rfl; rfl; rotate_left; rfl)))
      exact ⟨⟨j + 1, by omega, by simp, by rw [E.out], by rw [E.out]; exact D, BN⟩, by simp [intOf]; omega⟩
    · have dn : (ro[j].id == d) = false := by simp [hid]
      have E := hide (lastD_no hjl hid)
      clear hid
      generalize ro[j].id = x at *
      go_wp2
      exact ⟨⟨j + 1, by omega, by simp, by rw [E.out], by rw [E.out]; exact D, BN⟩, by simp [intOf]; omega⟩

end Go.Proofs.YtjkgacbckdipgaaDoor

/- The document's way: what it comes to, told ahead. -/
namespace Go.Proofs.YtjkgacbckdipgaaDoor
open Go.RowKit Go.Maps Go.ChangeMaps

theorem lastD_fold (d : Int) : ∀ (l : List Rf) (s : Rf × Bool), (∀ x ∈ l, x.id ≠ d) → l.foldl (fun s x => if x.id = d then (x, true) else s) s = s
  | [], s, _ => rfl
  | x :: l, s, h => by
    rw [List.foldl_cons, if_neg (h x List.mem_cons_self)]
    exact lastD_fold d l s fun y hy => h y (List.mem_cons_of_mem _ hy)
theorem lastD_non {d : Int} {ro : List Rf} (h : ∀ x ∈ ro, x.id ≠ d) : lastD d ro = (zr, false) := lastD_fold d ro _ h
theorem lastD_at {d : Int} {ro : List Rf} {i : Nat} (hn : (ro.map (·.id)).Nodup) (hi : i < ro.length) (hd : ro[i].id = d) : lastD d ro = (ro[i], true) := by
  have e : lastD d (ro.take (i + 1) ++ ro.drop (i + 1)) = (ro[i], true) := by
    have h1 := lastD_yes hi hd
    unfold lastD at h1 ⊢
    rw [List.foldl_append, h1]
    apply lastD_fold
    intro x hx he
    obtain ⟨j, hj, rfl⟩ := List.getElem_of_mem hx
    rw [List.getElem_drop] at he
    have hj2 : i + 1 + j < ro.length := by
      rw [List.length_drop] at hj
      omega
    have h3 : (ro.map (·.id))[i]'(by simpa using hi) = (ro.map (·.id))[i + 1 + j]'(by simpa using hj2) := by
      rw [List.getElem_map, List.getElem_map, hd, he]
    have := nodup_inj hn _ _ h3
    omega
  rwa [List.take_append_drop] at e
theorem nxRow_flt {h k p : Int} {l m : List Rf} (hg : okG h l) (hp : m.Perm l) (hs : m.Pairwise keyLt) (hv : (rt k p && decide (k ≤ h)) = true) : nxRow h l k p = rowL h (flt k (k, p) m) := by
  have hf : l.filter (fun r => bgS r.ln r.bt k p) = l.filter (fun r => decide (prV k r = (k, p))) := List.filter_congr fun r hr => bgS_prV (hg.2.1.1 r hr) hv
  have hn : ((l.filter fun r => decide (prV k r = (k, p))).map fun x => (x.rk, x.kn)).Nodup := hg.2.2.sublist (List.filter_sublist.map _)
  obtain ⟨s1, s2⟩ := sort_ok (l.filter fun r => decide (prV k r = (k, p))) [] List.Pairwise.nil hn
  have he : sortL (l.filter fun r => bgS r.ln r.bt k p) = flt k (k, p) m := by
    rw [hf]
    exact sorted_one s2 (hp.filter _) s1 (hs.sublist List.filter_sublist)
  unfold nxRow
  rw [he]
/-- Those beside one at a level. -/
theorem nxD_at {h k : Int} {l m : List Rf} (hg : okG h l) (hp : m.Perm l) (hs : m.Pairwise keyLt) {r : Rf} (hr : okR h r) (h0 : 0 ≤ k) (h1 : k ≤ h) {i : Nat} (hi : plI r.id (rowL h (flt k (prV k r) m)) = (i : Int)) : nxD h l k r = (besL (rowL h (flt k (prV k r) m)) i, besR (rowL h (flt k (prV k r) m)) i) := by
  have hv : (rt k ((pre r.ln.toNat r.bt.toNat k.toNat : Nat) : Int) && decide (k ≤ h)) = true := by
    rw [pre_rt hr.1 hr.2.1 h0 (by rw [hr.2.2]; exact h1), decide_eq_true h1]
    rfl
  have e := nxRow_flt hg hp hs hv
  unfold nxD
  rw [e]
  unfold besD
  change plI r.id (rowL h (flt k (prV k r) m)) = (i : Int) at hi
  have e2 : (k, ((pre r.ln.toNat r.bt.toNat k.toNat : Nat) : Int)) = prV k r := rfl
  rw [e2, hi, if_neg (by omega), Int.toNat_natCast]
/-- The row of all is the list of no bits. -/
theorem allRow_flt {h : Int} {l m : List Rf} (hg : okG h l) (hp : m.Perm l) (hs : m.Pairwise keyLt) (hbt : ∀ x ∈ l, 0 ≤ x.bt) (hl : l.length ≤ 1000) : allRow h l = rowL h m := by
  have M := Mem.of hg hbt hl hp
  have hv : (rt 0 0 && decide (0 ≤ h)) = true := by
    rw [decide_eq_true M.h0]
    rfl
  have e := nxRow_flt hg hp hs hv
  have e2 : prV 0 (hdR h) = (0, 0) := by
    unfold prV pre hdR
    simp
  have e3 : flt 0 (prV 0 (hdR h)) m = m := flt_zero m (fun q hq => ⟨(M.mem_ok hq).1, (M.mem_ok hq).2.1⟩) (hdR h) ⟨M.end_ok.1.1, M.end_ok.1.2.1⟩
  rw [e2] at e3
  rw [e3] at e
  exact e
/-- The steps of the document's way, from a level and a place down to its end. -/
inductive Dw (h : Int) (nx : Int → Rf → Rf × Rf) (tg : Rf) (lf : Bool) : Int → Rf → List Hp → Rf → Prop
  | fin {lv : Int} {r : Rf} : lv < 0 → Dw h nx tg lf lv r [] r
  | hop {lv : Int} {r e : Rf} {W : List Hp} (n : Rf) : 0 ≤ lv → n = (if lf then (nx lv r).1 else (nx lv r).2) → okR h n → (lf != decide (keyLt n tg)) = true → Dw h nx tg lf lv n W e → Dw h nx tg lf lv r ((lv, n) :: W) e
  | last {r : Rf} (n : Rf) : lf = true → n = (nx 0 r).1 → okR h n → keyLt n tg → Dw h nx tg lf 0 r [(0, n)] n
  | down {lv : Int} {r e : Rf} {W : List Hp} (n : Rf) : 0 ≤ lv → n = (if lf then (nx lv r).1 else (nx lv r).2) → (lf != decide (keyLt n tg)) = false → ¬(lv = 0 ∧ lf = true) → Dw h nx tg lf (lv - 1) r W e → Dw h nx tg lf lv r W e
theorem mem_mid {h : Int} {m : List Rf} {k : Int} {u : Vc} {j : Nat} (h0 : 0 < j) (hj : j + 1 < (rowL h (flt k u m)).length) : (rowL h (flt k u m))[j] ∈ m ∧ prV k (rowL h (flt k u m))[j] = u := by
  obtain ⟨q, rfl⟩ : ∃ q, j = q + 1 := ⟨j - 1, by omega⟩
  have hq : q < (flt k u m).length := by
    have : (rowL h (flt k u m)).length = (flt k u m).length + 2 := by unfold rowL; simp
    omega
  have e : (rowL h (flt k u m))[q + 1] = (flt k u m)[q] := by
    have e1 : (rowL h (flt k u m))[q + 1] = (flt k u m ++ [tlR h])[q]'(by simp; omega) := rfl
    rw [e1, List.getElem_append_left hq]
  rw [e]
  have := List.mem_filter.1 (List.getElem_mem hq)
  exact ⟨this.1, by simpa using this.2⟩
theorem dwR_level {h : Int} {l m : List Rf} (hg : okG h l) (hp : m.Perm l) (hs : m.Pairwise keyLt) (M : Mem h m) {tg : Rf} (hh : ¬keyLt (tlR h) tg) {k : Int} (h0 : 0 ≤ k) (h1 : k ≤ h) : ∀ (c : Nat) (r : Rf), InvR h m tg r → (stepR h m tg k r).length = c → ∀ (W : List Hp) (e : Rf), Dw h (nxD h l) tg false (k - 1) ((stepR h m tg k r).getLastD r) W e → Dw h (nxD h l) tg false k r ((stepR h m tg k r).map (fun x => (k, x)) ++ W) e := by
  intro c
  induction c with
  | zero =>
    intro r I hc W e hD
    obtain ⟨i, hi, hpi, hri, hi1, -⟩ := I.at M hh k
    have hS := stepR_eq (tg := tg) hpi
    have hN := nxD_at hg hp hs (M.row_ok (I.row k)) h0 h1 hpi
    have e0 : stepR h m tg k r = [] := List.length_eq_zero_iff.1 hc
    have hk : ¬keyLt (rowL h (flt k (prV k r) m))[i + 1] tg := fun hk => by
      rw [hS, rgL_next hi1 hk] at e0
      cases e0
    rw [e0] at hD ⊢
    refine .down (rowL h (flt k (prV k r) m))[i + 1] h0 ?_ ?_ (fun h => by cases h.2) hD
    · rw [hN]; simp [besR, List.getD, hi1]
    · simp [hk]
  | succ c ih =>
    intro r I hc W e hD
    obtain ⟨i, hi, hpi, hri, hi1, -⟩ := I.at M hh k
    have hS := stepR_eq (tg := tg) hpi
    have hN := nxD_at hg hp hs (M.row_ok (I.row k)) h0 h1 hpi
    by_cases hk : keyLt (rowL h (flt k (prV k r) m))[i + 1] tg
    · have hS2 := hS.trans (rgL_next hi1 hk)
      have hi2 : i + 1 + 1 < (rowL h (flt k (prV k r) m)).length := by
        have hl : (rowL h (flt k (prV k r) m)).length - 1 < (rowL h (flt k (prV k r) m)).length := by omega
        have h3 := rowL_last h (flt k (prV k r) m) hl
        have h4 : i + 1 ≠ (rowL h (flt k (prV k r) m)).length - 1 := fun e => by
          have h5 : (rowL h (flt k (prV k r) m))[i + 1] = tlR h := by
            simp only [e]
            exact h3
          rw [h5] at hk
          exact hh hk
        omega
      obtain ⟨hm, hpr⟩ := mem_mid (Nat.succ_pos i) hi2
      have hpl := M.plI_at (k := k) (u := prV k r) hi1
      have hok := M.mem_ok hm
      have hb : (rowL h (flt k (prV k r) m))[i + 1] = (nxD h l k r).2 := by rw [hN]; simp [besR, List.getD, hi1]
      generalize hy : (rowL h (flt k (prV k r) m))[i + 1] = y at *
      have I2 : InvR h m tg y := ⟨Or.inl hm, hk⟩
      have hS3 : stepR h m tg k y = rgL (rowL h (flt k (prV k r) m)) tg (i + 1) := by
        have := stepR_eq (tg := tg) (h := h) (m := m) (r := y) (k := k) (i := i + 1) (by rw [hpr]; exact hpl)
        rw [hpr] at this
        exact this
      rw [← hS3] at hS2
      rw [hS2] at hc hD ⊢
      rw [List.getLastD_cons] at hD
      exact .hop y h0 hb hok (by simp [hk]) (ih y I2 (by simpa using hc) W e hD)
    · rw [hS, rgL_stop hi1 hk] at hc
      cases hc
theorem dwR {h : Int} {l m : List Rf} (hg : okG h l) (hp : m.Perm l) (hs : m.Pairwise keyLt) (M : Mem h m) {tg : Rf} (hh : ¬keyLt (tlR h) tg) : ∀ (n : Nat) (r : Rf), (n : Int) ≤ h → InvR h m tg r → Dw h (nxD h l) tg false (n : Int) r (goR h m tg n r).1 (goR h m tg n r).2
  | 0, r, hn, I => by
    have := dwR_level hg hp hs M hh (k := 0) (by omega) hn _ r I rfl [] _ (.fin (by omega))
    rw [List.append_nil] at this
    exact this
  | n + 1, r, hn, I => by
    have e : (((n + 1 : Nat) : Int) - 1) = (n : Int) := by omega
    refine dwR_level hg hp hs M hh (k := ((n + 1 : Nat) : Int)) (by omega) hn _ r I rfl _ _ ?_
    rw [e]
    exact dwR hg hp hs M hh n _ (by omega) (I.next hh _)
theorem dwL_level {h : Int} {l m : List Rf} (hg : okG h l) (hp : m.Perm l) (hs : m.Pairwise keyLt) (M : Mem h m) {tg : Rf} (hh : keyLt (hdR h) tg) {k : Int} (h0 : 0 ≤ k) (h1 : k ≤ h) : ∀ (c : Nat) (r : Rf), InvL h m tg r → (stepL h m tg k r).length = c → ∀ (W : List Hp) (e : Rf), (k = 0 → W = [] ∧ e = (stepL h m tg k r).getLastD r) → (k ≠ 0 → Dw h (nxD h l) tg true (k - 1) ((stepL h m tg k r).getLastD r) W e) → Dw h (nxD h l) tg true k r ((stepL h m tg k r).map (fun x => (k, x)) ++ W) e := by
  intro c
  induction c with
  | zero =>
    intro r I hc W e hD0 hD
    obtain ⟨i, hi, hpi, hri, hi1, -⟩ := I.at M hh k
    have hS := stepL_eq (tg := tg) hpi
    have hN := nxD_at hg hp hs (M.row_ok (I.row k)) h0 h1 hpi
    have e0 : stepL h m tg k r = [] := List.length_eq_zero_iff.1 hc
    obtain ⟨j, rfl⟩ : ∃ j, i = j + 1 := ⟨i - 1, by omega⟩
    have hjl : j < (rowL h (flt k (prV k r) m)).length := by omega
    have hb : (rowL h (flt k (prV k r) m))[j] = (nxD h l k r).1 := by rw [hN]; simp [besL, List.getD, hjl]
    have hk0 : k ≠ 0 := fun e => by
      rw [hS, if_pos e] at e0
      simp at e0
    have hk : keyLt (rowL h (flt k (prV k r) m))[j] tg := by
      rcases Classical.em (keyLt (rowL h (flt k (prV k r) m))[j] tg) with hk | hk
      · exact hk
      · rw [hS, lfL_next hjl hk] at e0
        cases e0
    rw [e0] at hD ⊢
    refine .down _ h0 hb ?_ (fun h => hk0 h.1) (hD hk0)
    simp [hk]
  | succ c ih =>
    intro r I hc W e hD0 hD
    obtain ⟨i, hi, hpi, hri, hi1, -⟩ := I.at M hh k
    have hS := stepL_eq (tg := tg) hpi
    have hN := nxD_at hg hp hs (M.row_ok (I.row k)) h0 h1 hpi
    obtain ⟨j, rfl⟩ : ∃ j, i = j + 1 := ⟨i - 1, by omega⟩
    have hjl : j < (rowL h (flt k (prV k r) m)).length := by omega
    have hb : (rowL h (flt k (prV k r) m))[j] = (nxD h l k r).1 := by rw [hN]; simp [besL, List.getD, hjl]
    by_cases hk : keyLt (rowL h (flt k (prV k r) m))[j] tg
    · rw [lfL_stop hjl hk] at hS
      by_cases hk0 : k = 0
      · subst hk0
        rw [if_pos rfl] at hS
        have e1 : stepL h m tg 0 r = [(rowL h (flt 0 (prV 0 r) m))[j]] := by
          rw [hS]
          simp [List.getD, hjl]
        obtain ⟨rfl, he⟩ := hD0 rfl
        rw [e1] at he ⊢
        have he2 : e = (rowL h (flt 0 (prV 0 r) m))[j] := he
        subst he2
        exact .last _ rfl hb (M.row_ok (List.getElem_mem hjl)) hk
      · rw [if_neg hk0] at hS
        rw [hS] at hc
        cases hc
    · have hj0 : 0 < j := by
        rcases Nat.eq_zero_or_pos j with e | e
        · subst e
          exact absurd hh hk
        · exact e
      obtain ⟨hm, hpr⟩ := mem_mid hj0 hi
      have hpl := M.plI_at (k := k) (u := prV k r) hjl
      have hok := M.mem_ok hm
      rw [lfL_next hjl hk] at hS
      generalize hy : (rowL h (flt k (prV k r) m))[j] = y at *
      have I2 : InvL h m tg y := ⟨Or.inl hm, hk⟩
      have hS3 := stepL_eq (tg := tg) (h := h) (m := m) (r := y) (k := k) (i := j) (by rw [hpr]; exact hpl)
      rw [hpr] at hS3
      have hS2 : stepL h m tg k r = y :: stepL h m tg k y := by
        have e9 : j + 1 - ((lfL (rowL h (flt k (prV k r) m)) tg j).length + 1) - 1 = j - (lfL (rowL h (flt k (prV k r) m)) tg j).length - 1 := by omega
        rw [hS, hS3, List.cons_append, List.length_cons, e9]
      rw [hS2] at hc hD hD0 ⊢
      rw [List.getLastD_cons] at hD hD0
      exact .hop y h0 hb hok (by simp [hk]) (ih y I2 (by simpa using hc) W e hD0 hD)
theorem dwL {h : Int} {l m : List Rf} (hg : okG h l) (hp : m.Perm l) (hs : m.Pairwise keyLt) (M : Mem h m) {tg : Rf} (hh : keyLt (hdR h) tg) : ∀ (n : Nat) (r : Rf), (n : Int) ≤ h → InvL h m tg r → Dw h (nxD h l) tg true (n : Int) r (goL h m tg n r).1 (goL h m tg n r).2
  | 0, r, hn, I => by
    have := dwL_level hg hp hs M hh (k := 0) (by omega) hn _ r I rfl [] _ (fun _ => ⟨rfl, rfl⟩) (fun h => absurd rfl h)
    rw [List.append_nil] at this
    exact this
  | n + 1, r, hn, I => by
    have e : (((n + 1 : Nat) : Int) - 1) = (n : Int) := by omega
    refine dwL_level hg hp hs M hh (k := ((n + 1 : Nat) : Int)) (by omega) hn _ r I rfl _ _ (fun h => by omega) (fun _ => ?_)
    rw [e]
    exact dwL hg hp hs M hh n _ (by omega) (I.next hh (by omega))
/-- The one behind the place where a way ends. -/
theorem nxD_end {h : Int} {l m : List Rf} (hg : okG h l) (hp : m.Perm l) (hs : m.Pairwise keyLt) (M : Mem h m) {r : Rf} (hr : okR h r) {j : Nat} (hj : plI r.id (rowL h m) = (j : Int)) : (nxD h l 0 r).2 = endY h m r := by
  have e0 : flt 0 (prV 0 r) m = m := flt_zero m (fun q hq => ⟨(M.mem_ok hq).1, (M.mem_ok hq).2.1⟩) r ⟨hr.1, hr.2.1⟩
  have hi : plI r.id (rowL h (flt 0 (prV 0 r) m)) = (j : Int) := by rw [e0]; exact hj
  rw [nxD_at hg hp hs hr (by omega) M.h0 hi, e0]
  unfold endY besR
  rw [hj, Int.toNat_natCast]

end Go.Proofs.YtjkgacbckdipgaaDoor

/- Rows of hops of one's own; the steps of the document's way, one by one. -/
namespace Go.Proofs.YtjkgacbckdipgaaDoor
open Go.RowKit Go.Maps Go.ChangeMaps

/-- A hop's cells. -/
def hcs (x : Hp) : List Value := [.int .i64 x.1, .int .i64 x.2.id, .int .i64 x.2.rk, .int .u64 x.2.kn, .int .i64 x.2.ln, .int .u64 x.2.bt]
theorem flat_hps : ∀ l : List Hp, (l.map hcs).flatten = hps l
  | [] => rfl
  | x :: l => by
    rw [List.map_cons, List.flatten_cons, flat_hps l]
    rfl
theorem hcs_one (x : Hp) : ∀ u ∈ hcs x, u.oneCell' = true := fun u hu => hps_one [x] u (by simpa [hps, hcs] using hu)
theorem ty_hop : Ty 57 6 48 28 := ⟨Tryd.underlying28, ⟨.agg #[.int .i64 0, .int .i64 0, .int .i64 0, .int .u64 0, .int .i64 0, .int .u64 0], by kernel_rfl, rfl⟩⟩
/-- A way of one's own. -/
def Gh (base : Nat) (w : World) (v : Value) (l : List Hp) : Prop := Rg 57 6 base w v (l.map hcs)
theorem Gh.below {base : Nat} {w w' : World} {v : Value} {l : List Hp} (h : Gh base w v l) (hb : Below w.heap.size w w') : Gh base w' v l := Rg.below h hb
theorem Gh.rw {base : Nat} {w : World} {v : Value} {l : List Hp} (h : Gh base w v l) : Rw w 57 6 v l.length (hps l) := by
  have := Rg.row h
  rwa [List.length_map, flat_hps] at this
theorem Gh.one {base : Nat} {w : World} {b : Nat} (x : Hp) (h : IsB w b (hcs x).toArray 57) (hb : base ≤ b) : Gh base w (.slice (some ⟨b, 0, none⟩) 1 1) [x] := Rg.one 57 6 h rfl (hcs_one x) hb
/-- What is written into a reference's block changes no way. -/
theorem Gh.kp {base : Nat} {w w' : World} {v : Value} {l : List Hp} {b : Nat} {cs : Array Value} (h : Gh base w v l) (I : IsB w b cs 32) (hk : Kp [b] w w') : Gh base w' v l :=
  Rg.kp h hk fun j hj cs' hI => by
    rw [List.mem_singleton] at hj
    subst hj
    exact g_ne I hI (by decide) rfl
theorem push_hop {base : Nat} {w : World} {v : Value} {m : List Hp} (h : Gh base w v m) (z : Hp) (hlen : m.length + 1 ≤ 300000) (hbs : base ≤ w.heap.size) (ty : TypeId) :
    ∃ qa qc w', (Builtin.append_ #[28, 28] ty #[v, .slice (some ⟨w.heap.size, 0, none⟩) 1 1]).run Tryd.prog (w.alloc (.cells (hcs z).toArray 57)) = .ok (.slice qa (m.length + 1) qc) w' ∧ Gh base w' (.slice qa (m.length + 1) qc) (m ++ [z]) ∧ Below base w w' ∧ ∀ b cs, IsB w b cs 32 → IsB w' b cs 32 := by
  have hbl : Below w.heap.size w (w.alloc (.cells (hcs z).toArray 57)) := (Below.refl _ _).alloc (Nat.le_refl _) _
  have h1 := Rg.below h hbl
  obtain ⟨qa, qc, w', h2, h3, h4⟩ := h1.push ty_hop (by omega) (hcs z) rfl (hcs_one z) w.heap.size 1 (IsB.new w (hcs z).toArray 57) (by simp; omega) (by simp; omega) ty
  simp only [List.length_map] at h2 h3
  refine ⟨qa, qc, w', h2, ?_, (hbl.mono hbs).trans (h4.to_below (by simp; omega) (fun k hk => Rg.new h k (by simpa using hk))), fun b cs I => ?_⟩
  · unfold Gh
    simpa using h3
  · exact (I.below hbl).kp h4 (h1.ne (I.below hbl) (by decide))
def lenV : Value → Nat
  | .slice _ n _ => n
  | _ => 0
theorem ld_rkey {w : World} {b : Nat} {r : Rf} (I : IsB w b r.cells 32) : (Instr.loadAt 25 (.pointer (some ⟨b, 1, none⟩))).run Tryd.prog w = .ok (.agg #[.int .i64 (r.rk), .int .u64 (r.kn)]) w := load_mid (cs := [.int .i64 r.id, .int .i64 r.rk, .int .u64 r.kn, .int .i64 r.ln, .int .u64 r.bt]) I 1 _ [.int .i64 r.rk, .int .u64 r.kn] _ rfl Tryd.underlying25 rfl (by kernel_rfl)
theorem ld_rall {w : World} {b : Nat} {r : Rf} (I : IsB w b r.cells 32) : (Instr.loadAt 32 (.pointer (some ⟨b, 0, none⟩))).run Tryd.prog w = .ok (.agg #[.int .i64 r.id, .int .i64 r.rk, .int .u64 r.kn, .int .i64 r.ln, .int .u64 r.bt]) w := load_ref I rfl
theorem Dw.neg {h : Int} {nx : Int → Rf → Rf × Rf} {tg : Rf} {lf : Bool} {lv : Int} {r e : Rf} {W : List Hp} (hl : ¬0 ≤ lv) (D : Dw h nx tg lf lv r W e) : W = [] ∧ e = r := by
  cases D with
  | fin h => exact ⟨rfl, rfl⟩
  | hop n h0 => exact absurd h0 hl
  | last n => exact absurd (Int.le_refl 0) hl
  | down n h0 => exact absurd h0 hl
theorem Dw.stepR {h : Int} {nx : Int → Rf → Rf × Rf} {tg : Rf} {lv : Int} {r e a b : Rf} {W : List Hp} (h0 : 0 ≤ lv) (hab : nx lv r = (a, b)) (D : Dw h nx tg false lv r W e) : (decide (keyLt b tg) = true ∧ okR h b ∧ ∃ W', W = (lv, b) :: W' ∧ Dw h nx tg false lv b W' e) ∨ (decide (keyLt b tg) = false ∧ Dw h nx tg false (lv - 1) r W e) := by
  cases D with
  | fin h => exact absurd h0 (by omega)
  | hop n _ hn hok hc D' =>
    have e1 : n = b := by rw [hn, hab]; rfl
    subst e1
    exact Or.inl ⟨by simpa using hc, hok, _, rfl, D'⟩
  | last n hl => cases hl
  | down n _ hn hc _ D' =>
    have e1 : n = b := by rw [hn, hab]; rfl
    subst e1
    exact Or.inr ⟨by simpa using hc, D'⟩
theorem Dw.stepL {h : Int} {nx : Int → Rf → Rf × Rf} {tg : Rf} {lv : Int} {r e a b : Rf} {W : List Hp} (h0 : 0 ≤ lv) (hab : nx lv r = (a, b)) (D : Dw h nx tg true lv r W e) : (decide (keyLt a tg) = false ∧ okR h a ∧ ∃ W', W = (lv, a) :: W' ∧ Dw h nx tg true lv a W' e) ∨ (decide (keyLt a tg) = true ∧ lv = 0 ∧ okR h a ∧ W = [(0, a)] ∧ e = a) ∨ (decide (keyLt a tg) = true ∧ lv ≠ 0 ∧ Dw h nx tg true (lv - 1) r W e) := by
  cases D with
  | fin h => exact absurd h0 (by omega)
  | hop n _ hn hok hc D' =>
    have e1 : n = a := by rw [hn, hab]; rfl
    subst e1
    exact Or.inl ⟨by simpa using hc, hok, _, rfl, D'⟩
  | last _ hl hn hok hk =>
    have e1 : e = a := by rw [hn, hab]
    subst e1
    exact Or.inr (Or.inl ⟨decide_eq_true hk, rfl, hok, rfl, rfl⟩)
  | down n _ hn hc hz D' =>
    have e1 : n = a := by rw [hn, hab]; rfl
    subst e1
    exact Or.inr (Or.inr ⟨by simpa using hc, fun e => hz ⟨e, rfl⟩, D'⟩)

end Go.Proofs.YtjkgacbckdipgaaDoor
