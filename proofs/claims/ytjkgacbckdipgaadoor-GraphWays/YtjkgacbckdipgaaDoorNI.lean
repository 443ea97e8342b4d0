/- The document's next. -/
import Derived.Test.YtjkgacbckdipgaaDoorNF
namespace Go.Proofs.YtjkgacbckdipgaaDoor
open Go.RowKit Go.Maps Go.ChangeMaps

/-- A row in the document's own order: the list at a level. -/
def nxRow (h : Int) (l : List Rf) (k p : Int) : List Rf := rowL h (sortL (l.filter fun x => bgS x.ln x.bt k p))
/-- Those beside one, in its list at a level. -/
def nxD (h : Int) (l : List Rf) (k : Int) (r : Rf) : Rf × Rf := ((besD r.id (nxRow h l k ((pre r.ln.toNat r.bt.toNat k.toNat : Nat) : Int))).1, (besD r.id (nxRow h l k ((pre r.ln.toNat r.bt.toNat k.toNat : Nat) : Int))).2.1)
theorem nxRow_len (h : Int) (l : List Rf) (k p : Int) (hl : l.length ≤ 1000) : (nxRow h l k p).length ≤ 3000 := by
  unfold nxRow
  rw [rowL_len, sortL_len]
  have := List.length_filter_le (fun r : Rf => bgS r.ln r.bt k p) l
  omega
theorem nxD_eq {h : Int} {l : List Rf} {k p : Int} {r a b : Rf} {ok : Bool} (hp : ((pre r.ln.toNat r.bt.toNat k.toNat : Nat) : Int) = p) (hb : besD r.id (nxRow h l k p) = (a, b, ok)) : nxD h l k r = (a, b) := by
  unfold nxD
  rw [hp, hb]
theorem ld_rvec {w : World} {b : Nat} {r : Rf} (I : IsB w b r.cells 32) : (Instr.loadAt 30 (.pointer (some ⟨b, 3, none⟩))).run Tryd.prog w = .ok (.agg #[.int .i64 (r.ln), .int .u64 (r.bt)]) w := load_mid (cs := [.int .i64 r.id, .int .i64 r.rk, .int .u64 r.kn, .int .i64 r.ln, .int .u64 r.bt]) I 3 _ [.int .i64 r.ln, .int .u64 r.bt] _ rfl Tryd.underlying30 rfl (by kernel_rfl)
theorem st_vec {w : World} {b : Nat} {x y : Int} (I : IsB w b #[.int .i64 x, .int .u64 y] 30) (u v : Int) : ∃ w', (Instr.storeAt 30 (.pointer (some ⟨b, 0, none⟩)) (.agg #[.int .i64 (u), .int .u64 (v)])).run Tryd.prog w = .ok () w' ∧ IsB w' b #[.int .i64 u, .int .u64 v] 30 ∧ Kp [b] w w' := by
  have h := run_storeVar_row (P := Tryd.prog) w b 30 30 #[.int .i64 x, .int .u64 y] #[.int .i64 u, .int .u64 v] I (by kernel_rfl) rfl (all_oneCell_toArray (fun x hx => by simp only [List.mem_cons, List.not_mem_nil, or_false] at hx; rcases hx with h | h <;> rw [h] <;> rfl))
  refine ⟨_, ?_, isB_setRow I _, kp_setRow _⟩
  simp only [Instr.storeAt, Instr.sureAddr, Sem.run_bind, Sem.run_pure, Result.andThen_ok, h]

set_option maxHeartbeats 16000000 in
set_option maxRecDepth 100000 in
theorem next_doc (h : Int) (h0 : 0 ≤ h) (h1 : h ≤ 32) (r : Rf) (hr : rt r.ln r.bt = true) (hrb : 0 ≤ r.bt) (k : Int) (hk0 : 0 ≤ k) (hk1 : k ≤ r.ln) (v : Value) (l : List Rf) (hl : l.length ≤ 1000) (hbt : ∀ r ∈ l, 0 ≤ r.bt) (w : World) (R : RSl w v l) : Calls Tryd.prog 19 #[.int .i64 h, .agg #[.int .i64 r.id, .int .i64 r.rk, .int .u64 r.kn, .int .i64 r.ln, .int .u64 r.bt], .int .i64 k, v] w fun e' w' => e' = .returned (.tuple #[.agg (nxD h l k r).1.cells, .agg (nxD h l k r).2.cells]) ∧ Below w.heap.size w w' := by
  have mixed : Tryd.prog.follows .mixedOrders = true := by kernel_rfl
  obtain ⟨p, hp⟩ : ∃ p : Int, ((pre r.ln.toNat r.bt.toNat k.toNat : Nat) : Int) = p := ⟨_, rfl⟩
  have hp0 : 0 ≤ p := hp ▸ Int.natCast_nonneg _
  have HP := hide hp
  clear hp
  have hlen := hide (nxRow_len h l k p hl)
  obtain ⟨a, b, ok, hbs⟩ : ∃ a b ok, besD r.id (nxRow h l k p) = (a, b, ok) := ⟨_, _, _, rfl⟩
  have HBS := hide hbs
  have HF := hide (nxD_eq HP.out hbs)
  clear hbs
  have b3 : Below w.heap.size w (((w.alloc (.cells #[.int .i64 r.id, .int .i64 r.rk, .int .u64 r.kn, .int .i64 r.ln, .int .u64 r.bt] 32)).alloc (.cells #[.int .i64 0, .int .i64 0, .int .u64 0, .int .i64 0, .int .u64 0] 32)).alloc (.cells #[.int .i64 0, .int .i64 0, .int .u64 0, .int .i64 0, .int .u64 0] 32)) := (((Below.refl w.heap.size w).alloc (Nat.le_refl _) _).alloc (by simp) _).alloc (by simp; omega) _
  have Q : Hid (IsB (((w.alloc (.cells #[.int .i64 r.id, .int .i64 r.rk, .int .u64 r.kn, .int .i64 r.ln, .int .u64 r.bt] 32)).alloc (.cells #[.int .i64 0, .int .i64 0, .int .u64 0, .int .i64 0, .int .u64 0] 32)).alloc (.cells #[.int .i64 0, .int .i64 0, .int .u64 0, .int .i64 0, .int .u64 0] 32)) w.heap.size r.cells 32) := ((IsB.new w #[.int .i64 r.id, .int .i64 r.rk, .int .u64 r.kn, .int .i64 r.ln, .int .u64 r.bt] 32).below (gal1 _ (.cells #[.int .i64 0, .int .i64 0, .int .u64 0, .int .i64 0, .int .u64 0] 32))).below (gal1 _ (.cells #[.int .i64 0, .int .i64 0, .int .u64 0, .int .i64 0, .int .u64 0] 32))
  have A : Hid (IsB (((w.alloc (.cells #[.int .i64 r.id, .int .i64 r.rk, .int .u64 r.kn, .int .i64 r.ln, .int .u64 r.bt] 32)).alloc (.cells #[.int .i64 0, .int .i64 0, .int .u64 0, .int .i64 0, .int .u64 0] 32)).alloc (.cells #[.int .i64 0, .int .i64 0, .int .u64 0, .int .i64 0, .int .u64 0] 32)) (w.heap.size + 1) zr.cells 32) := by
    have h7 := (IsB.new (w.alloc (.cells #[.int .i64 r.id, .int .i64 r.rk, .int .u64 r.kn, .int .i64 r.ln, .int .u64 r.bt] 32)) #[.int .i64 0, .int .i64 0, .int .u64 0, .int .i64 0, .int .u64 0] 32).below (gal1 _ (.cells #[.int .i64 0, .int .i64 0, .int .u64 0, .int .i64 0, .int .u64 0] 32))
    rw [World.size_alloc] at h7
    exact h7
  have C : Hid (IsB (((w.alloc (.cells #[.int .i64 r.id, .int .i64 r.rk, .int .u64 r.kn, .int .i64 r.ln, .int .u64 r.bt] 32)).alloc (.cells #[.int .i64 0, .int .i64 0, .int .u64 0, .int .i64 0, .int .u64 0] 32)).alloc (.cells #[.int .i64 0, .int .i64 0, .int .u64 0, .int .i64 0, .int .u64 0] 32)) (w.heap.size + 1 + 1) zr.cells 32) := by
    have h7 := IsB.new ((w.alloc (.cells #[.int .i64 r.id, .int .i64 r.rk, .int .u64 r.kn, .int .i64 r.ln, .int .u64 r.bt] 32)).alloc (.cells #[.int .i64 0, .int .i64 0, .int .u64 0, .int .i64 0, .int .u64 0] 32)) #[.int .i64 0, .int .i64 0, .int .u64 0, .int .i64 0, .int .u64 0] 32
    rw [World.size_alloc, World.size_alloc] at h7
    exact h7
  go_enter Tryd.func19, Tryd.ntmps19
  go_wp2_with fail
  generalize (((w.alloc (.cells #[.int .i64 r.id, .int .i64 r.rk, .int .u64 r.kn, .int .i64 r.ln, .int .u64 r.bt] 32)).alloc (.cells #[.int .i64 0, .int .i64 0, .int .u64 0, .int .i64 0, .int .u64 0] 32)).alloc (.cells #[.int .i64 0, .int .i64 0, .int .u64 0, .int .i64 0, .int .u64 0] 32)) = W1 at *
  obtain ⟨H, hH⟩ : ∃ H, w.heap.size = H := ⟨_, rfl⟩
  have HH : Hid (w.heap.size = H) := hH
  rw [hH] at Q A C b3 ⊢
  have B := hide b3
  have RA : Hid (∀ w', Below H w w' → RSl w' v l) := fun w' hb => R.below (hH ▸ hb)
  clear R b3 hH
  have LV := hide (ld_rvec Q.out)
  go_wp2_with (first | (focus ((with_reducible refine wpList_load_w ?_ 30 (.tmp 17) ?_ ?_ LV.out ?_); rotate_left; rfl; rfl; rotate_left; rfl)))
  have CP := rprefix_ok r.ln r.bt k hr hrb hk0 hk1 W1
  rw [HP.out] at CP
  refine CP.mono ?_
  rintro e w2 ⟨rfl, hb⟩
  clear CP LV
  replace Q := hide (Q.out.below hb)
  replace A := hide (A.out.below hb)
  replace C := hide (C.out.below hb)
  replace B := hide (B.out.trans (hb.mono (Nat.le_trans (Nat.le_of_eq HH.out.symm) B.out.size)))
  clear hb
  have bv := gal1 w2 (.cells #[.int .i64 0, .int .u64 0] 30)
  have P0 := IsB.new w2 #[.int .i64 0, .int .u64 0] 30
  obtain ⟨v0, hs0, P0b, k0⟩ := st_vec P0 k p
  have HS0 := hide hs0
  have hHN : H + 1 + 1 < w2.heap.size := C.out.lt
  have P1 := hide P0b
  replace Q := hide ((Q.out.below bv).kp k0 (by simp; omega))
  replace A := hide ((A.out.below bv).kp k0 (by simp; omega))
  replace C := hide ((C.out.below bv).kp k0 (by simp; omega))
  replace B := hide ((B.out.trans (bv.mono (Nat.le_trans (Nat.le_of_eq HH.out.symm) B.out.size))).trans (k0.to_below (Nat.le_trans (Nat.le_trans (Nat.le_of_eq HH.out.symm) B.out.size) bv.size) (by simp; omega)))
  clear hs0 P0 P0b k0 bv
  go_wp2_with (first | (focus ((with_reducible refine wpList_store_w ?_ 30 (.tmp 10) (.tmp 20) ?_ ?_ ?_ HS0.out ?_); rotate_left; rfl; rfl; rfl; rotate_left; rfl)))
  clear HS0
  generalize w2.heap.size = HV at *
  replace Q := hide (Q.out.below ((Below.refl _ _).drew))
  replace A := hide (A.out.below ((Below.refl _ _).drew))
  replace C := hide (C.out.below ((Below.refl _ _).drew))
  replace P1 := hide (P1.out.below ((Below.refl _ _).drew))
  replace B := hide (B.out.drew)
  refine regionL 16 (fun w' => IsB w' HV #[.int .i64 k, .int .u64 p] 30 ∧ IsB w' H r.cells 32) mixed ⟨P1.out, Q.out⟩ (fun hHeld => ?_)
  generalize v0.drew = WD at *
  have SA : Hid (∀ w', Below WD.heap.size WD w' → (fun w' => IsB w' HV #[.int .i64 k, .int .u64 p] 30 ∧ IsB w' H r.cells 32) w') := fun w' hb => ⟨P1.out.below hb, Q.out.below hb⟩
  have hHW : H ≤ WD.heap.size := (Nat.le_trans (Nat.le_of_eq HH.out.symm) B.out.size)
  have RB : Hid (∀ w', Below WD.heap.size WD w' → RSl w' v l) := fun w' hb => (RA.out _ B.out).below hb
  clear P1 Q RA
  refine pickA (v := ?_) 0 (some 23) rfl rfl (by kernel_rfl) (by kernel_rfl) (by kernel_rfl) (by decide) (fun _ _ _ h => h) (by rfl) ?_ (by assumption) ?_
  rotate_left
  · intro w'
    go_simp
    try with_reducible rfl
  try simp only [Act.put, List.setIfInBounds_toArray, List.set_cons_zero, List.set_cons_succ]
  refine pickL (v := (.agg #[.int .i64 (k), .int .u64 (p)])) 1 (some 24) rfl rfl (by kernel_rfl) (by kernel_rfl) (by kernel_rfl) (by decide) (by kernel_rfl) (by kernel_rfl) (fun _ _ _ h => h) (by rfl) ?_ (by assumption) ?_
  · intro w' hSw
    obtain ⟨q0, q1⟩ := hSw
    exact exec_load rfl rfl (ld_v2 q0)
  try simp only [Act.put, List.setIfInBounds_toArray, List.set_cons_zero, List.set_cons_succ]
  refine pickA (v := ?_) 2 (some 25) rfl rfl (by kernel_rfl) (by kernel_rfl) (by kernel_rfl) (by decide) (fun _ _ _ h => h) (by rfl) ?_ (by assumption) ?_
  rotate_left
  · intro w'
    go_simp
    try with_reducible rfl
  try simp only [Act.put, List.setIfInBounds_toArray, List.set_cons_zero, List.set_cons_succ]
  refine pickA (v := ?_) 4 (some 27) rfl rfl (by kernel_rfl) (by kernel_rfl) (by kernel_rfl) (by decide) (fun _ _ _ h => h) (by rfl) ?_ (by assumption) ?_
  rotate_left
  · intro w'
    go_simp
    try with_reducible rfl
  try simp only [Act.put, List.setIfInBounds_toArray, List.set_cons_zero, List.set_cons_succ]
  refine pickL (v := .int .i64 r.id) 5 (some 28) rfl rfl (by kernel_rfl) (by kernel_rfl) (by kernel_rfl) (by decide) (by kernel_rfl) (by kernel_rfl) (fun _ _ _ h => h) (by rfl) ?_ (by assumption) ?_
  · intro w' hSw
    obtain ⟨q0, q1⟩ := hSw
    have y9 : w'.cell? ⟨H, 0, none⟩ = some (.int .i64 r.id) := q1.cell 0
    go_simp
    try with_reducible rfl
  try simp only [Act.put, List.setIfInBounds_toArray, List.set_cons_zero, List.set_cons_succ]
  have BC : Hid (Below WD.heap.size WD WD) := Below.refl _ _
  refine manyL (L := [3, 11, 12]) (by kernel_rfl) (by decide) (fun i hi => ?_)
  simp only [List.mem_cons, List.not_mem_nil, or_false] at hi
  rcases hi with rfl | rfl | rfl
  · refine ⟨_, rfl, fun K hK => ?_⟩
    go_simp
    refine (row_doc h k p h0 h1 hp0 v l hl hbt WD (RB.out _ BC.out)).mono ?_
    rintro e X1 ⟨vr, rfl, hrow, hb⟩
    have hRow : Hid (RSl X1 vr (nxRow h l k p)) := hrow.rsl
    clear hrow
    replace BC := hide (BC.out.trans (hb.mono BC.out.size))
    clear hb
    refine hK.out _ _ ?_ ?_
    · exact SA.out _ BC.out
    clear hK K
    try simp only [Act.put, List.setIfInBounds_toArray, List.set_cons_zero, List.set_cons_succ]
    clear hHeld
    have hHeld : (fun w' => IsB w' HV #[.int .i64 k, .int .u64 p] 30 ∧ IsB w' H r.cells 32) X1 := SA.out _ BC.out
    refine manyL (L := [6, 11, 12]) (by kernel_rfl) (by decide) (fun i hi => ?_)
    simp only [List.mem_cons, List.not_mem_nil, or_false] at hi
    rcases hi with rfl | rfl | rfl
    · refine ⟨_, rfl, fun K hK => ?_⟩
      go_simp
      refine (beside_doc vr _ hlen.out r.id X1 hRow.out).mono ?_
      rintro e X2 ⟨rfl, hb⟩
      clear hRow
      rw [HBS.out]
      replace BC := hide (BC.out.trans (hb.mono BC.out.size))
      clear hb
      refine hK.out _ _ ?_ ?_
      · exact SA.out _ BC.out
      clear hK K
      skip
      clear hHeld
      have hHeld : (fun w' => IsB w' HV #[.int .i64 k, .int .u64 p] 30 ∧ IsB w' H r.cells 32) X2 := SA.out _ BC.out
      refine pickA (v := ?_) 7 (some 22) rfl rfl (by kernel_rfl) (by kernel_rfl) (by kernel_rfl) (by decide) (fun _ _ _ h => h) (by rfl) ?_ (by assumption) ?_
      rotate_left
      · intro w'
        go_simp
        try with_reducible rfl
      try simp only [Act.put, List.setIfInBounds_toArray, List.set_cons_zero, List.set_cons_succ]
      refine pickA (v := .agg #[.int .i64 a.id, .int .i64 a.rk, .int .u64 a.kn, .int .i64 a.ln, .int .u64 a.bt]) 8 (some 30) rfl rfl (by kernel_rfl) (by kernel_rfl) (by kernel_rfl) (by decide) (fun _ _ _ h => h) (by rfl) ?_ (by assumption) ?_
      · intro w'
        go_simp
        try rfl
      try simp only [Act.put, List.setIfInBounds_toArray, List.set_cons_zero, List.set_cons_succ]
      refine pickA (v := .agg #[.int .i64 b.id, .int .i64 b.rk, .int .u64 b.kn, .int .i64 b.ln, .int .u64 b.bt]) 9 (some 31) rfl rfl (by kernel_rfl) (by kernel_rfl) (by kernel_rfl) (by decide) (fun _ _ _ h => h) (by rfl) ?_ (by assumption) ?_
      · intro w'
        go_simp
        try rfl
      try simp only [Act.put, List.setIfInBounds_toArray, List.set_cons_zero, List.set_cons_succ]
      refine pickA (v := .bool ok) 10 (some 32) rfl rfl (by kernel_rfl) (by kernel_rfl) (by kernel_rfl) (by decide) (fun _ _ _ h => h) (by rfl) ?_ (by assumption) ?_
      · intro w'
        go_simp
        try rfl
      try simp only [Act.put, List.setIfInBounds_toArray, List.set_cons_zero, List.set_cons_succ]
      refine manyL (L := [11, 12]) (by kernel_rfl) (by decide) (fun i hi => ?_)
      simp only [List.mem_cons, List.not_mem_nil, or_false] at hi
      rcases hi with rfl | rfl
      · refine ⟨_, rfl, fun K hK => ?_⟩
        go_simp
        obtain ⟨ga, hgq⟩ : ∃ n, n = X2.heap.size := ⟨_, rfl⟩
        have bx := gal1 X2 (.cells #[.int .i64 0, .int .i64 0, .int .u64 0, .int .i64 0, .int .u64 0] 32)
        have hA : Hid (IsB (X2.alloc (.cells #[.int .i64 0, .int .i64 0, .int .u64 0, .int .i64 0, .int .u64 0] 32)) ga zr.cells 32) := by show IsB _ _ _ _; rw [hgq]; exact IsB.new X2 _ _
        have hgga : Hid (WD.heap.size ≤ ga) := by show _ ≤ _; rw [hgq]; exact BC.out.size
        rw [← hgq]
        replace BC := hide (BC.out.trans (bx.mono BC.out.size))
        clear bx
        generalize hXq : X2.alloc (.cells #[.int .i64 0, .int .i64 0, .int .u64 0, .int .i64 0, .int .u64 0] 32) = X3 at *
        clear hXq hgq
        refine hK.out _ _ ?_ ?_
        · exact SA.out _ BC.out
        clear hK K
        try simp only [Act.put, List.setIfInBounds_toArray, List.set_cons_zero, List.set_cons_succ]
        clear hHeld
        have hHeld : (fun w' => IsB w' HV #[.int .i64 k, .int .u64 p] 30 ∧ IsB w' H r.cells 32) X3 := SA.out _ BC.out
        refine oneL (i := 12) (by kernel_rfl) rfl (fun K hK => ?_)
        go_simp
        obtain ⟨gb, hgq⟩ : ∃ n, n = X3.heap.size := ⟨_, rfl⟩
        have bx := gal1 X3 (.cells #[.int .i64 0, .int .i64 0, .int .u64 0, .int .i64 0, .int .u64 0] 32)
        have hB : Hid (IsB (X3.alloc (.cells #[.int .i64 0, .int .i64 0, .int .u64 0, .int .i64 0, .int .u64 0] 32)) gb zr.cells 32) := by show IsB _ _ _ _; rw [hgq]; exact IsB.new X3 _ _
        have hggb : Hid (WD.heap.size ≤ gb) := by show _ ≤ _; rw [hgq]; exact BC.out.size
        rw [← hgq]
        have hne : Hid (ga ≠ gb) := by have := hA.out.lt; show _ ≠ _; omega
        replace hA := hide (hA.out.below bx)
        replace BC := hide (BC.out.trans (bx.mono BC.out.size))
        clear bx
        generalize hXq : X3.alloc (.cells #[.int .i64 0, .int .i64 0, .int .u64 0, .int .i64 0, .int .u64 0] 32) = X4 at *
        clear hXq hgq
        refine hK.out _ _ ?_ ?_
        · exact SA.out _ BC.out
        clear hK K
        try simp only [Act.put, List.setIfInBounds_toArray, List.set_cons_zero, List.set_cons_succ]
        clear hHeld
        have hHeld : (fun w' => IsB w' HV #[.int .i64 k, .int .u64 p] 30 ∧ IsB w' H r.cells 32) X4 := SA.out _ BC.out
        refine oneL (i := 13) (by kernel_rfl) rfl (fun K hK => ?_)
        obtain ⟨X5, hs, hj, hk⟩ := st_ref hA.out a
        have HS := hide hs
        replace hA := hide hj
        replace hB := hide (hB.out.kp hk (by simpa using fun e => hne.out e.symm))
        replace BC := hide (BC.out.trans (hk.to_below BC.out.size (by simpa using hgga.out)))
        clear hs hj hk
        refine step_store_w rfl 32 (.tmp 12) (.tmp 30) rfl rfl rfl HS.out ?_
        clear HS
        refine hK.out _ _ ?_ ?_
        · exact SA.out _ BC.out
        clear hK K
        try simp only [Act.put, List.setIfInBounds_toArray]
        clear hHeld
        have hHeld : (fun w' => IsB w' HV #[.int .i64 k, .int .u64 p] 30 ∧ IsB w' H r.cells 32) X5 := SA.out _ BC.out
        refine oneL (i := 14) (by kernel_rfl) rfl (fun K hK => ?_)
        obtain ⟨X6, hs, hj, hk⟩ := st_ref hB.out b
        have HS := hide hs
        replace hB := hide hj
        replace hA := hide (hA.out.kp hk (by simpa using hne.out))
        replace BC := hide (BC.out.trans (hk.to_below BC.out.size (by simpa using hggb.out)))
        clear hs hj hk
        refine step_store_w rfl 32 (.tmp 13) (.tmp 31) rfl rfl rfl HS.out ?_
        clear HS
        refine hK.out _ _ ?_ ?_
        · exact SA.out _ BC.out
        clear hK K
        try simp only [Act.put]
        clear hHeld
        have hHeld : (fun w' => IsB w' HV #[.int .i64 k, .int .u64 p] 30 ∧ IsB w' H r.cells 32) X6 := SA.out _ BC.out
        refine pickA (v := ?_) 15 (some 14) rfl rfl (by kernel_rfl) (by kernel_rfl) (by kernel_rfl) (by decide) (fun _ _ _ h => h) (by rfl) ?_ (by assumption) ?_
        rotate_left
        · intro w'
          go_simp
          try with_reducible rfl
        try simp only [Act.put]
        refine doneL (by kernel_rfl) ?_ _
        clear hHeld
        have hHN2 : H + 1 + 1 < WD.heap.size := C.out.lt
        replace A := hide ((A.out.below BC.out).below (Below.refl _ _).drew)
        replace C := hide ((C.out.below BC.out).below (Below.refl _ _).drew)
        have Q1 := hide (hA.out.below (Below.refl _ _).drew)
        have Q2 := hide (hB.out.below (Below.refl _ _).drew)
        replace B := hide ((B.out.trans (BC.out.mono hHW)).drew)
        have hga2 := hgga.out
        have hgb2 := hggb.out
        clear BC SA RB hA hB hgga hggb hne
        go_wp2_with fail
        refine regionL 4 (fun w' => IsB w' ga a.cells 32 ∧ IsB w' gb b.cells 32) mixed ⟨Q1.out, Q2.out⟩ (fun hHeld => ?_)
        generalize X6.drew = WE at *
        obtain ⟨w6, hs6, A6, k6⟩ := st_ref A.out a
        have HS6 := hide hs6
        have C6 := C.out.kp k6 (by simp)
        obtain ⟨w7, hs7, C7, k7⟩ := st_ref C6 b
        have HS7 := hide hs7
        have A9 := hide (A6.kp k7 (by simp))
        have C9 := hide C7
        have B9 : Hid (Below H w w7) := (B.out.trans (k6.to_below (Nat.le_trans (Nat.le_of_eq HH.out.symm) B.out.size) (by simp))).trans (k7.to_below (Nat.le_trans (Nat.le_trans (Nat.le_of_eq HH.out.symm) B.out.size) k6.size) (by simp; omega))
        have Q3 := hide (Q1.out.kp k6 (by simp; omega))
        have Q4 := hide (Q2.out.kp k6 (by simp; omega))
        have Q5 := hide (Q3.out.kp k7 (by simp; omega))
        have Q6 := hide (Q4.out.kp k7 (by simp; omega))
        clear hs6 hs7 A6 C6 C7 k6 k7 A C Q1 Q2 hga2 hgb2 hHN2
        refine pickL (v := .agg #[.int .i64 a.id, .int .i64 a.rk, .int .u64 a.kn, .int .i64 a.ln, .int .u64 a.bt]) 0 (some 33) rfl rfl (by kernel_rfl) (by kernel_rfl) (by kernel_rfl) (by decide) (by kernel_rfl) (by kernel_rfl) (fun _ _ _ h => h) (by rfl) ?_ (by assumption) ?_
        · intro w' hSw
          obtain ⟨q0, q1⟩ := hSw
          exact exec_load rfl rfl (load_ref q0 rfl)
        try simp only [Act.put, List.setIfInBounds_toArray, List.set_cons_zero, List.set_cons_succ]
        refine pickL (v := .agg #[.int .i64 b.id, .int .i64 b.rk, .int .u64 b.kn, .int .i64 b.ln, .int .u64 b.bt]) 1 (some 34) rfl rfl (by kernel_rfl) (by kernel_rfl) (by kernel_rfl) (by decide) (by kernel_rfl) (by kernel_rfl) (fun _ _ _ h => h) (by rfl) ?_ (by assumption) ?_
        · intro w' hSw
          obtain ⟨q0, q1⟩ := hSw
          exact exec_load rfl rfl (load_ref q1 rfl)
        try simp only [Act.put, List.setIfInBounds_toArray, List.set_cons_zero, List.set_cons_succ]
        refine oneL (i := 2) (by kernel_rfl) rfl (fun K hK => ?_)
        refine step_store_w rfl 32 (.tmp 8) (.tmp 33) rfl rfl rfl HS6.out ?_
        refine hK.out _ _ ?_ ?_
        · exact ⟨Q3.out, Q4.out⟩
        clear hK K
        try simp only [Act.put, List.setIfInBounds_toArray]
        clear hHeld
        have hHeld : (fun w' => IsB w' ga a.cells 32 ∧ IsB w' gb b.cells 32) w6 := ⟨Q3.out, Q4.out⟩
        refine oneL (i := 3) (by kernel_rfl) rfl (fun K hK => ?_)
        refine step_store_w rfl 32 (.tmp 9) (.tmp 34) rfl rfl rfl HS7.out ?_
        refine hK.out _ _ ?_ ?_
        · exact ⟨Q5.out, Q6.out⟩
        clear hK K
        try simp only [Act.put]
        clear hHeld
        have hHeld : (fun w' => IsB w' ga a.cells 32 ∧ IsB w' gb b.cells 32) w7 := ⟨Q5.out, Q6.out⟩
        refine doneL (by kernel_rfl) ?_ _
        clear hHeld
        go_wp2
        refine ret_rr (p := 8) (q := 9) Tryd.results19 rfl rfl rfl rfl A9.out C9.out ?_
        exact ⟨by rw [HF.out], HH.out.symm ▸ B9.out⟩
      · refine ⟨_, rfl, fun K hK => ?_⟩
        go_simp
        obtain ⟨gb, hgq⟩ : ∃ n, n = X2.heap.size := ⟨_, rfl⟩
        have bx := gal1 X2 (.cells #[.int .i64 0, .int .i64 0, .int .u64 0, .int .i64 0, .int .u64 0] 32)
        have hB : Hid (IsB (X2.alloc (.cells #[.int .i64 0, .int .i64 0, .int .u64 0, .int .i64 0, .int .u64 0] 32)) gb zr.cells 32) := by show IsB _ _ _ _; rw [hgq]; exact IsB.new X2 _ _
        have hggb : Hid (WD.heap.size ≤ gb) := by show _ ≤ _; rw [hgq]; exact BC.out.size
        rw [← hgq]
        replace BC := hide (BC.out.trans (bx.mono BC.out.size))
        clear bx
        generalize hXq : X2.alloc (.cells #[.int .i64 0, .int .i64 0, .int .u64 0, .int .i64 0, .int .u64 0] 32) = X3 at *
        clear hXq hgq
        refine hK.out _ _ ?_ ?_
        · exact SA.out _ BC.out
        clear hK K
        try simp only [Act.put, List.setIfInBounds_toArray, List.set_cons_zero, List.set_cons_succ]
        clear hHeld
        have hHeld : (fun w' => IsB w' HV #[.int .i64 k, .int .u64 p] 30 ∧ IsB w' H r.cells 32) X3 := SA.out _ BC.out
        refine oneL (i := 11) (by kernel_rfl) rfl (fun K hK => ?_)
        go_simp
        obtain ⟨ga, hgq⟩ : ∃ n, n = X3.heap.size := ⟨_, rfl⟩
        have bx := gal1 X3 (.cells #[.int .i64 0, .int .i64 0, .int .u64 0, .int .i64 0, .int .u64 0] 32)
        have hA : Hid (IsB (X3.alloc (.cells #[.int .i64 0, .int .i64 0, .int .u64 0, .int .i64 0, .int .u64 0] 32)) ga zr.cells 32) := by show IsB _ _ _ _; rw [hgq]; exact IsB.new X3 _ _
        have hgga : Hid (WD.heap.size ≤ ga) := by show _ ≤ _; rw [hgq]; exact BC.out.size
        rw [← hgq]
        have hne : Hid (ga ≠ gb) := by have := hB.out.lt; show _ ≠ _; omega
        replace hB := hide (hB.out.below bx)
        replace BC := hide (BC.out.trans (bx.mono BC.out.size))
        clear bx
        generalize hXq : X3.alloc (.cells #[.int .i64 0, .int .i64 0, .int .u64 0, .int .i64 0, .int .u64 0] 32) = X4 at *
        clear hXq hgq
        refine hK.out _ _ ?_ ?_
        · exact SA.out _ BC.out
        clear hK K
        try simp only [Act.put, List.setIfInBounds_toArray, List.set_cons_zero, List.set_cons_succ]
        clear hHeld
        have hHeld : (fun w' => IsB w' HV #[.int .i64 k, .int .u64 p] 30 ∧ IsB w' H r.cells 32) X4 := SA.out _ BC.out
        refine oneL (i := 13) (by kernel_rfl) rfl (fun K hK => ?_)
        obtain ⟨X5, hs, hj, hk⟩ := st_ref hA.out a
        have HS := hide hs
        replace hA := hide hj
        replace hB := hide (hB.out.kp hk (by simpa using fun e => hne.out e.symm))
        replace BC := hide (BC.out.trans (hk.to_below BC.out.size (by simpa using hgga.out)))
        clear hs hj hk
        refine step_store_w rfl 32 (.tmp 12) (.tmp 30) rfl rfl rfl HS.out ?_
        clear HS
        refine hK.out _ _ ?_ ?_
        · exact SA.out _ BC.out
        clear hK K
        try simp only [Act.put, List.setIfInBounds_toArray]
        clear hHeld
        have hHeld : (fun w' => IsB w' HV #[.int .i64 k, .int .u64 p] 30 ∧ IsB w' H r.cells 32) X5 := SA.out _ BC.out
        refine oneL (i := 14) (by kernel_rfl) rfl (fun K hK => ?_)
        obtain ⟨X6, hs, hj, hk⟩ := st_ref hB.out b
        have HS := hide hs
        replace hB := hide hj
        replace hA := hide (hA.out.kp hk (by simpa using hne.out))
        replace BC := hide (BC.out.trans (hk.to_below BC.out.size (by simpa using hggb.out)))
        clear hs hj hk
        refine step_store_w rfl 32 (.tmp 13) (.tmp 31) rfl rfl rfl HS.out ?_
        clear HS
        refine hK.out _ _ ?_ ?_
        · exact SA.out _ BC.out
        clear hK K
        try simp only [Act.put]
        clear hHeld
        have hHeld : (fun w' => IsB w' HV #[.int .i64 k, .int .u64 p] 30 ∧ IsB w' H r.cells 32) X6 := SA.out _ BC.out
        refine pickA (v := ?_) 15 (some 14) rfl rfl (by kernel_rfl) (by kernel_rfl) (by kernel_rfl) (by decide) (fun _ _ _ h => h) (by rfl) ?_ (by assumption) ?_
        rotate_left
        · intro w'
          go_simp
          try with_reducible rfl
        try simp only [Act.put]
        refine doneL (by kernel_rfl) ?_ _
        clear hHeld
        have hHN2 : H + 1 + 1 < WD.heap.size := C.out.lt
        replace A := hide ((A.out.below BC.out).below (Below.refl _ _).drew)
        replace C := hide ((C.out.below BC.out).below (Below.refl _ _).drew)
        have Q1 := hide (hA.out.below (Below.refl _ _).drew)
        have Q2 := hide (hB.out.below (Below.refl _ _).drew)
        replace B := hide ((B.out.trans (BC.out.mono hHW)).drew)
        have hga2 := hgga.out
        have hgb2 := hggb.out
        clear BC SA RB hA hB hgga hggb hne
        go_wp2_with fail
        refine regionL 4 (fun w' => IsB w' ga a.cells 32 ∧ IsB w' gb b.cells 32) mixed ⟨Q1.out, Q2.out⟩ (fun hHeld => ?_)
        generalize X6.drew = WE at *
        obtain ⟨w6, hs6, A6, k6⟩ := st_ref A.out a
        have HS6 := hide hs6
        have C6 := C.out.kp k6 (by simp)
        obtain ⟨w7, hs7, C7, k7⟩ := st_ref C6 b
        have HS7 := hide hs7
        have A9 := hide (A6.kp k7 (by simp))
        have C9 := hide C7
        have B9 : Hid (Below H w w7) := (B.out.trans (k6.to_below (Nat.le_trans (Nat.le_of_eq HH.out.symm) B.out.size) (by simp))).trans (k7.to_below (Nat.le_trans (Nat.le_trans (Nat.le_of_eq HH.out.symm) B.out.size) k6.size) (by simp; omega))
        have Q3 := hide (Q1.out.kp k6 (by simp; omega))
        have Q4 := hide (Q2.out.kp k6 (by simp; omega))
        have Q5 := hide (Q3.out.kp k7 (by simp; omega))
        have Q6 := hide (Q4.out.kp k7 (by simp; omega))
        clear hs6 hs7 A6 C6 C7 k6 k7 A C Q1 Q2 hga2 hgb2 hHN2
        refine pickL (v := .agg #[.int .i64 a.id, .int .i64 a.rk, .int .u64 a.kn, .int .i64 a.ln, .int .u64 a.bt]) 0 (some 33) rfl rfl (by kernel_rfl) (by kernel_rfl) (by kernel_rfl) (by decide) (by kernel_rfl) (by kernel_rfl) (fun _ _ _ h => h) (by rfl) ?_ (by assumption) ?_
        · intro w' hSw
          obtain ⟨q0, q1⟩ := hSw
          exact exec_load rfl rfl (load_ref q0 rfl)
        try simp only [Act.put, List.setIfInBounds_toArray, List.set_cons_zero, List.set_cons_succ]
        refine pickL (v := .agg #[.int .i64 b.id, .int .i64 b.rk, .int .u64 b.kn, .int .i64 b.ln, .int .u64 b.bt]) 1 (some 34) rfl rfl (by kernel_rfl) (by kernel_rfl) (by kernel_rfl) (by decide) (by kernel_rfl) (by kernel_rfl) (fun _ _ _ h => h) (by rfl) ?_ (by assumption) ?_
        · intro w' hSw
          obtain ⟨q0, q1⟩ := hSw
          exact exec_load rfl rfl (load_ref q1 rfl)
        try simp only [Act.put, List.setIfInBounds_toArray, List.set_cons_zero, List.set_cons_succ]
        refine oneL (i := 2) (by kernel_rfl) rfl (fun K hK => ?_)
        refine step_store_w rfl 32 (.tmp 8) (.tmp 33) rfl rfl rfl HS6.out ?_
        refine hK.out _ _ ?_ ?_
        · exact ⟨Q3.out, Q4.out⟩
        clear hK K
        try simp only [Act.put, List.setIfInBounds_toArray]
        clear hHeld
        have hHeld : (fun w' => IsB w' ga a.cells 32 ∧ IsB w' gb b.cells 32) w6 := ⟨Q3.out, Q4.out⟩
        refine oneL (i := 3) (by kernel_rfl) rfl (fun K hK => ?_)
        refine step_store_w rfl 32 (.tmp 9) (.tmp 34) rfl rfl rfl HS7.out ?_
        refine hK.out _ _ ?_ ?_
        · exact ⟨Q5.out, Q6.out⟩
        clear hK K
        try simp only [Act.put]
        clear hHeld
        have hHeld : (fun w' => IsB w' ga a.cells 32 ∧ IsB w' gb b.cells 32) w7 := ⟨Q5.out, Q6.out⟩
        refine doneL (by kernel_rfl) ?_ _
        clear hHeld
        go_wp2
        refine ret_rr (p := 8) (q := 9) Tryd.results19 rfl rfl rfl rfl A9.out C9.out ?_
        exact ⟨by rw [HF.out], HH.out.symm ▸ B9.out⟩
    · refine ⟨_, rfl, fun K hK => ?_⟩
      go_simp
      obtain ⟨ga, hgq⟩ : ∃ n, n = X1.heap.size := ⟨_, rfl⟩
      have bx := gal1 X1 (.cells #[.int .i64 0, .int .i64 0, .int .u64 0, .int .i64 0, .int .u64 0] 32)
      have hA : Hid (IsB (X1.alloc (.cells #[.int .i64 0, .int .i64 0, .int .u64 0, .int .i64 0, .int .u64 0] 32)) ga zr.cells 32) := by show IsB _ _ _ _; rw [hgq]; exact IsB.new X1 _ _
      have hgga : Hid (WD.heap.size ≤ ga) := by show _ ≤ _; rw [hgq]; exact BC.out.size
      rw [← hgq]
      replace hRow := hide (hRow.out.below bx)
      replace BC := hide (BC.out.trans (bx.mono BC.out.size))
      clear bx
      generalize hXq : X1.alloc (.cells #[.int .i64 0, .int .i64 0, .int .u64 0, .int .i64 0, .int .u64 0] 32) = X2 at *
      clear hXq hgq
      refine hK.out _ _ ?_ ?_
      · exact SA.out _ BC.out
      clear hK K
      try simp only [Act.put, List.setIfInBounds_toArray, List.set_cons_zero, List.set_cons_succ]
      clear hHeld
      have hHeld : (fun w' => IsB w' HV #[.int .i64 k, .int .u64 p] 30 ∧ IsB w' H r.cells 32) X2 := SA.out _ BC.out
      refine manyL (L := [6, 12]) (by kernel_rfl) (by decide) (fun i hi => ?_)
      simp only [List.mem_cons, List.not_mem_nil, or_false] at hi
      rcases hi with rfl | rfl
      · refine ⟨_, rfl, fun K hK => ?_⟩
        go_simp
        refine (beside_doc vr _ hlen.out r.id X2 hRow.out).mono ?_
        rintro e X3 ⟨rfl, hb⟩
        clear hRow
        rw [HBS.out]
        replace BC := hide (BC.out.trans (hb.mono BC.out.size))
        replace hA := hide (hA.out.below hb)
        clear hb
        refine hK.out _ _ ?_ ?_
        · exact SA.out _ BC.out
        clear hK K
        skip
        clear hHeld
        have hHeld : (fun w' => IsB w' HV #[.int .i64 k, .int .u64 p] 30 ∧ IsB w' H r.cells 32) X3 := SA.out _ BC.out
        refine pickA (v := ?_) 7 (some 22) rfl rfl (by kernel_rfl) (by kernel_rfl) (by kernel_rfl) (by decide) (fun _ _ _ h => h) (by rfl) ?_ (by assumption) ?_
        rotate_left
        · intro w'
          go_simp
          try with_reducible rfl
        try simp only [Act.put, List.setIfInBounds_toArray, List.set_cons_zero, List.set_cons_succ]
        refine pickA (v := .agg #[.int .i64 a.id, .int .i64 a.rk, .int .u64 a.kn, .int .i64 a.ln, .int .u64 a.bt]) 8 (some 30) rfl rfl (by kernel_rfl) (by kernel_rfl) (by kernel_rfl) (by decide) (fun _ _ _ h => h) (by rfl) ?_ (by assumption) ?_
        · intro w'
          go_simp
          try rfl
        try simp only [Act.put, List.setIfInBounds_toArray, List.set_cons_zero, List.set_cons_succ]
        refine pickA (v := .agg #[.int .i64 b.id, .int .i64 b.rk, .int .u64 b.kn, .int .i64 b.ln, .int .u64 b.bt]) 9 (some 31) rfl rfl (by kernel_rfl) (by kernel_rfl) (by kernel_rfl) (by decide) (fun _ _ _ h => h) (by rfl) ?_ (by assumption) ?_
        · intro w'
          go_simp
          try rfl
        try simp only [Act.put, List.setIfInBounds_toArray, List.set_cons_zero, List.set_cons_succ]
        refine pickA (v := .bool ok) 10 (some 32) rfl rfl (by kernel_rfl) (by kernel_rfl) (by kernel_rfl) (by decide) (fun _ _ _ h => h) (by rfl) ?_ (by assumption) ?_
        · intro w'
          go_simp
          try rfl
        try simp only [Act.put, List.setIfInBounds_toArray, List.set_cons_zero, List.set_cons_succ]
        refine oneL (i := 12) (by kernel_rfl) rfl (fun K hK => ?_)
        go_simp
        obtain ⟨gb, hgq⟩ : ∃ n, n = X3.heap.size := ⟨_, rfl⟩
        have bx := gal1 X3 (.cells #[.int .i64 0, .int .i64 0, .int .u64 0, .int .i64 0, .int .u64 0] 32)
        have hB : Hid (IsB (X3.alloc (.cells #[.int .i64 0, .int .i64 0, .int .u64 0, .int .i64 0, .int .u64 0] 32)) gb zr.cells 32) := by show IsB _ _ _ _; rw [hgq]; exact IsB.new X3 _ _
        have hggb : Hid (WD.heap.size ≤ gb) := by show _ ≤ _; rw [hgq]; exact BC.out.size
        rw [← hgq]
        have hne : Hid (ga ≠ gb) := by have := hA.out.lt; show _ ≠ _; omega
        replace hA := hide (hA.out.below bx)
        replace BC := hide (BC.out.trans (bx.mono BC.out.size))
        clear bx
        generalize hXq : X3.alloc (.cells #[.int .i64 0, .int .i64 0, .int .u64 0, .int .i64 0, .int .u64 0] 32) = X4 at *
        clear hXq hgq
        refine hK.out _ _ ?_ ?_
        · exact SA.out _ BC.out
        clear hK K
        try simp only [Act.put, List.setIfInBounds_toArray, List.set_cons_zero, List.set_cons_succ]
        clear hHeld
        have hHeld : (fun w' => IsB w' HV #[.int .i64 k, .int .u64 p] 30 ∧ IsB w' H r.cells 32) X4 := SA.out _ BC.out
        refine oneL (i := 13) (by kernel_rfl) rfl (fun K hK => ?_)
        obtain ⟨X5, hs, hj, hk⟩ := st_ref hA.out a
        have HS := hide hs
        replace hA := hide hj
        replace hB := hide (hB.out.kp hk (by simpa using fun e => hne.out e.symm))
        replace BC := hide (BC.out.trans (hk.to_below BC.out.size (by simpa using hgga.out)))
        clear hs hj hk
        refine step_store_w rfl 32 (.tmp 12) (.tmp 30) rfl rfl rfl HS.out ?_
        clear HS
        refine hK.out _ _ ?_ ?_
        · exact SA.out _ BC.out
        clear hK K
        try simp only [Act.put, List.setIfInBounds_toArray]
        clear hHeld
        have hHeld : (fun w' => IsB w' HV #[.int .i64 k, .int .u64 p] 30 ∧ IsB w' H r.cells 32) X5 := SA.out _ BC.out
        refine oneL (i := 14) (by kernel_rfl) rfl (fun K hK => ?_)
        obtain ⟨X6, hs, hj, hk⟩ := st_ref hB.out b
        have HS := hide hs
        replace hB := hide hj
        replace hA := hide (hA.out.kp hk (by simpa using hne.out))
        replace BC := hide (BC.out.trans (hk.to_below BC.out.size (by simpa using hggb.out)))
        clear hs hj hk
        refine step_store_w rfl 32 (.tmp 13) (.tmp 31) rfl rfl rfl HS.out ?_
        clear HS
        refine hK.out _ _ ?_ ?_
        · exact SA.out _ BC.out
        clear hK K
        try simp only [Act.put]
        clear hHeld
        have hHeld : (fun w' => IsB w' HV #[.int .i64 k, .int .u64 p] 30 ∧ IsB w' H r.cells 32) X6 := SA.out _ BC.out
        refine pickA (v := ?_) 15 (some 14) rfl rfl (by kernel_rfl) (by kernel_rfl) (by kernel_rfl) (by decide) (fun _ _ _ h => h) (by rfl) ?_ (by assumption) ?_
        rotate_left
        · intro w'
          go_simp
          try with_reducible rfl
        try simp only [Act.put]
        refine doneL (by kernel_rfl) ?_ _
        clear hHeld
        have hHN2 : H + 1 + 1 < WD.heap.size := C.out.lt
        replace A := hide ((A.out.below BC.out).below (Below.refl _ _).drew)
        replace C := hide ((C.out.below BC.out).below (Below.refl _ _).drew)
        have Q1 := hide (hA.out.below (Below.refl _ _).drew)
        have Q2 := hide (hB.out.below (Below.refl _ _).drew)
        replace B := hide ((B.out.trans (BC.out.mono hHW)).drew)
        have hga2 := hgga.out
        have hgb2 := hggb.out
        clear BC SA RB hA hB hgga hggb hne
        go_wp2_with fail
        refine regionL 4 (fun w' => IsB w' ga a.cells 32 ∧ IsB w' gb b.cells 32) mixed ⟨Q1.out, Q2.out⟩ (fun hHeld => ?_)
        generalize X6.drew = WE at *
        obtain ⟨w6, hs6, A6, k6⟩ := st_ref A.out a
        have HS6 := hide hs6
        have C6 := C.out.kp k6 (by simp)
        obtain ⟨w7, hs7, C7, k7⟩ := st_ref C6 b
        have HS7 := hide hs7
        have A9 := hide (A6.kp k7 (by simp))
        have C9 := hide C7
        have B9 : Hid (Below H w w7) := (B.out.trans (k6.to_below (Nat.le_trans (Nat.le_of_eq HH.out.symm) B.out.size) (by simp))).trans (k7.to_below (Nat.le_trans (Nat.le_trans (Nat.le_of_eq HH.out.symm) B.out.size) k6.size) (by simp; omega))
        have Q3 := hide (Q1.out.kp k6 (by simp; omega))
        have Q4 := hide (Q2.out.kp k6 (by simp; omega))
        have Q5 := hide (Q3.out.kp k7 (by simp; omega))
        have Q6 := hide (Q4.out.kp k7 (by simp; omega))
        clear hs6 hs7 A6 C6 C7 k6 k7 A C Q1 Q2 hga2 hgb2 hHN2
        refine pickL (v := .agg #[.int .i64 a.id, .int .i64 a.rk, .int .u64 a.kn, .int .i64 a.ln, .int .u64 a.bt]) 0 (some 33) rfl rfl (by kernel_rfl) (by kernel_rfl) (by kernel_rfl) (by decide) (by kernel_rfl) (by kernel_rfl) (fun _ _ _ h => h) (by rfl) ?_ (by assumption) ?_
        · intro w' hSw
          obtain ⟨q0, q1⟩ := hSw
          exact exec_load rfl rfl (load_ref q0 rfl)
        try simp only [Act.put, List.setIfInBounds_toArray, List.set_cons_zero, List.set_cons_succ]
        refine pickL (v := .agg #[.int .i64 b.id, .int .i64 b.rk, .int .u64 b.kn, .int .i64 b.ln, .int .u64 b.bt]) 1 (some 34) rfl rfl (by kernel_rfl) (by kernel_rfl) (by kernel_rfl) (by decide) (by kernel_rfl) (by kernel_rfl) (fun _ _ _ h => h) (by rfl) ?_ (by assumption) ?_
        · intro w' hSw
          obtain ⟨q0, q1⟩ := hSw
          exact exec_load rfl rfl (load_ref q1 rfl)
        try simp only [Act.put, List.setIfInBounds_toArray, List.set_cons_zero, List.set_cons_succ]
        refine oneL (i := 2) (by kernel_rfl) rfl (fun K hK => ?_)
        refine step_store_w rfl 32 (.tmp 8) (.tmp 33) rfl rfl rfl HS6.out ?_
        refine hK.out _ _ ?_ ?_
        · exact ⟨Q3.out, Q4.out⟩
        clear hK K
        try simp only [Act.put, List.setIfInBounds_toArray]
        clear hHeld
        have hHeld : (fun w' => IsB w' ga a.cells 32 ∧ IsB w' gb b.cells 32) w6 := ⟨Q3.out, Q4.out⟩
        refine oneL (i := 3) (by kernel_rfl) rfl (fun K hK => ?_)
        refine step_store_w rfl 32 (.tmp 9) (.tmp 34) rfl rfl rfl HS7.out ?_
        refine hK.out _ _ ?_ ?_
        · exact ⟨Q5.out, Q6.out⟩
        clear hK K
        try simp only [Act.put]
        clear hHeld
        have hHeld : (fun w' => IsB w' ga a.cells 32 ∧ IsB w' gb b.cells 32) w7 := ⟨Q5.out, Q6.out⟩
        refine doneL (by kernel_rfl) ?_ _
        clear hHeld
        go_wp2
        refine ret_rr (p := 8) (q := 9) Tryd.results19 rfl rfl rfl rfl A9.out C9.out ?_
        exact ⟨by rw [HF.out], HH.out.symm ▸ B9.out⟩
      · refine ⟨_, rfl, fun K hK => ?_⟩
        go_simp
        obtain ⟨gb, hgq⟩ : ∃ n, n = X2.heap.size := ⟨_, rfl⟩
        have bx := gal1 X2 (.cells #[.int .i64 0, .int .i64 0, .int .u64 0, .int .i64 0, .int .u64 0] 32)
        have hB : Hid (IsB (X2.alloc (.cells #[.int .i64 0, .int .i64 0, .int .u64 0, .int .i64 0, .int .u64 0] 32)) gb zr.cells 32) := by show IsB _ _ _ _; rw [hgq]; exact IsB.new X2 _ _
        have hggb : Hid (WD.heap.size ≤ gb) := by show _ ≤ _; rw [hgq]; exact BC.out.size
        rw [← hgq]
        replace hRow := hide (hRow.out.below bx)
        have hne : Hid (ga ≠ gb) := by have := hA.out.lt; show _ ≠ _; omega
        replace hA := hide (hA.out.below bx)
        replace BC := hide (BC.out.trans (bx.mono BC.out.size))
        clear bx
        generalize hXq : X2.alloc (.cells #[.int .i64 0, .int .i64 0, .int .u64 0, .int .i64 0, .int .u64 0] 32) = X3 at *
        clear hXq hgq
        refine hK.out _ _ ?_ ?_
        · exact SA.out _ BC.out
        clear hK K
        try simp only [Act.put, List.setIfInBounds_toArray, List.set_cons_zero, List.set_cons_succ]
        clear hHeld
        have hHeld : (fun w' => IsB w' HV #[.int .i64 k, .int .u64 p] 30 ∧ IsB w' H r.cells 32) X3 := SA.out _ BC.out
        refine oneL (i := 6) (by kernel_rfl) rfl (fun K hK => ?_)
        go_simp
        refine (beside_doc vr _ hlen.out r.id X3 hRow.out).mono ?_
        rintro e X4 ⟨rfl, hb⟩
        clear hRow
        rw [HBS.out]
        replace BC := hide (BC.out.trans (hb.mono BC.out.size))
        replace hA := hide (hA.out.below hb)
        replace hB := hide (hB.out.below hb)
        clear hb
        refine hK.out _ _ ?_ ?_
        · exact SA.out _ BC.out
        clear hK K
        skip
        clear hHeld
        have hHeld : (fun w' => IsB w' HV #[.int .i64 k, .int .u64 p] 30 ∧ IsB w' H r.cells 32) X4 := SA.out _ BC.out
        refine pickA (v := ?_) 7 (some 22) rfl rfl (by kernel_rfl) (by kernel_rfl) (by kernel_rfl) (by decide) (fun _ _ _ h => h) (by rfl) ?_ (by assumption) ?_
        rotate_left
        · intro w'
          go_simp
          try with_reducible rfl
        try simp only [Act.put, List.setIfInBounds_toArray, List.set_cons_zero, List.set_cons_succ]
        refine pickA (v := .agg #[.int .i64 a.id, .int .i64 a.rk, .int .u64 a.kn, .int .i64 a.ln, .int .u64 a.bt]) 8 (some 30) rfl rfl (by kernel_rfl) (by kernel_rfl) (by kernel_rfl) (by decide) (fun _ _ _ h => h) (by rfl) ?_ (by assumption) ?_
        · intro w'
          go_simp
          try rfl
        try simp only [Act.put, List.setIfInBounds_toArray, List.set_cons_zero, List.set_cons_succ]
        refine pickA (v := .agg #[.int .i64 b.id, .int .i64 b.rk, .int .u64 b.kn, .int .i64 b.ln, .int .u64 b.bt]) 9 (some 31) rfl rfl (by kernel_rfl) (by kernel_rfl) (by kernel_rfl) (by decide) (fun _ _ _ h => h) (by rfl) ?_ (by assumption) ?_
        · intro w'
          go_simp
          try rfl
        try simp only [Act.put, List.setIfInBounds_toArray, List.set_cons_zero, List.set_cons_succ]
        refine pickA (v := .bool ok) 10 (some 32) rfl rfl (by kernel_rfl) (by kernel_rfl) (by kernel_rfl) (by decide) (fun _ _ _ h => h) (by rfl) ?_ (by assumption) ?_
        · intro w'
          go_simp
          try rfl
        try simp only [Act.put, List.setIfInBounds_toArray, List.set_cons_zero, List.set_cons_succ]
        refine oneL (i := 13) (by kernel_rfl) rfl (fun K hK => ?_)
        obtain ⟨X5, hs, hj, hk⟩ := st_ref hA.out a
        have HS := hide hs
        replace hA := hide hj
        replace hB := hide (hB.out.kp hk (by simpa using fun e => hne.out e.symm))
        replace BC := hide (BC.out.trans (hk.to_below BC.out.size (by simpa using hgga.out)))
        clear hs hj hk
        refine step_store_w rfl 32 (.tmp 12) (.tmp 30) rfl rfl rfl HS.out ?_
        clear HS
        refine hK.out _ _ ?_ ?_
        · exact SA.out _ BC.out
        clear hK K
        try simp only [Act.put, List.setIfInBounds_toArray]
        clear hHeld
        have hHeld : (fun w' => IsB w' HV #[.int .i64 k, .int .u64 p] 30 ∧ IsB w' H r.cells 32) X5 := SA.out _ BC.out
        refine oneL (i := 14) (by kernel_rfl) rfl (fun K hK => ?_)
        obtain ⟨X6, hs, hj, hk⟩ := st_ref hB.out b
        have HS := hide hs
        replace hB := hide hj
        replace hA := hide (hA.out.kp hk (by simpa using hne.out))
        replace BC := hide (BC.out.trans (hk.to_below BC.out.size (by simpa using hggb.out)))
        clear hs hj hk
        refine step_store_w rfl 32 (.tmp 13) (.tmp 31) rfl rfl rfl HS.out ?_
        clear HS
        refine hK.out _ _ ?_ ?_
        · exact SA.out _ BC.out
        clear hK K
        try simp only [Act.put]
        clear hHeld
        have hHeld : (fun w' => IsB w' HV #[.int .i64 k, .int .u64 p] 30 ∧ IsB w' H r.cells 32) X6 := SA.out _ BC.out
        refine pickA (v := ?_) 15 (some 14) rfl rfl (by kernel_rfl) (by kernel_rfl) (by kernel_rfl) (by decide) (fun _ _ _ h => h) (by rfl) ?_ (by assumption) ?_
        rotate_left
        · intro w'
          go_simp
          try with_reducible rfl
        try simp only [Act.put]
        refine doneL (by kernel_rfl) ?_ _
        clear hHeld
        have hHN2 : H + 1 + 1 < WD.heap.size := C.out.lt
        replace A := hide ((A.out.below BC.out).below (Below.refl _ _).drew)
        replace C := hide ((C.out.below BC.out).below (Below.refl _ _).drew)
        have Q1 := hide (hA.out.below (Below.refl _ _).drew)
        have Q2 := hide (hB.out.below (Below.refl _ _).drew)
        replace B := hide ((B.out.trans (BC.out.mono hHW)).drew)
        have hga2 := hgga.out
        have hgb2 := hggb.out
        clear BC SA RB hA hB hgga hggb hne
        go_wp2_with fail
        refine regionL 4 (fun w' => IsB w' ga a.cells 32 ∧ IsB w' gb b.cells 32) mixed ⟨Q1.out, Q2.out⟩ (fun hHeld => ?_)
        generalize X6.drew = WE at *
        obtain ⟨w6, hs6, A6, k6⟩ := st_ref A.out a
        have HS6 := hide hs6
        have C6 := C.out.kp k6 (by simp)
        obtain ⟨w7, hs7, C7, k7⟩ := st_ref C6 b
        have HS7 := hide hs7
        have A9 := hide (A6.kp k7 (by simp))
        have C9 := hide C7
        have B9 : Hid (Below H w w7) := (B.out.trans (k6.to_below (Nat.le_trans (Nat.le_of_eq HH.out.symm) B.out.size) (by simp))).trans (k7.to_below (Nat.le_trans (Nat.le_trans (Nat.le_of_eq HH.out.symm) B.out.size) k6.size) (by simp; omega))
        have Q3 := hide (Q1.out.kp k6 (by simp; omega))
        have Q4 := hide (Q2.out.kp k6 (by simp; omega))
        have Q5 := hide (Q3.out.kp k7 (by simp; omega))
        have Q6 := hide (Q4.out.kp k7 (by simp; omega))
        clear hs6 hs7 A6 C6 C7 k6 k7 A C Q1 Q2 hga2 hgb2 hHN2
        refine pickL (v := .agg #[.int .i64 a.id, .int .i64 a.rk, .int .u64 a.kn, .int .i64 a.ln, .int .u64 a.bt]) 0 (some 33) rfl rfl (by kernel_rfl) (by kernel_rfl) (by kernel_rfl) (by decide) (by kernel_rfl) (by kernel_rfl) (fun _ _ _ h => h) (by rfl) ?_ (by assumption) ?_
        · intro w' hSw
          obtain ⟨q0, q1⟩ := hSw
          exact exec_load rfl rfl (load_ref q0 rfl)
        try simp only [Act.put, List.setIfInBounds_toArray, List.set_cons_zero, List.set_cons_succ]
        refine pickL (v := .agg #[.int .i64 b.id, .int .i64 b.rk, .int .u64 b.kn, .int .i64 b.ln, .int .u64 b.bt]) 1 (some 34) rfl rfl (by kernel_rfl) (by kernel_rfl) (by kernel_rfl) (by decide) (by kernel_rfl) (by kernel_rfl) (fun _ _ _ h => h) (by rfl) ?_ (by assumption) ?_
        · intro w' hSw
          obtain ⟨q0, q1⟩ := hSw
          exact exec_load rfl rfl (load_ref q1 rfl)
        try simp only [Act.put, List.setIfInBounds_toArray, List.set_cons_zero, List.set_cons_succ]
        refine oneL (i := 2) (by kernel_rfl) rfl (fun K hK => ?_)
        refine step_store_w rfl 32 (.tmp 8) (.tmp 33) rfl rfl rfl HS6.out ?_
        refine hK.out _ _ ?_ ?_
        · exact ⟨Q3.out, Q4.out⟩
        clear hK K
        try simp only [Act.put, List.setIfInBounds_toArray]
        clear hHeld
        have hHeld : (fun w' => IsB w' ga a.cells 32 ∧ IsB w' gb b.cells 32) w6 := ⟨Q3.out, Q4.out⟩
        refine oneL (i := 3) (by kernel_rfl) rfl (fun K hK => ?_)
        refine step_store_w rfl 32 (.tmp 9) (.tmp 34) rfl rfl rfl HS7.out ?_
        refine hK.out _ _ ?_ ?_
        · exact ⟨Q5.out, Q6.out⟩
        clear hK K
        try simp only [Act.put]
        clear hHeld
        have hHeld : (fun w' => IsB w' ga a.cells 32 ∧ IsB w' gb b.cells 32) w7 := ⟨Q5.out, Q6.out⟩
        refine doneL (by kernel_rfl) ?_ _
        clear hHeld
        go_wp2
        refine ret_rr (p := 8) (q := 9) Tryd.results19 rfl rfl rfl rfl A9.out C9.out ?_
        exact ⟨by rw [HF.out], HH.out.symm ▸ B9.out⟩
    · refine ⟨_, rfl, fun K hK => ?_⟩
      go_simp
      obtain ⟨gb, hgq⟩ : ∃ n, n = X1.heap.size := ⟨_, rfl⟩
      have bx := gal1 X1 (.cells #[.int .i64 0, .int .i64 0, .int .u64 0, .int .i64 0, .int .u64 0] 32)
      have hB : Hid (IsB (X1.alloc (.cells #[.int .i64 0, .int .i64 0, .int .u64 0, .int .i64 0, .int .u64 0] 32)) gb zr.cells 32) := by show IsB _ _ _ _; rw [hgq]; exact IsB.new X1 _ _
      have hggb : Hid (WD.heap.size ≤ gb) := by show _ ≤ _; rw [hgq]; exact BC.out.size
      rw [← hgq]
      replace hRow := hide (hRow.out.below bx)
      replace BC := hide (BC.out.trans (bx.mono BC.out.size))
      clear bx
      generalize hXq : X1.alloc (.cells #[.int .i64 0, .int .i64 0, .int .u64 0, .int .i64 0, .int .u64 0] 32) = X2 at *
      clear hXq hgq
      refine hK.out _ _ ?_ ?_
      · exact SA.out _ BC.out
      clear hK K
      try simp only [Act.put, List.setIfInBounds_toArray, List.set_cons_zero, List.set_cons_succ]
      clear hHeld
      have hHeld : (fun w' => IsB w' HV #[.int .i64 k, .int .u64 p] 30 ∧ IsB w' H r.cells 32) X2 := SA.out _ BC.out
      refine manyL (L := [6, 11]) (by kernel_rfl) (by decide) (fun i hi => ?_)
      simp only [List.mem_cons, List.not_mem_nil, or_false] at hi
      rcases hi with rfl | rfl
      · refine ⟨_, rfl, fun K hK => ?_⟩
        go_simp
        refine (beside_doc vr _ hlen.out r.id X2 hRow.out).mono ?_
        rintro e X3 ⟨rfl, hb⟩
        clear hRow
        rw [HBS.out]
        replace BC := hide (BC.out.trans (hb.mono BC.out.size))
        replace hB := hide (hB.out.below hb)
        clear hb
        refine hK.out _ _ ?_ ?_
        · exact SA.out _ BC.out
        clear hK K
        skip
        clear hHeld
        have hHeld : (fun w' => IsB w' HV #[.int .i64 k, .int .u64 p] 30 ∧ IsB w' H r.cells 32) X3 := SA.out _ BC.out
        refine pickA (v := ?_) 7 (some 22) rfl rfl (by kernel_rfl) (by kernel_rfl) (by kernel_rfl) (by decide) (fun _ _ _ h => h) (by rfl) ?_ (by assumption) ?_
        rotate_left
        · intro w'
          go_simp
          try with_reducible rfl
        try simp only [Act.put, List.setIfInBounds_toArray, List.set_cons_zero, List.set_cons_succ]
        refine pickA (v := .agg #[.int .i64 a.id, .int .i64 a.rk, .int .u64 a.kn, .int .i64 a.ln, .int .u64 a.bt]) 8 (some 30) rfl rfl (by kernel_rfl) (by kernel_rfl) (by kernel_rfl) (by decide) (fun _ _ _ h => h) (by rfl) ?_ (by assumption) ?_
        · intro w'
          go_simp
          try rfl
        try simp only [Act.put, List.setIfInBounds_toArray, List.set_cons_zero, List.set_cons_succ]
        refine pickA (v := .agg #[.int .i64 b.id, .int .i64 b.rk, .int .u64 b.kn, .int .i64 b.ln, .int .u64 b.bt]) 9 (some 31) rfl rfl (by kernel_rfl) (by kernel_rfl) (by kernel_rfl) (by decide) (fun _ _ _ h => h) (by rfl) ?_ (by assumption) ?_
        · intro w'
          go_simp
          try rfl
        try simp only [Act.put, List.setIfInBounds_toArray, List.set_cons_zero, List.set_cons_succ]
        refine pickA (v := .bool ok) 10 (some 32) rfl rfl (by kernel_rfl) (by kernel_rfl) (by kernel_rfl) (by decide) (fun _ _ _ h => h) (by rfl) ?_ (by assumption) ?_
        · intro w'
          go_simp
          try rfl
        try simp only [Act.put, List.setIfInBounds_toArray, List.set_cons_zero, List.set_cons_succ]
        refine oneL (i := 11) (by kernel_rfl) rfl (fun K hK => ?_)
        go_simp
        obtain ⟨ga, hgq⟩ : ∃ n, n = X3.heap.size := ⟨_, rfl⟩
        have bx := gal1 X3 (.cells #[.int .i64 0, .int .i64 0, .int .u64 0, .int .i64 0, .int .u64 0] 32)
        have hA : Hid (IsB (X3.alloc (.cells #[.int .i64 0, .int .i64 0, .int .u64 0, .int .i64 0, .int .u64 0] 32)) ga zr.cells 32) := by show IsB _ _ _ _; rw [hgq]; exact IsB.new X3 _ _
        have hgga : Hid (WD.heap.size ≤ ga) := by show _ ≤ _; rw [hgq]; exact BC.out.size
        rw [← hgq]
        have hne : Hid (ga ≠ gb) := by have := hB.out.lt; show _ ≠ _; omega
        replace hB := hide (hB.out.below bx)
        replace BC := hide (BC.out.trans (bx.mono BC.out.size))
        clear bx
        generalize hXq : X3.alloc (.cells #[.int .i64 0, .int .i64 0, .int .u64 0, .int .i64 0, .int .u64 0] 32) = X4 at *
        clear hXq hgq
        refine hK.out _ _ ?_ ?_
        · exact SA.out _ BC.out
        clear hK K
        try simp only [Act.put, List.setIfInBounds_toArray, List.set_cons_zero, List.set_cons_succ]
        clear hHeld
        have hHeld : (fun w' => IsB w' HV #[.int .i64 k, .int .u64 p] 30 ∧ IsB w' H r.cells 32) X4 := SA.out _ BC.out
        refine oneL (i := 13) (by kernel_rfl) rfl (fun K hK => ?_)
        obtain ⟨X5, hs, hj, hk⟩ := st_ref hA.out a
        have HS := hide hs
        replace hA := hide hj
        replace hB := hide (hB.out.kp hk (by simpa using fun e => hne.out e.symm))
        replace BC := hide (BC.out.trans (hk.to_below BC.out.size (by simpa using hgga.out)))
        clear hs hj hk
        refine step_store_w rfl 32 (.tmp 12) (.tmp 30) rfl rfl rfl HS.out ?_
        clear HS
        refine hK.out _ _ ?_ ?_
        · exact SA.out _ BC.out
        clear hK K
        try simp only [Act.put, List.setIfInBounds_toArray]
        clear hHeld
        have hHeld : (fun w' => IsB w' HV #[.int .i64 k, .int .u64 p] 30 ∧ IsB w' H r.cells 32) X5 := SA.out _ BC.out
        refine oneL (i := 14) (by kernel_rfl) rfl (fun K hK => ?_)
        obtain ⟨X6, hs, hj, hk⟩ := st_ref hB.out b
        have HS := hide hs
        replace hB := hide hj
        replace hA := hide (hA.out.kp hk (by simpa using hne.out))
        replace BC := hide (BC.out.trans (hk.to_below BC.out.size (by simpa using hggb.out)))
        clear hs hj hk
        refine step_store_w rfl 32 (.tmp 13) (.tmp 31) rfl rfl rfl HS.out ?_
        clear HS
        refine hK.out _ _ ?_ ?_
        · exact SA.out _ BC.out
        clear hK K
        try simp only [Act.put]
        clear hHeld
        have hHeld : (fun w' => IsB w' HV #[.int .i64 k, .int .u64 p] 30 ∧ IsB w' H r.cells 32) X6 := SA.out _ BC.out
        refine pickA (v := ?_) 15 (some 14) rfl rfl (by kernel_rfl) (by kernel_rfl) (by kernel_rfl) (by decide) (fun _ _ _ h => h) (by rfl) ?_ (by assumption) ?_
        rotate_left
        · intro w'
          go_simp
          try with_reducible rfl
        try simp only [Act.put]
        refine doneL (by kernel_rfl) ?_ _
        clear hHeld
        have hHN2 : H + 1 + 1 < WD.heap.size := C.out.lt
        replace A := hide ((A.out.below BC.out).below (Below.refl _ _).drew)
        replace C := hide ((C.out.below BC.out).below (Below.refl _ _).drew)
        have Q1 := hide (hA.out.below (Below.refl _ _).drew)
        have Q2 := hide (hB.out.below (Below.refl _ _).drew)
        replace B := hide ((B.out.trans (BC.out.mono hHW)).drew)
        have hga2 := hgga.out
        have hgb2 := hggb.out
        clear BC SA RB hA hB hgga hggb hne
        go_wp2_with fail
        refine regionL 4 (fun w' => IsB w' ga a.cells 32 ∧ IsB w' gb b.cells 32) mixed ⟨Q1.out, Q2.out⟩ (fun hHeld => ?_)
        generalize X6.drew = WE at *
        obtain ⟨w6, hs6, A6, k6⟩ := st_ref A.out a
        have HS6 := hide hs6
        have C6 := C.out.kp k6 (by simp)
        obtain ⟨w7, hs7, C7, k7⟩ := st_ref C6 b
        have HS7 := hide hs7
        have A9 := hide (A6.kp k7 (by simp))
        have C9 := hide C7
        have B9 : Hid (Below H w w7) := (B.out.trans (k6.to_below (Nat.le_trans (Nat.le_of_eq HH.out.symm) B.out.size) (by simp))).trans (k7.to_below (Nat.le_trans (Nat.le_trans (Nat.le_of_eq HH.out.symm) B.out.size) k6.size) (by simp; omega))
        have Q3 := hide (Q1.out.kp k6 (by simp; omega))
        have Q4 := hide (Q2.out.kp k6 (by simp; omega))
        have Q5 := hide (Q3.out.kp k7 (by simp; omega))
        have Q6 := hide (Q4.out.kp k7 (by simp; omega))
        clear hs6 hs7 A6 C6 C7 k6 k7 A C Q1 Q2 hga2 hgb2 hHN2
        refine pickL (v := .agg #[.int .i64 a.id, .int .i64 a.rk, .int .u64 a.kn, .int .i64 a.ln, .int .u64 a.bt]) 0 (some 33) rfl rfl (by kernel_rfl) (by kernel_rfl) (by kernel_rfl) (by decide) (by kernel_rfl) (by kernel_rfl) (fun _ _ _ h => h) (by rfl) ?_ (by assumption) ?_
        · intro w' hSw
          obtain ⟨q0, q1⟩ := hSw
          exact exec_load rfl rfl (load_ref q0 rfl)
        try simp only [Act.put, List.setIfInBounds_toArray, List.set_cons_zero, List.set_cons_succ]
        refine pickL (v := .agg #[.int .i64 b.id, .int .i64 b.rk, .int .u64 b.kn, .int .i64 b.ln, .int .u64 b.bt]) 1 (some 34) rfl rfl (by kernel_rfl) (by kernel_rfl) (by kernel_rfl) (by decide) (by kernel_rfl) (by kernel_rfl) (fun _ _ _ h => h) (by rfl) ?_ (by assumption) ?_
        · intro w' hSw
          obtain ⟨q0, q1⟩ := hSw
          exact exec_load rfl rfl (load_ref q1 rfl)
        try simp only [Act.put, List.setIfInBounds_toArray, List.set_cons_zero, List.set_cons_succ]
        refine oneL (i := 2) (by kernel_rfl) rfl (fun K hK => ?_)
        refine step_store_w rfl 32 (.tmp 8) (.tmp 33) rfl rfl rfl HS6.out ?_
        refine hK.out _ _ ?_ ?_
        · exact ⟨Q3.out, Q4.out⟩
        clear hK K
        try simp only [Act.put, List.setIfInBounds_toArray]
        clear hHeld
        have hHeld : (fun w' => IsB w' ga a.cells 32 ∧ IsB w' gb b.cells 32) w6 := ⟨Q3.out, Q4.out⟩
        refine oneL (i := 3) (by kernel_rfl) rfl (fun K hK => ?_)
        refine step_store_w rfl 32 (.tmp 9) (.tmp 34) rfl rfl rfl HS7.out ?_
        refine hK.out _ _ ?_ ?_
        · exact ⟨Q5.out, Q6.out⟩
        clear hK K
        try simp only [Act.put]
        clear hHeld
        have hHeld : (fun w' => IsB w' ga a.cells 32 ∧ IsB w' gb b.cells 32) w7 := ⟨Q5.out, Q6.out⟩
        refine doneL (by kernel_rfl) ?_ _
        clear hHeld
        go_wp2
        refine ret_rr (p := 8) (q := 9) Tryd.results19 rfl rfl rfl rfl A9.out C9.out ?_
        exact ⟨by rw [HF.out], HH.out.symm ▸ B9.out⟩
      · refine ⟨_, rfl, fun K hK => ?_⟩
        go_simp
        obtain ⟨ga, hgq⟩ : ∃ n, n = X2.heap.size := ⟨_, rfl⟩
        have bx := gal1 X2 (.cells #[.int .i64 0, .int .i64 0, .int .u64 0, .int .i64 0, .int .u64 0] 32)
        have hA : Hid (IsB (X2.alloc (.cells #[.int .i64 0, .int .i64 0, .int .u64 0, .int .i64 0, .int .u64 0] 32)) ga zr.cells 32) := by show IsB _ _ _ _; rw [hgq]; exact IsB.new X2 _ _
        have hgga : Hid (WD.heap.size ≤ ga) := by show _ ≤ _; rw [hgq]; exact BC.out.size
        rw [← hgq]
        replace hRow := hide (hRow.out.below bx)
        have hne : Hid (ga ≠ gb) := by have := hB.out.lt; show _ ≠ _; omega
        replace hB := hide (hB.out.below bx)
        replace BC := hide (BC.out.trans (bx.mono BC.out.size))
        clear bx
        generalize hXq : X2.alloc (.cells #[.int .i64 0, .int .i64 0, .int .u64 0, .int .i64 0, .int .u64 0] 32) = X3 at *
        clear hXq hgq
        refine hK.out _ _ ?_ ?_
        · exact SA.out _ BC.out
        clear hK K
        try simp only [Act.put, List.setIfInBounds_toArray, List.set_cons_zero, List.set_cons_succ]
        clear hHeld
        have hHeld : (fun w' => IsB w' HV #[.int .i64 k, .int .u64 p] 30 ∧ IsB w' H r.cells 32) X3 := SA.out _ BC.out
        refine oneL (i := 6) (by kernel_rfl) rfl (fun K hK => ?_)
        go_simp
        refine (beside_doc vr _ hlen.out r.id X3 hRow.out).mono ?_
        rintro e X4 ⟨rfl, hb⟩
        clear hRow
        rw [HBS.out]
        replace BC := hide (BC.out.trans (hb.mono BC.out.size))
        replace hA := hide (hA.out.below hb)
        replace hB := hide (hB.out.below hb)
        clear hb
        refine hK.out _ _ ?_ ?_
        · exact SA.out _ BC.out
        clear hK K
        skip
        clear hHeld
        have hHeld : (fun w' => IsB w' HV #[.int .i64 k, .int .u64 p] 30 ∧ IsB w' H r.cells 32) X4 := SA.out _ BC.out
        refine pickA (v := ?_) 7 (some 22) rfl rfl (by kernel_rfl) (by kernel_rfl) (by kernel_rfl) (by decide) (fun _ _ _ h => h) (by rfl) ?_ (by assumption) ?_
        rotate_left
        · intro w'
          go_simp
          try with_reducible rfl
        try simp only [Act.put, List.setIfInBounds_toArray, List.set_cons_zero, List.set_cons_succ]
        refine pickA (v := .agg #[.int .i64 a.id, .int .i64 a.rk, .int .u64 a.kn, .int .i64 a.ln, .int .u64 a.bt]) 8 (some 30) rfl rfl (by kernel_rfl) (by kernel_rfl) (by kernel_rfl) (by decide) (fun _ _ _ h => h) (by rfl) ?_ (by assumption) ?_
        · intro w'
          go_simp
          try rfl
        try simp only [Act.put, List.setIfInBounds_toArray, List.set_cons_zero, List.set_cons_succ]
        refine pickA (v := .agg #[.int .i64 b.id, .int .i64 b.rk, .int .u64 b.kn, .int .i64 b.ln, .int .u64 b.bt]) 9 (some 31) rfl rfl (by kernel_rfl) (by kernel_rfl) (by kernel_rfl) (by decide) (fun _ _ _ h => h) (by rfl) ?_ (by assumption) ?_
        · intro w'
          go_simp
          try rfl
        try simp only [Act.put, List.setIfInBounds_toArray, List.set_cons_zero, List.set_cons_succ]
        refine pickA (v := .bool ok) 10 (some 32) rfl rfl (by kernel_rfl) (by kernel_rfl) (by kernel_rfl) (by decide) (fun _ _ _ h => h) (by rfl) ?_ (by assumption) ?_
        · intro w'
          go_simp
          try rfl
        try simp only [Act.put, List.setIfInBounds_toArray, List.set_cons_zero, List.set_cons_succ]
        refine oneL (i := 13) (by kernel_rfl) rfl (fun K hK => ?_)
        obtain ⟨X5, hs, hj, hk⟩ := st_ref hA.out a
        have HS := hide hs
        replace hA := hide hj
        replace hB := hide (hB.out.kp hk (by simpa using fun e => hne.out e.symm))
        replace BC := hide (BC.out.trans (hk.to_below BC.out.size (by simpa using hgga.out)))
        clear hs hj hk
        refine step_store_w rfl 32 (.tmp 12) (.tmp 30) rfl rfl rfl HS.out ?_
        clear HS
        refine hK.out _ _ ?_ ?_
        · exact SA.out _ BC.out
        clear hK K
        try simp only [Act.put, List.setIfInBounds_toArray]
        clear hHeld
        have hHeld : (fun w' => IsB w' HV #[.int .i64 k, .int .u64 p] 30 ∧ IsB w' H r.cells 32) X5 := SA.out _ BC.out
        refine oneL (i := 14) (by kernel_rfl) rfl (fun K hK => ?_)
        obtain ⟨X6, hs, hj, hk⟩ := st_ref hB.out b
        have HS := hide hs
        replace hB := hide hj
        replace hA := hide (hA.out.kp hk (by simpa using hne.out))
        replace BC := hide (BC.out.trans (hk.to_below BC.out.size (by simpa using hggb.out)))
        clear hs hj hk
        refine step_store_w rfl 32 (.tmp 13) (.tmp 31) rfl rfl rfl HS.out ?_
        clear HS
        refine hK.out _ _ ?_ ?_
        · exact SA.out _ BC.out
        clear hK K
        try simp only [Act.put]
        clear hHeld
        have hHeld : (fun w' => IsB w' HV #[.int .i64 k, .int .u64 p] 30 ∧ IsB w' H r.cells 32) X6 := SA.out _ BC.out
        refine pickA (v := ?_) 15 (some 14) rfl rfl (by kernel_rfl) (by kernel_rfl) (by kernel_rfl) (by decide) (fun _ _ _ h => h) (by rfl) ?_ (by assumption) ?_
        rotate_left
        · intro w'
          go_simp
          try with_reducible rfl
        try simp only [Act.put]
        refine doneL (by kernel_rfl) ?_ _
        clear hHeld
        have hHN2 : H + 1 + 1 < WD.heap.size := C.out.lt
        replace A := hide ((A.out.below BC.out).below (Below.refl _ _).drew)
        replace C := hide ((C.out.below BC.out).below (Below.refl _ _).drew)
        have Q1 := hide (hA.out.below (Below.refl _ _).drew)
        have Q2 := hide (hB.out.below (Below.refl _ _).drew)
        replace B := hide ((B.out.trans (BC.out.mono hHW)).drew)
        have hga2 := hgga.out
        have hgb2 := hggb.out
        clear BC SA RB hA hB hgga hggb hne
        go_wp2_with fail
        refine regionL 4 (fun w' => IsB w' ga a.cells 32 ∧ IsB w' gb b.cells 32) mixed ⟨Q1.out, Q2.out⟩ (fun hHeld => ?_)
        generalize X6.drew = WE at *
        obtain ⟨w6, hs6, A6, k6⟩ := st_ref A.out a
        have HS6 := hide hs6
        have C6 := C.out.kp k6 (by simp)
        obtain ⟨w7, hs7, C7, k7⟩ := st_ref C6 b
        have HS7 := hide hs7
        have A9 := hide (A6.kp k7 (by simp))
        have C9 := hide C7
        have B9 : Hid (Below H w w7) := (B.out.trans (k6.to_below (Nat.le_trans (Nat.le_of_eq HH.out.symm) B.out.size) (by simp))).trans (k7.to_below (Nat.le_trans (Nat.le_trans (Nat.le_of_eq HH.out.symm) B.out.size) k6.size) (by simp; omega))
        have Q3 := hide (Q1.out.kp k6 (by simp; omega))
        have Q4 := hide (Q2.out.kp k6 (by simp; omega))
        have Q5 := hide (Q3.out.kp k7 (by simp; omega))
        have Q6 := hide (Q4.out.kp k7 (by simp; omega))
        clear hs6 hs7 A6 C6 C7 k6 k7 A C Q1 Q2 hga2 hgb2 hHN2
        refine pickL (v := .agg #[.int .i64 a.id, .int .i64 a.rk, .int .u64 a.kn, .int .i64 a.ln, .int .u64 a.bt]) 0 (some 33) rfl rfl (by kernel_rfl) (by kernel_rfl) (by kernel_rfl) (by decide) (by kernel_rfl) (by kernel_rfl) (fun _ _ _ h => h) (by rfl) ?_ (by assumption) ?_
        · intro w' hSw
          obtain ⟨q0, q1⟩ := hSw
          exact exec_load rfl rfl (load_ref q0 rfl)
        try simp only [Act.put, List.setIfInBounds_toArray, List.set_cons_zero, List.set_cons_succ]
        refine pickL (v := .agg #[.int .i64 b.id, .int .i64 b.rk, .int .u64 b.kn, .int .i64 b.ln, .int .u64 b.bt]) 1 (some 34) rfl rfl (by kernel_rfl) (by kernel_rfl) (by kernel_rfl) (by decide) (by kernel_rfl) (by kernel_rfl) (fun _ _ _ h => h) (by rfl) ?_ (by assumption) ?_
        · intro w' hSw
          obtain ⟨q0, q1⟩ := hSw
          exact exec_load rfl rfl (load_ref q1 rfl)
        try simp only [Act.put, List.setIfInBounds_toArray, List.set_cons_zero, List.set_cons_succ]
        refine oneL (i := 2) (by kernel_rfl) rfl (fun K hK => ?_)
        refine step_store_w rfl 32 (.tmp 8) (.tmp 33) rfl rfl rfl HS6.out ?_
        refine hK.out _ _ ?_ ?_
        · exact ⟨Q3.out, Q4.out⟩
        clear hK K
        try simp only [Act.put, List.setIfInBounds_toArray]
        clear hHeld
        have hHeld : (fun w' => IsB w' ga a.cells 32 ∧ IsB w' gb b.cells 32) w6 := ⟨Q3.out, Q4.out⟩
        refine oneL (i := 3) (by kernel_rfl) rfl (fun K hK => ?_)
        refine step_store_w rfl 32 (.tmp 9) (.tmp 34) rfl rfl rfl HS7.out ?_
        refine hK.out _ _ ?_ ?_
        · exact ⟨Q5.out, Q6.out⟩
        clear hK K
        try simp only [Act.put]
        clear hHeld
        have hHeld : (fun w' => IsB w' ga a.cells 32 ∧ IsB w' gb b.cells 32) w7 := ⟨Q5.out, Q6.out⟩
        refine doneL (by kernel_rfl) ?_ _
        clear hHeld
        go_wp2
        refine ret_rr (p := 8) (q := 9) Tryd.results19 rfl rfl rfl rfl A9.out C9.out ?_
        exact ⟨by rw [HF.out], HH.out.symm ▸ B9.out⟩
  · refine ⟨_, rfl, fun K hK => ?_⟩
    go_simp
    obtain ⟨ga, hgq⟩ : ∃ n, n = WD.heap.size := ⟨_, rfl⟩
    have bx := gal1 WD (.cells #[.int .i64 0, .int .i64 0, .int .u64 0, .int .i64 0, .int .u64 0] 32)
    have hA : Hid (IsB (WD.alloc (.cells #[.int .i64 0, .int .i64 0, .int .u64 0, .int .i64 0, .int .u64 0] 32)) ga zr.cells 32) := by show IsB _ _ _ _; rw [hgq]; exact IsB.new WD _ _
    have hgga : Hid (WD.heap.size ≤ ga) := by show _ ≤ _; rw [hgq]; exact BC.out.size
    rw [← hgq]
    replace BC := hide (BC.out.trans (bx.mono BC.out.size))
    clear bx
    generalize hXq : WD.alloc (.cells #[.int .i64 0, .int .i64 0, .int .u64 0, .int .i64 0, .int .u64 0] 32) = X1 at *
    clear hXq hgq
    refine hK.out _ _ ?_ ?_
    · exact SA.out _ BC.out
    clear hK K
    try simp only [Act.put, List.setIfInBounds_toArray, List.set_cons_zero, List.set_cons_succ]
    clear hHeld
    have hHeld : (fun w' => IsB w' HV #[.int .i64 k, .int .u64 p] 30 ∧ IsB w' H r.cells 32) X1 := SA.out _ BC.out
    refine manyL (L := [3, 12]) (by kernel_rfl) (by decide) (fun i hi => ?_)
    simp only [List.mem_cons, List.not_mem_nil, or_false] at hi
    rcases hi with rfl | rfl
    · refine ⟨_, rfl, fun K hK => ?_⟩
      go_simp
      refine (row_doc h k p h0 h1 hp0 v l hl hbt X1 (RB.out _ BC.out)).mono ?_
      rintro e X2 ⟨vr, rfl, hrow, hb⟩
      have hRow : Hid (RSl X2 vr (nxRow h l k p)) := hrow.rsl
      clear hrow
      replace BC := hide (BC.out.trans (hb.mono BC.out.size))
      replace hA := hide (hA.out.below hb)
      clear hb
      refine hK.out _ _ ?_ ?_
      · exact SA.out _ BC.out
      clear hK K
      try simp only [Act.put, List.setIfInBounds_toArray, List.set_cons_zero, List.set_cons_succ]
      clear hHeld
      have hHeld : (fun w' => IsB w' HV #[.int .i64 k, .int .u64 p] 30 ∧ IsB w' H r.cells 32) X2 := SA.out _ BC.out
      refine manyL (L := [6, 12]) (by kernel_rfl) (by decide) (fun i hi => ?_)
      simp only [List.mem_cons, List.not_mem_nil, or_false] at hi
      rcases hi with rfl | rfl
      · refine ⟨_, rfl, fun K hK => ?_⟩
        go_simp
        refine (beside_doc vr _ hlen.out r.id X2 hRow.out).mono ?_
        rintro e X3 ⟨rfl, hb⟩
        clear hRow
        rw [HBS.out]
        replace BC := hide (BC.out.trans (hb.mono BC.out.size))
        replace hA := hide (hA.out.below hb)
        clear hb
        refine hK.out _ _ ?_ ?_
        · exact SA.out _ BC.out
        clear hK K
        skip
        clear hHeld
        have hHeld : (fun w' => IsB w' HV #[.int .i64 k, .int .u64 p] 30 ∧ IsB w' H r.cells 32) X3 := SA.out _ BC.out
        refine pickA (v := ?_) 7 (some 22) rfl rfl (by kernel_rfl) (by kernel_rfl) (by kernel_rfl) (by decide) (fun _ _ _ h => h) (by rfl) ?_ (by assumption) ?_
        rotate_left
        · intro w'
          go_simp
          try with_reducible rfl
        try simp only [Act.put, List.setIfInBounds_toArray, List.set_cons_zero, List.set_cons_succ]
        refine pickA (v := .agg #[.int .i64 a.id, .int .i64 a.rk, .int .u64 a.kn, .int .i64 a.ln, .int .u64 a.bt]) 8 (some 30) rfl rfl (by kernel_rfl) (by kernel_rfl) (by kernel_rfl) (by decide) (fun _ _ _ h => h) (by rfl) ?_ (by assumption) ?_
        · intro w'
          go_simp
          try rfl
        try simp only [Act.put, List.setIfInBounds_toArray, List.set_cons_zero, List.set_cons_succ]
        refine pickA (v := .agg #[.int .i64 b.id, .int .i64 b.rk, .int .u64 b.kn, .int .i64 b.ln, .int .u64 b.bt]) 9 (some 31) rfl rfl (by kernel_rfl) (by kernel_rfl) (by kernel_rfl) (by decide) (fun _ _ _ h => h) (by rfl) ?_ (by assumption) ?_
        · intro w'
          go_simp
          try rfl
        try simp only [Act.put, List.setIfInBounds_toArray, List.set_cons_zero, List.set_cons_succ]
        refine pickA (v := .bool ok) 10 (some 32) rfl rfl (by kernel_rfl) (by kernel_rfl) (by kernel_rfl) (by decide) (fun _ _ _ h => h) (by rfl) ?_ (by assumption) ?_
        · intro w'
          go_simp
          try rfl
        try simp only [Act.put, List.setIfInBounds_toArray, List.set_cons_zero, List.set_cons_succ]
        refine oneL (i := 12) (by kernel_rfl) rfl (fun K hK => ?_)
        go_simp
        obtain ⟨gb, hgq⟩ : ∃ n, n = X3.heap.size := ⟨_, rfl⟩
        have bx := gal1 X3 (.cells #[.int .i64 0, .int .i64 0, .int .u64 0, .int .i64 0, .int .u64 0] 32)
        have hB : Hid (IsB (X3.alloc (.cells #[.int .i64 0, .int .i64 0, .int .u64 0, .int .i64 0, .int .u64 0] 32)) gb zr.cells 32) := by show IsB _ _ _ _; rw [hgq]; exact IsB.new X3 _ _
        have hggb : Hid (WD.heap.size ≤ gb) := by show _ ≤ _; rw [hgq]; exact BC.out.size
        rw [← hgq]
        have hne : Hid (ga ≠ gb) := by have := hA.out.lt; show _ ≠ _; omega
        replace hA := hide (hA.out.below bx)
        replace BC := hide (BC.out.trans (bx.mono BC.out.size))
        clear bx
        generalize hXq : X3.alloc (.cells #[.int .i64 0, .int .i64 0, .int .u64 0, .int .i64 0, .int .u64 0] 32) = X4 at *
        clear hXq hgq
        refine hK.out _ _ ?_ ?_
        · exact SA.out _ BC.out
        clear hK K
        try simp only [Act.put, List.setIfInBounds_toArray, List.set_cons_zero, List.set_cons_succ]
        clear hHeld
        have hHeld : (fun w' => IsB w' HV #[.int .i64 k, .int .u64 p] 30 ∧ IsB w' H r.cells 32) X4 := SA.out _ BC.out
        refine oneL (i := 13) (by kernel_rfl) rfl (fun K hK => ?_)
        obtain ⟨X5, hs, hj, hk⟩ := st_ref hA.out a
        have HS := hide hs
        replace hA := hide hj
        replace hB := hide (hB.out.kp hk (by simpa using fun e => hne.out e.symm))
        replace BC := hide (BC.out.trans (hk.to_below BC.out.size (by simpa using hgga.out)))
        clear hs hj hk
        refine step_store_w rfl 32 (.tmp 12) (.tmp 30) rfl rfl rfl HS.out ?_
        clear HS
        refine hK.out _ _ ?_ ?_
        · exact SA.out _ BC.out
        clear hK K
        try simp only [Act.put, List.setIfInBounds_toArray]
        clear hHeld
        have hHeld : (fun w' => IsB w' HV #[.int .i64 k, .int .u64 p] 30 ∧ IsB w' H r.cells 32) X5 := SA.out _ BC.out
        refine oneL (i := 14) (by kernel_rfl) rfl (fun K hK => ?_)
        obtain ⟨X6, hs, hj, hk⟩ := st_ref hB.out b
        have HS := hide hs
        replace hB := hide hj
        replace hA := hide (hA.out.kp hk (by simpa using hne.out))
        replace BC := hide (BC.out.trans (hk.to_below BC.out.size (by simpa using hggb.out)))
        clear hs hj hk
        refine step_store_w rfl 32 (.tmp 13) (.tmp 31) rfl rfl rfl HS.out ?_
        clear HS
        refine hK.out _ _ ?_ ?_
        · exact SA.out _ BC.out
        clear hK K
        try simp only [Act.put]
        clear hHeld
        have hHeld : (fun w' => IsB w' HV #[.int .i64 k, .int .u64 p] 30 ∧ IsB w' H r.cells 32) X6 := SA.out _ BC.out
        refine pickA (v := ?_) 15 (some 14) rfl rfl (by kernel_rfl) (by kernel_rfl) (by kernel_rfl) (by decide) (fun _ _ _ h => h) (by rfl) ?_ (by assumption) ?_
        rotate_left
        · intro w'
          go_simp
          try with_reducible rfl
        try simp only [Act.put]
        refine doneL (by kernel_rfl) ?_ _
        clear hHeld
        have hHN2 : H + 1 + 1 < WD.heap.size := C.out.lt
        replace A := hide ((A.out.below BC.out).below (Below.refl _ _).drew)
        replace C := hide ((C.out.below BC.out).below (Below.refl _ _).drew)
        have Q1 := hide (hA.out.below (Below.refl _ _).drew)
        have Q2 := hide (hB.out.below (Below.refl _ _).drew)
        replace B := hide ((B.out.trans (BC.out.mono hHW)).drew)
        have hga2 := hgga.out
        have hgb2 := hggb.out
        clear BC SA RB hA hB hgga hggb hne
        go_wp2_with fail
        refine regionL 4 (fun w' => IsB w' ga a.cells 32 ∧ IsB w' gb b.cells 32) mixed ⟨Q1.out, Q2.out⟩ (fun hHeld => ?_)
        generalize X6.drew = WE at *
        obtain ⟨w6, hs6, A6, k6⟩ := st_ref A.out a
        have HS6 := hide hs6
        have C6 := C.out.kp k6 (by simp)
        obtain ⟨w7, hs7, C7, k7⟩ := st_ref C6 b
        have HS7 := hide hs7
        have A9 := hide (A6.kp k7 (by simp))
        have C9 := hide C7
        have B9 : Hid (Below H w w7) := (B.out.trans (k6.to_below (Nat.le_trans (Nat.le_of_eq HH.out.symm) B.out.size) (by simp))).trans (k7.to_below (Nat.le_trans (Nat.le_trans (Nat.le_of_eq HH.out.symm) B.out.size) k6.size) (by simp; omega))
        have Q3 := hide (Q1.out.kp k6 (by simp; omega))
        have Q4 := hide (Q2.out.kp k6 (by simp; omega))
        have Q5 := hide (Q3.out.kp k7 (by simp; omega))
        have Q6 := hide (Q4.out.kp k7 (by simp; omega))
        clear hs6 hs7 A6 C6 C7 k6 k7 A C Q1 Q2 hga2 hgb2 hHN2
        refine pickL (v := .agg #[.int .i64 a.id, .int .i64 a.rk, .int .u64 a.kn, .int .i64 a.ln, .int .u64 a.bt]) 0 (some 33) rfl rfl (by kernel_rfl) (by kernel_rfl) (by kernel_rfl) (by decide) (by kernel_rfl) (by kernel_rfl) (fun _ _ _ h => h) (by rfl) ?_ (by assumption) ?_
        · intro w' hSw
          obtain ⟨q0, q1⟩ := hSw
          exact exec_load rfl rfl (load_ref q0 rfl)
        try simp only [Act.put, List.setIfInBounds_toArray, List.set_cons_zero, List.set_cons_succ]
        refine pickL (v := .agg #[.int .i64 b.id, .int .i64 b.rk, .int .u64 b.kn, .int .i64 b.ln, .int .u64 b.bt]) 1 (some 34) rfl rfl (by kernel_rfl) (by kernel_rfl) (by kernel_rfl) (by decide) (by kernel_rfl) (by kernel_rfl) (fun _ _ _ h => h) (by rfl) ?_ (by assumption) ?_
        · intro w' hSw
          obtain ⟨q0, q1⟩ := hSw
          exact exec_load rfl rfl (load_ref q1 rfl)
        try simp only [Act.put, List.setIfInBounds_toArray, List.set_cons_zero, List.set_cons_succ]
        refine oneL (i := 2) (by kernel_rfl) rfl (fun K hK => ?_)
        refine step_store_w rfl 32 (.tmp 8) (.tmp 33) rfl rfl rfl HS6.out ?_
        refine hK.out _ _ ?_ ?_
        · exact ⟨Q3.out, Q4.out⟩
        clear hK K
        try simp only [Act.put, List.setIfInBounds_toArray]
        clear hHeld
        have hHeld : (fun w' => IsB w' ga a.cells 32 ∧ IsB w' gb b.cells 32) w6 := ⟨Q3.out, Q4.out⟩
        refine oneL (i := 3) (by kernel_rfl) rfl (fun K hK => ?_)
        refine step_store_w rfl 32 (.tmp 9) (.tmp 34) rfl rfl rfl HS7.out ?_
        refine hK.out _ _ ?_ ?_
        · exact ⟨Q5.out, Q6.out⟩
        clear hK K
        try simp only [Act.put]
        clear hHeld
        have hHeld : (fun w' => IsB w' ga a.cells 32 ∧ IsB w' gb b.cells 32) w7 := ⟨Q5.out, Q6.out⟩
        refine doneL (by kernel_rfl) ?_ _
        clear hHeld
        go_wp2
        refine ret_rr (p := 8) (q := 9) Tryd.results19 rfl rfl rfl rfl A9.out C9.out ?_
        exact ⟨by rw [HF.out], HH.out.symm ▸ B9.out⟩
      · refine ⟨_, rfl, fun K hK => ?_⟩
        go_simp
        obtain ⟨gb, hgq⟩ : ∃ n, n = X2.heap.size := ⟨_, rfl⟩
        have bx := gal1 X2 (.cells #[.int .i64 0, .int .i64 0, .int .u64 0, .int .i64 0, .int .u64 0] 32)
        have hB : Hid (IsB (X2.alloc (.cells #[.int .i64 0, .int .i64 0, .int .u64 0, .int .i64 0, .int .u64 0] 32)) gb zr.cells 32) := by show IsB _ _ _ _; rw [hgq]; exact IsB.new X2 _ _
        have hggb : Hid (WD.heap.size ≤ gb) := by show _ ≤ _; rw [hgq]; exact BC.out.size
        rw [← hgq]
        replace hRow := hide (hRow.out.below bx)
        have hne : Hid (ga ≠ gb) := by have := hA.out.lt; show _ ≠ _; omega
        replace hA := hide (hA.out.below bx)
        replace BC := hide (BC.out.trans (bx.mono BC.out.size))
        clear bx
        generalize hXq : X2.alloc (.cells #[.int .i64 0, .int .i64 0, .int .u64 0, .int .i64 0, .int .u64 0] 32) = X3 at *
        clear hXq hgq
        refine hK.out _ _ ?_ ?_
        · exact SA.out _ BC.out
        clear hK K
        try simp only [Act.put, List.setIfInBounds_toArray, List.set_cons_zero, List.set_cons_succ]
        clear hHeld
        have hHeld : (fun w' => IsB w' HV #[.int .i64 k, .int .u64 p] 30 ∧ IsB w' H r.cells 32) X3 := SA.out _ BC.out
        refine oneL (i := 6) (by kernel_rfl) rfl (fun K hK => ?_)
        go_simp
        refine (beside_doc vr _ hlen.out r.id X3 hRow.out).mono ?_
        rintro e X4 ⟨rfl, hb⟩
        clear hRow
        rw [HBS.out]
        replace BC := hide (BC.out.trans (hb.mono BC.out.size))
        replace hA := hide (hA.out.below hb)
        replace hB := hide (hB.out.below hb)
        clear hb
        refine hK.out _ _ ?_ ?_
        · exact SA.out _ BC.out
        clear hK K
        skip
        clear hHeld
        have hHeld : (fun w' => IsB w' HV #[.int .i64 k, .int .u64 p] 30 ∧ IsB w' H r.cells 32) X4 := SA.out _ BC.out
        refine pickA (v := ?_) 7 (some 22) rfl rfl (by kernel_rfl) (by kernel_rfl) (by kernel_rfl) (by decide) (fun _ _ _ h => h) (by rfl) ?_ (by assumption) ?_
        rotate_left
        · intro w'
          go_simp
          try with_reducible rfl
        try simp only [Act.put, List.setIfInBounds_toArray, List.set_cons_zero, List.set_cons_succ]
        refine pickA (v := .agg #[.int .i64 a.id, .int .i64 a.rk, .int .u64 a.kn, .int .i64 a.ln, .int .u64 a.bt]) 8 (some 30) rfl rfl (by kernel_rfl) (by kernel_rfl) (by kernel_rfl) (by decide) (fun _ _ _ h => h) (by rfl) ?_ (by assumption) ?_
        · intro w'
          go_simp
          try rfl
        try simp only [Act.put, List.setIfInBounds_toArray, List.set_cons_zero, List.set_cons_succ]
        refine pickA (v := .agg #[.int .i64 b.id, .int .i64 b.rk, .int .u64 b.kn, .int .i64 b.ln, .int .u64 b.bt]) 9 (some 31) rfl rfl (by kernel_rfl) (by kernel_rfl) (by kernel_rfl) (by decide) (fun _ _ _ h => h) (by rfl) ?_ (by assumption) ?_
        · intro w'
          go_simp
          try rfl
        try simp only [Act.put, List.setIfInBounds_toArray, List.set_cons_zero, List.set_cons_succ]
        refine pickA (v := .bool ok) 10 (some 32) rfl rfl (by kernel_rfl) (by kernel_rfl) (by kernel_rfl) (by decide) (fun _ _ _ h => h) (by rfl) ?_ (by assumption) ?_
        · intro w'
          go_simp
          try rfl
        try simp only [Act.put, List.setIfInBounds_toArray, List.set_cons_zero, List.set_cons_succ]
        refine oneL (i := 13) (by kernel_rfl) rfl (fun K hK => ?_)
        obtain ⟨X5, hs, hj, hk⟩ := st_ref hA.out a
        have HS := hide hs
        replace hA := hide hj
        replace hB := hide (hB.out.kp hk (by simpa using fun e => hne.out e.symm))
        replace BC := hide (BC.out.trans (hk.to_below BC.out.size (by simpa using hgga.out)))
        clear hs hj hk
        refine step_store_w rfl 32 (.tmp 12) (.tmp 30) rfl rfl rfl HS.out ?_
        clear HS
        refine hK.out _ _ ?_ ?_
        · exact SA.out _ BC.out
        clear hK K
        try simp only [Act.put, List.setIfInBounds_toArray]
        clear hHeld
        have hHeld : (fun w' => IsB w' HV #[.int .i64 k, .int .u64 p] 30 ∧ IsB w' H r.cells 32) X5 := SA.out _ BC.out
        refine oneL (i := 14) (by kernel_rfl) rfl (fun K hK => ?_)
        obtain ⟨X6, hs, hj, hk⟩ := st_ref hB.out b
        have HS := hide hs
        replace hB := hide hj
        replace hA := hide (hA.out.kp hk (by simpa using hne.out))
        replace BC := hide (BC.out.trans (hk.to_below BC.out.size (by simpa using hggb.out)))
        clear hs hj hk
        refine step_store_w rfl 32 (.tmp 13) (.tmp 31) rfl rfl rfl HS.out ?_
        clear HS
        refine hK.out _ _ ?_ ?_
        · exact SA.out _ BC.out
        clear hK K
        try simp only [Act.put]
        clear hHeld
        have hHeld : (fun w' => IsB w' HV #[.int .i64 k, .int .u64 p] 30 ∧ IsB w' H r.cells 32) X6 := SA.out _ BC.out
        refine pickA (v := ?_) 15 (some 14) rfl rfl (by kernel_rfl) (by kernel_rfl) (by kernel_rfl) (by decide) (fun _ _ _ h => h) (by rfl) ?_ (by assumption) ?_
        rotate_left
        · intro w'
          go_simp
          try with_reducible rfl
        try simp only [Act.put]
        refine doneL (by kernel_rfl) ?_ _
        clear hHeld
        have hHN2 : H + 1 + 1 < WD.heap.size := C.out.lt
        replace A := hide ((A.out.below BC.out).below (Below.refl _ _).drew)
        replace C := hide ((C.out.below BC.out).below (Below.refl _ _).drew)
        have Q1 := hide (hA.out.below (Below.refl _ _).drew)
        have Q2 := hide (hB.out.below (Below.refl _ _).drew)
        replace B := hide ((B.out.trans (BC.out.mono hHW)).drew)
        have hga2 := hgga.out
        have hgb2 := hggb.out
        clear BC SA RB hA hB hgga hggb hne
        go_wp2_with fail
        refine regionL 4 (fun w' => IsB w' ga a.cells 32 ∧ IsB w' gb b.cells 32) mixed ⟨Q1.out, Q2.out⟩ (fun hHeld => ?_)
        generalize X6.drew = WE at *
        obtain ⟨w6, hs6, A6, k6⟩ := st_ref A.out a
        have HS6 := hide hs6
        have C6 := C.out.kp k6 (by simp)
        obtain ⟨w7, hs7, C7, k7⟩ := st_ref C6 b
        have HS7 := hide hs7
        have A9 := hide (A6.kp k7 (by simp))
        have C9 := hide C7
        have B9 : Hid (Below H w w7) := (B.out.trans (k6.to_below (Nat.le_trans (Nat.le_of_eq HH.out.symm) B.out.size) (by simp))).trans (k7.to_below (Nat.le_trans (Nat.le_trans (Nat.le_of_eq HH.out.symm) B.out.size) k6.size) (by simp; omega))
        have Q3 := hide (Q1.out.kp k6 (by simp; omega))
        have Q4 := hide (Q2.out.kp k6 (by simp; omega))
        have Q5 := hide (Q3.out.kp k7 (by simp; omega))
        have Q6 := hide (Q4.out.kp k7 (by simp; omega))
        clear hs6 hs7 A6 C6 C7 k6 k7 A C Q1 Q2 hga2 hgb2 hHN2
        refine pickL (v := .agg #[.int .i64 a.id, .int .i64 a.rk, .int .u64 a.kn, .int .i64 a.ln, .int .u64 a.bt]) 0 (some 33) rfl rfl (by kernel_rfl) (by kernel_rfl) (by kernel_rfl) (by decide) (by kernel_rfl) (by kernel_rfl) (fun _ _ _ h => h) (by rfl) ?_ (by assumption) ?_
        · intro w' hSw
          obtain ⟨q0, q1⟩ := hSw
          exact exec_load rfl rfl (load_ref q0 rfl)
        try simp only [Act.put, List.setIfInBounds_toArray, List.set_cons_zero, List.set_cons_succ]
        refine pickL (v := .agg #[.int .i64 b.id, .int .i64 b.rk, .int .u64 b.kn, .int .i64 b.ln, .int .u64 b.bt]) 1 (some 34) rfl rfl (by kernel_rfl) (by kernel_rfl) (by kernel_rfl) (by decide) (by kernel_rfl) (by kernel_rfl) (fun _ _ _ h => h) (by rfl) ?_ (by assumption) ?_
        · intro w' hSw
          obtain ⟨q0, q1⟩ := hSw
          exact exec_load rfl rfl (load_ref q1 rfl)
        try simp only [Act.put, List.setIfInBounds_toArray, List.set_cons_zero, List.set_cons_succ]
        refine oneL (i := 2) (by kernel_rfl) rfl (fun K hK => ?_)
        refine step_store_w rfl 32 (.tmp 8) (.tmp 33) rfl rfl rfl HS6.out ?_
        refine hK.out _ _ ?_ ?_
        · exact ⟨Q3.out, Q4.out⟩
        clear hK K
        try simp only [Act.put, List.setIfInBounds_toArray]
        clear hHeld
        have hHeld : (fun w' => IsB w' ga a.cells 32 ∧ IsB w' gb b.cells 32) w6 := ⟨Q3.out, Q4.out⟩
        refine oneL (i := 3) (by kernel_rfl) rfl (fun K hK => ?_)
        refine step_store_w rfl 32 (.tmp 9) (.tmp 34) rfl rfl rfl HS7.out ?_
        refine hK.out _ _ ?_ ?_
        · exact ⟨Q5.out, Q6.out⟩
        clear hK K
        try simp only [Act.put]
        clear hHeld
        have hHeld : (fun w' => IsB w' ga a.cells 32 ∧ IsB w' gb b.cells 32) w7 := ⟨Q5.out, Q6.out⟩
        refine doneL (by kernel_rfl) ?_ _
        clear hHeld
        go_wp2
        refine ret_rr (p := 8) (q := 9) Tryd.results19 rfl rfl rfl rfl A9.out C9.out ?_
        exact ⟨by rw [HF.out], HH.out.symm ▸ B9.out⟩
    · refine ⟨_, rfl, fun K hK => ?_⟩
      go_simp
      obtain ⟨gb, hgq⟩ : ∃ n, n = X1.heap.size := ⟨_, rfl⟩
      have bx := gal1 X1 (.cells #[.int .i64 0, .int .i64 0, .int .u64 0, .int .i64 0, .int .u64 0] 32)
      have hB : Hid (IsB (X1.alloc (.cells #[.int .i64 0, .int .i64 0, .int .u64 0, .int .i64 0, .int .u64 0] 32)) gb zr.cells 32) := by show IsB _ _ _ _; rw [hgq]; exact IsB.new X1 _ _
      have hggb : Hid (WD.heap.size ≤ gb) := by show _ ≤ _; rw [hgq]; exact BC.out.size
      rw [← hgq]
      have hne : Hid (ga ≠ gb) := by have := hA.out.lt; show _ ≠ _; omega
      replace hA := hide (hA.out.below bx)
      replace BC := hide (BC.out.trans (bx.mono BC.out.size))
      clear bx
      generalize hXq : X1.alloc (.cells #[.int .i64 0, .int .i64 0, .int .u64 0, .int .i64 0, .int .u64 0] 32) = X2 at *
      clear hXq hgq
      refine hK.out _ _ ?_ ?_
      · exact SA.out _ BC.out
      clear hK K
      try simp only [Act.put, List.setIfInBounds_toArray, List.set_cons_zero, List.set_cons_succ]
      clear hHeld
      have hHeld : (fun w' => IsB w' HV #[.int .i64 k, .int .u64 p] 30 ∧ IsB w' H r.cells 32) X2 := SA.out _ BC.out
      refine oneL (i := 3) (by kernel_rfl) rfl (fun K hK => ?_)
      go_simp
      refine (row_doc h k p h0 h1 hp0 v l hl hbt X2 (RB.out _ BC.out)).mono ?_
      rintro e X3 ⟨vr, rfl, hrow, hb⟩
      have hRow : Hid (RSl X3 vr (nxRow h l k p)) := hrow.rsl
      clear hrow
      replace BC := hide (BC.out.trans (hb.mono BC.out.size))
      replace hA := hide (hA.out.below hb)
      replace hB := hide (hB.out.below hb)
      clear hb
      refine hK.out _ _ ?_ ?_
      · exact SA.out _ BC.out
      clear hK K
      try simp only [Act.put, List.setIfInBounds_toArray, List.set_cons_zero, List.set_cons_succ]
      clear hHeld
      have hHeld : (fun w' => IsB w' HV #[.int .i64 k, .int .u64 p] 30 ∧ IsB w' H r.cells 32) X3 := SA.out _ BC.out
      refine oneL (i := 6) (by kernel_rfl) rfl (fun K hK => ?_)
      go_simp
      refine (beside_doc vr _ hlen.out r.id X3 hRow.out).mono ?_
      rintro e X4 ⟨rfl, hb⟩
      clear hRow
      rw [HBS.out]
      replace BC := hide (BC.out.trans (hb.mono BC.out.size))
      replace hA := hide (hA.out.below hb)
      replace hB := hide (hB.out.below hb)
      clear hb
      refine hK.out _ _ ?_ ?_
      · exact SA.out _ BC.out
      clear hK K
      skip
      clear hHeld
      have hHeld : (fun w' => IsB w' HV #[.int .i64 k, .int .u64 p] 30 ∧ IsB w' H r.cells 32) X4 := SA.out _ BC.out
      refine pickA (v := ?_) 7 (some 22) rfl rfl (by kernel_rfl) (by kernel_rfl) (by kernel_rfl) (by decide) (fun _ _ _ h => h) (by rfl) ?_ (by assumption) ?_
      rotate_left
      · intro w'
        go_simp
        try with_reducible rfl
      try simp only [Act.put, List.setIfInBounds_toArray, List.set_cons_zero, List.set_cons_succ]
      refine pickA (v := .agg #[.int .i64 a.id, .int .i64 a.rk, .int .u64 a.kn, .int .i64 a.ln, .int .u64 a.bt]) 8 (some 30) rfl rfl (by kernel_rfl) (by kernel_rfl) (by kernel_rfl) (by decide) (fun _ _ _ h => h) (by rfl) ?_ (by assumption) ?_
      · intro w'
        go_simp
        try rfl
      try simp only [Act.put, List.setIfInBounds_toArray, List.set_cons_zero, List.set_cons_succ]
      refine pickA (v := .agg #[.int .i64 b.id, .int .i64 b.rk, .int .u64 b.kn, .int .i64 b.ln, .int .u64 b.bt]) 9 (some 31) rfl rfl (by kernel_rfl) (by kernel_rfl) (by kernel_rfl) (by decide) (fun _ _ _ h => h) (by rfl) ?_ (by assumption) ?_
      · intro w'
        go_simp
        try rfl
      try simp only [Act.put, List.setIfInBounds_toArray, List.set_cons_zero, List.set_cons_succ]
      refine pickA (v := .bool ok) 10 (some 32) rfl rfl (by kernel_rfl) (by kernel_rfl) (by kernel_rfl) (by decide) (fun _ _ _ h => h) (by rfl) ?_ (by assumption) ?_
      · intro w'
        go_simp
        try rfl
      try simp only [Act.put, List.setIfInBounds_toArray, List.set_cons_zero, List.set_cons_succ]
      refine oneL (i := 13) (by kernel_rfl) rfl (fun K hK => ?_)
      obtain ⟨X5, hs, hj, hk⟩ := st_ref hA.out a
      have HS := hide hs
      replace hA := hide hj
      replace hB := hide (hB.out.kp hk (by simpa using fun e => hne.out e.symm))
      replace BC := hide (BC.out.trans (hk.to_below BC.out.size (by simpa using hgga.out)))
      clear hs hj hk
      refine step_store_w rfl 32 (.tmp 12) (.tmp 30) rfl rfl rfl HS.out ?_
      clear HS
      refine hK.out _ _ ?_ ?_
      · exact SA.out _ BC.out
      clear hK K
      try simp only [Act.put, List.setIfInBounds_toArray]
      clear hHeld
      have hHeld : (fun w' => IsB w' HV #[.int .i64 k, .int .u64 p] 30 ∧ IsB w' H r.cells 32) X5 := SA.out _ BC.out
      refine oneL (i := 14) (by kernel_rfl) rfl (fun K hK => ?_)
      obtain ⟨X6, hs, hj, hk⟩ := st_ref hB.out b
      have HS := hide hs
      replace hB := hide hj
      replace hA := hide (hA.out.kp hk (by simpa using hne.out))
      replace BC := hide (BC.out.trans (hk.to_below BC.out.size (by simpa using hggb.out)))
      clear hs hj hk
      refine step_store_w rfl 32 (.tmp 13) (.tmp 31) rfl rfl rfl HS.out ?_
      clear HS
      refine hK.out _ _ ?_ ?_
      · exact SA.out _ BC.out
      clear hK K
      try simp only [Act.put]
      clear hHeld
      have hHeld : (fun w' => IsB w' HV #[.int .i64 k, .int .u64 p] 30 ∧ IsB w' H r.cells 32) X6 := SA.out _ BC.out
      refine pickA (v := ?_) 15 (some 14) rfl rfl (by kernel_rfl) (by kernel_rfl) (by kernel_rfl) (by decide) (fun _ _ _ h => h) (by rfl) ?_ (by assumption) ?_
      rotate_left
      · intro w'
        go_simp
        try with_reducible rfl
      try simp only [Act.put]
      refine doneL (by kernel_rfl) ?_ _
      clear hHeld
      have hHN2 : H + 1 + 1 < WD.heap.size := C.out.lt
      replace A := hide ((A.out.below BC.out).below (Below.refl _ _).drew)
      replace C := hide ((C.out.below BC.out).below (Below.refl _ _).drew)
      have Q1 := hide (hA.out.below (Below.refl _ _).drew)
      have Q2 := hide (hB.out.below (Below.refl _ _).drew)
      replace B := hide ((B.out.trans (BC.out.mono hHW)).drew)
      have hga2 := hgga.out
      have hgb2 := hggb.out
      clear BC SA RB hA hB hgga hggb hne
      go_wp2_with fail
      refine regionL 4 (fun w' => IsB w' ga a.cells 32 ∧ IsB w' gb b.cells 32) mixed ⟨Q1.out, Q2.out⟩ (fun hHeld => ?_)
      generalize X6.drew = WE at *
      obtain ⟨w6, hs6, A6, k6⟩ := st_ref A.out a
      have HS6 := hide hs6
      have C6 := C.out.kp k6 (by simp)
      obtain ⟨w7, hs7, C7, k7⟩ := st_ref C6 b
      have HS7 := hide hs7
      have A9 := hide (A6.kp k7 (by simp))
      have C9 := hide C7
      have B9 : Hid (Below H w w7) := (B.out.trans (k6.to_below (Nat.le_trans (Nat.le_of_eq HH.out.symm) B.out.size) (by simp))).trans (k7.to_below (Nat.le_trans (Nat.le_trans (Nat.le_of_eq HH.out.symm) B.out.size) k6.size) (by simp; omega))
      have Q3 := hide (Q1.out.kp k6 (by simp; omega))
      have Q4 := hide (Q2.out.kp k6 (by simp; omega))
      have Q5 := hide (Q3.out.kp k7 (by simp; omega))
      have Q6 := hide (Q4.out.kp k7 (by simp; omega))
      clear hs6 hs7 A6 C6 C7 k6 k7 A C Q1 Q2 hga2 hgb2 hHN2
      refine pickL (v := .agg #[.int .i64 a.id, .int .i64 a.rk, .int .u64 a.kn, .int .i64 a.ln, .int .u64 a.bt]) 0 (some 33) rfl rfl (by kernel_rfl) (by kernel_rfl) (by kernel_rfl) (by decide) (by kernel_rfl) (by kernel_rfl) (fun _ _ _ h => h) (by rfl) ?_ (by assumption) ?_
      · intro w' hSw
        obtain ⟨q0, q1⟩ := hSw
        exact exec_load rfl rfl (load_ref q0 rfl)
      try simp only [Act.put, List.setIfInBounds_toArray, List.set_cons_zero, List.set_cons_succ]
      refine pickL (v := .agg #[.int .i64 b.id, .int .i64 b.rk, .int .u64 b.kn, .int .i64 b.ln, .int .u64 b.bt]) 1 (some 34) rfl rfl (by kernel_rfl) (by kernel_rfl) (by kernel_rfl) (by decide) (by kernel_rfl) (by kernel_rfl) (fun _ _ _ h => h) (by rfl) ?_ (by assumption) ?_
      · intro w' hSw
        obtain ⟨q0, q1⟩ := hSw
        exact exec_load rfl rfl (load_ref q1 rfl)
      try simp only [Act.put, List.setIfInBounds_toArray, List.set_cons_zero, List.set_cons_succ]
      refine oneL (i := 2) (by kernel_rfl) rfl (fun K hK => ?_)
      refine step_store_w rfl 32 (.tmp 8) (.tmp 33) rfl rfl rfl HS6.out ?_
      refine hK.out _ _ ?_ ?_
      · exact ⟨Q3.out, Q4.out⟩
      clear hK K
      try simp only [Act.put, List.setIfInBounds_toArray]
      clear hHeld
      have hHeld : (fun w' => IsB w' ga a.cells 32 ∧ IsB w' gb b.cells 32) w6 := ⟨Q3.out, Q4.out⟩
      refine oneL (i := 3) (by kernel_rfl) rfl (fun K hK => ?_)
      refine step_store_w rfl 32 (.tmp 9) (.tmp 34) rfl rfl rfl HS7.out ?_
      refine hK.out _ _ ?_ ?_
      · exact ⟨Q5.out, Q6.out⟩
      clear hK K
      try simp only [Act.put]
      clear hHeld
      have hHeld : (fun w' => IsB w' ga a.cells 32 ∧ IsB w' gb b.cells 32) w7 := ⟨Q5.out, Q6.out⟩
      refine doneL (by kernel_rfl) ?_ _
      clear hHeld
      go_wp2
      refine ret_rr (p := 8) (q := 9) Tryd.results19 rfl rfl rfl rfl A9.out C9.out ?_
      exact ⟨by rw [HF.out], HH.out.symm ▸ B9.out⟩
  · refine ⟨_, rfl, fun K hK => ?_⟩
    go_simp
    obtain ⟨gb, hgq⟩ : ∃ n, n = WD.heap.size := ⟨_, rfl⟩
    have bx := gal1 WD (.cells #[.int .i64 0, .int .i64 0, .int .u64 0, .int .i64 0, .int .u64 0] 32)
    have hB : Hid (IsB (WD.alloc (.cells #[.int .i64 0, .int .i64 0, .int .u64 0, .int .i64 0, .int .u64 0] 32)) gb zr.cells 32) := by show IsB _ _ _ _; rw [hgq]; exact IsB.new WD _ _
    have hggb : Hid (WD.heap.size ≤ gb) := by show _ ≤ _; rw [hgq]; exact BC.out.size
    rw [← hgq]
    replace BC := hide (BC.out.trans (bx.mono BC.out.size))
    clear bx
    generalize hXq : WD.alloc (.cells #[.int .i64 0, .int .i64 0, .int .u64 0, .int .i64 0, .int .u64 0] 32) = X1 at *
    clear hXq hgq
    refine hK.out _ _ ?_ ?_
    · exact SA.out _ BC.out
    clear hK K
    try simp only [Act.put, List.setIfInBounds_toArray, List.set_cons_zero, List.set_cons_succ]
    clear hHeld
    have hHeld : (fun w' => IsB w' HV #[.int .i64 k, .int .u64 p] 30 ∧ IsB w' H r.cells 32) X1 := SA.out _ BC.out
    refine manyL (L := [3, 11]) (by kernel_rfl) (by decide) (fun i hi => ?_)
    simp only [List.mem_cons, List.not_mem_nil, or_false] at hi
    rcases hi with rfl | rfl
    · refine ⟨_, rfl, fun K hK => ?_⟩
      go_simp
      refine (row_doc h k p h0 h1 hp0 v l hl hbt X1 (RB.out _ BC.out)).mono ?_
      rintro e X2 ⟨vr, rfl, hrow, hb⟩
      have hRow : Hid (RSl X2 vr (nxRow h l k p)) := hrow.rsl
      clear hrow
      replace BC := hide (BC.out.trans (hb.mono BC.out.size))
      replace hB := hide (hB.out.below hb)
      clear hb
      refine hK.out _ _ ?_ ?_
      · exact SA.out _ BC.out
      clear hK K
      try simp only [Act.put, List.setIfInBounds_toArray, List.set_cons_zero, List.set_cons_succ]
      clear hHeld
      have hHeld : (fun w' => IsB w' HV #[.int .i64 k, .int .u64 p] 30 ∧ IsB w' H r.cells 32) X2 := SA.out _ BC.out
      refine manyL (L := [6, 11]) (by kernel_rfl) (by decide) (fun i hi => ?_)
      simp only [List.mem_cons, List.not_mem_nil, or_false] at hi
      rcases hi with rfl | rfl
      · refine ⟨_, rfl, fun K hK => ?_⟩
        go_simp
        refine (beside_doc vr _ hlen.out r.id X2 hRow.out).mono ?_
        rintro e X3 ⟨rfl, hb⟩
        clear hRow
        rw [HBS.out]
        replace BC := hide (BC.out.trans (hb.mono BC.out.size))
        replace hB := hide (hB.out.below hb)
        clear hb
        refine hK.out _ _ ?_ ?_
        · exact SA.out _ BC.out
        clear hK K
        skip
        clear hHeld
        have hHeld : (fun w' => IsB w' HV #[.int .i64 k, .int .u64 p] 30 ∧ IsB w' H r.cells 32) X3 := SA.out _ BC.out
        refine pickA (v := ?_) 7 (some 22) rfl rfl (by kernel_rfl) (by kernel_rfl) (by kernel_rfl) (by decide) (fun _ _ _ h => h) (by rfl) ?_ (by assumption) ?_
        rotate_left
        · intro w'
          go_simp
          try with_reducible rfl
        try simp only [Act.put, List.setIfInBounds_toArray, List.set_cons_zero, List.set_cons_succ]
        refine pickA (v := .agg #[.int .i64 a.id, .int .i64 a.rk, .int .u64 a.kn, .int .i64 a.ln, .int .u64 a.bt]) 8 (some 30) rfl rfl (by kernel_rfl) (by kernel_rfl) (by kernel_rfl) (by decide) (fun _ _ _ h => h) (by rfl) ?_ (by assumption) ?_
        · intro w'
          go_simp
          try rfl
        try simp only [Act.put, List.setIfInBounds_toArray, List.set_cons_zero, List.set_cons_succ]
        refine pickA (v := .agg #[.int .i64 b.id, .int .i64 b.rk, .int .u64 b.kn, .int .i64 b.ln, .int .u64 b.bt]) 9 (some 31) rfl rfl (by kernel_rfl) (by kernel_rfl) (by kernel_rfl) (by decide) (fun _ _ _ h => h) (by rfl) ?_ (by assumption) ?_
        · intro w'
          go_simp
          try rfl
        try simp only [Act.put, List.setIfInBounds_toArray, List.set_cons_zero, List.set_cons_succ]
        refine pickA (v := .bool ok) 10 (some 32) rfl rfl (by kernel_rfl) (by kernel_rfl) (by kernel_rfl) (by decide) (fun _ _ _ h => h) (by rfl) ?_ (by assumption) ?_
        · intro w'
          go_simp
          try rfl
        try simp only [Act.put, List.setIfInBounds_toArray, List.set_cons_zero, List.set_cons_succ]
        refine oneL (i := 11) (by kernel_rfl) rfl (fun K hK => ?_)
        go_simp
        obtain ⟨ga, hgq⟩ : ∃ n, n = X3.heap.size := ⟨_, rfl⟩
        have bx := gal1 X3 (.cells #[.int .i64 0, .int .i64 0, .int .u64 0, .int .i64 0, .int .u64 0] 32)
        have hA : Hid (IsB (X3.alloc (.cells #[.int .i64 0, .int .i64 0, .int .u64 0, .int .i64 0, .int .u64 0] 32)) ga zr.cells 32) := by show IsB _ _ _ _; rw [hgq]; exact IsB.new X3 _ _
        have hgga : Hid (WD.heap.size ≤ ga) := by show _ ≤ _; rw [hgq]; exact BC.out.size
        rw [← hgq]
        have hne : Hid (ga ≠ gb) := by have := hB.out.lt; show _ ≠ _; omega
        replace hB := hide (hB.out.below bx)
        replace BC := hide (BC.out.trans (bx.mono BC.out.size))
        clear bx
        generalize hXq : X3.alloc (.cells #[.int .i64 0, .int .i64 0, .int .u64 0, .int .i64 0, .int .u64 0] 32) = X4 at *
        clear hXq hgq
        refine hK.out _ _ ?_ ?_
        · exact SA.out _ BC.out
        clear hK K
        try simp only [Act.put, List.setIfInBounds_toArray, List.set_cons_zero, List.set_cons_succ]
        clear hHeld
        have hHeld : (fun w' => IsB w' HV #[.int .i64 k, .int .u64 p] 30 ∧ IsB w' H r.cells 32) X4 := SA.out _ BC.out
        refine oneL (i := 13) (by kernel_rfl) rfl (fun K hK => ?_)
        obtain ⟨X5, hs, hj, hk⟩ := st_ref hA.out a
        have HS := hide hs
        replace hA := hide hj
        replace hB := hide (hB.out.kp hk (by simpa using fun e => hne.out e.symm))
        replace BC := hide (BC.out.trans (hk.to_below BC.out.size (by simpa using hgga.out)))
        clear hs hj hk
        refine step_store_w rfl 32 (.tmp 12) (.tmp 30) rfl rfl rfl HS.out ?_
        clear HS
        refine hK.out _ _ ?_ ?_
        · exact SA.out _ BC.out
        clear hK K
        try simp only [Act.put, List.setIfInBounds_toArray]
        clear hHeld
        have hHeld : (fun w' => IsB w' HV #[.int .i64 k, .int .u64 p] 30 ∧ IsB w' H r.cells 32) X5 := SA.out _ BC.out
        refine oneL (i := 14) (by kernel_rfl) rfl (fun K hK => ?_)
        obtain ⟨X6, hs, hj, hk⟩ := st_ref hB.out b
        have HS := hide hs
        replace hB := hide hj
        replace hA := hide (hA.out.kp hk (by simpa using hne.out))
        replace BC := hide (BC.out.trans (hk.to_below BC.out.size (by simpa using hggb.out)))
        clear hs hj hk
        refine step_store_w rfl 32 (.tmp 13) (.tmp 31) rfl rfl rfl HS.out ?_
        clear HS
        refine hK.out _ _ ?_ ?_
        · exact SA.out _ BC.out
        clear hK K
        try simp only [Act.put]
        clear hHeld
        have hHeld : (fun w' => IsB w' HV #[.int .i64 k, .int .u64 p] 30 ∧ IsB w' H r.cells 32) X6 := SA.out _ BC.out
        refine pickA (v := ?_) 15 (some 14) rfl rfl (by kernel_rfl) (by kernel_rfl) (by kernel_rfl) (by decide) (fun _ _ _ h => h) (by rfl) ?_ (by assumption) ?_
        rotate_left
        · intro w'
          go_simp
          try with_reducible rfl
        try simp only [Act.put]
        refine doneL (by kernel_rfl) ?_ _
        clear hHeld
        have hHN2 : H + 1 + 1 < WD.heap.size := C.out.lt
        replace A := hide ((A.out.below BC.out).below (Below.refl _ _).drew)
        replace C := hide ((C.out.below BC.out).below (Below.refl _ _).drew)
        have Q1 := hide (hA.out.below (Below.refl _ _).drew)
        have Q2 := hide (hB.out.below (Below.refl _ _).drew)
        replace B := hide ((B.out.trans (BC.out.mono hHW)).drew)
        have hga2 := hgga.out
        have hgb2 := hggb.out
        clear BC SA RB hA hB hgga hggb hne
        go_wp2_with fail
        refine regionL 4 (fun w' => IsB w' ga a.cells 32 ∧ IsB w' gb b.cells 32) mixed ⟨Q1.out, Q2.out⟩ (fun hHeld => ?_)
        generalize X6.drew = WE at *
        obtain ⟨w6, hs6, A6, k6⟩ := st_ref A.out a
        have HS6 := hide hs6
        have C6 := C.out.kp k6 (by simp)
        obtain ⟨w7, hs7, C7, k7⟩ := st_ref C6 b
        have HS7 := hide hs7
        have A9 := hide (A6.kp k7 (by simp))
        have C9 := hide C7
        have B9 : Hid (Below H w w7) := (B.out.trans (k6.to_below (Nat.le_trans (Nat.le_of_eq HH.out.symm) B.out.size) (by simp))).trans (k7.to_below (Nat.le_trans (Nat.le_trans (Nat.le_of_eq HH.out.symm) B.out.size) k6.size) (by simp; omega))
        have Q3 := hide (Q1.out.kp k6 (by simp; omega))
        have Q4 := hide (Q2.out.kp k6 (by simp; omega))
        have Q5 := hide (Q3.out.kp k7 (by simp; omega))
        have Q6 := hide (Q4.out.kp k7 (by simp; omega))
        clear hs6 hs7 A6 C6 C7 k6 k7 A C Q1 Q2 hga2 hgb2 hHN2
        refine pickL (v := .agg #[.int .i64 a.id, .int .i64 a.rk, .int .u64 a.kn, .int .i64 a.ln, .int .u64 a.bt]) 0 (some 33) rfl rfl (by kernel_rfl) (by kernel_rfl) (by kernel_rfl) (by decide) (by kernel_rfl) (by kernel_rfl) (fun _ _ _ h => h) (by rfl) ?_ (by assumption) ?_
        · intro w' hSw
          obtain ⟨q0, q1⟩ := hSw
          exact exec_load rfl rfl (load_ref q0 rfl)
        try simp only [Act.put, List.setIfInBounds_toArray, List.set_cons_zero, List.set_cons_succ]
        refine pickL (v := .agg #[.int .i64 b.id, .int .i64 b.rk, .int .u64 b.kn, .int .i64 b.ln, .int .u64 b.bt]) 1 (some 34) rfl rfl (by kernel_rfl) (by kernel_rfl) (by kernel_rfl) (by decide) (by kernel_rfl) (by kernel_rfl) (fun _ _ _ h => h) (by rfl) ?_ (by assumption) ?_
        · intro w' hSw
          obtain ⟨q0, q1⟩ := hSw
          exact exec_load rfl rfl (load_ref q1 rfl)
        try simp only [Act.put, List.setIfInBounds_toArray, List.set_cons_zero, List.set_cons_succ]
        refine oneL (i := 2) (by kernel_rfl) rfl (fun K hK => ?_)
        refine step_store_w rfl 32 (.tmp 8) (.tmp 33) rfl rfl rfl HS6.out ?_
        refine hK.out _ _ ?_ ?_
        · exact ⟨Q3.out, Q4.out⟩
        clear hK K
        try simp only [Act.put, List.setIfInBounds_toArray]
        clear hHeld
        have hHeld : (fun w' => IsB w' ga a.cells 32 ∧ IsB w' gb b.cells 32) w6 := ⟨Q3.out, Q4.out⟩
        refine oneL (i := 3) (by kernel_rfl) rfl (fun K hK => ?_)
        refine step_store_w rfl 32 (.tmp 9) (.tmp 34) rfl rfl rfl HS7.out ?_
        refine hK.out _ _ ?_ ?_
        · exact ⟨Q5.out, Q6.out⟩
        clear hK K
        try simp only [Act.put]
        clear hHeld
        have hHeld : (fun w' => IsB w' ga a.cells 32 ∧ IsB w' gb b.cells 32) w7 := ⟨Q5.out, Q6.out⟩
        refine doneL (by kernel_rfl) ?_ _
        clear hHeld
        go_wp2
        refine ret_rr (p := 8) (q := 9) Tryd.results19 rfl rfl rfl rfl A9.out C9.out ?_
        exact ⟨by rw [HF.out], HH.out.symm ▸ B9.out⟩
      · refine ⟨_, rfl, fun K hK => ?_⟩
        go_simp
        obtain ⟨ga, hgq⟩ : ∃ n, n = X2.heap.size := ⟨_, rfl⟩
        have bx := gal1 X2 (.cells #[.int .i64 0, .int .i64 0, .int .u64 0, .int .i64 0, .int .u64 0] 32)
        have hA : Hid (IsB (X2.alloc (.cells #[.int .i64 0, .int .i64 0, .int .u64 0, .int .i64 0, .int .u64 0] 32)) ga zr.cells 32) := by show IsB _ _ _ _; rw [hgq]; exact IsB.new X2 _ _
        have hgga : Hid (WD.heap.size ≤ ga) := by show _ ≤ _; rw [hgq]; exact BC.out.size
        rw [← hgq]
        replace hRow := hide (hRow.out.below bx)
        have hne : Hid (ga ≠ gb) := by have := hB.out.lt; show _ ≠ _; omega
        replace hB := hide (hB.out.below bx)
        replace BC := hide (BC.out.trans (bx.mono BC.out.size))
        clear bx
        generalize hXq : X2.alloc (.cells #[.int .i64 0, .int .i64 0, .int .u64 0, .int .i64 0, .int .u64 0] 32) = X3 at *
        clear hXq hgq
        refine hK.out _ _ ?_ ?_
        · exact SA.out _ BC.out
        clear hK K
        try simp only [Act.put, List.setIfInBounds_toArray, List.set_cons_zero, List.set_cons_succ]
        clear hHeld
        have hHeld : (fun w' => IsB w' HV #[.int .i64 k, .int .u64 p] 30 ∧ IsB w' H r.cells 32) X3 := SA.out _ BC.out
        refine oneL (i := 6) (by kernel_rfl) rfl (fun K hK => ?_)
        go_simp
        refine (beside_doc vr _ hlen.out r.id X3 hRow.out).mono ?_
        rintro e X4 ⟨rfl, hb⟩
        clear hRow
        rw [HBS.out]
        replace BC := hide (BC.out.trans (hb.mono BC.out.size))
        replace hA := hide (hA.out.below hb)
        replace hB := hide (hB.out.below hb)
        clear hb
        refine hK.out _ _ ?_ ?_
        · exact SA.out _ BC.out
        clear hK K
        skip
        clear hHeld
        have hHeld : (fun w' => IsB w' HV #[.int .i64 k, .int .u64 p] 30 ∧ IsB w' H r.cells 32) X4 := SA.out _ BC.out
        refine pickA (v := ?_) 7 (some 22) rfl rfl (by kernel_rfl) (by kernel_rfl) (by kernel_rfl) (by decide) (fun _ _ _ h => h) (by rfl) ?_ (by assumption) ?_
        rotate_left
        · intro w'
          go_simp
          try with_reducible rfl
        try simp only [Act.put, List.setIfInBounds_toArray, List.set_cons_zero, List.set_cons_succ]
        refine pickA (v := .agg #[.int .i64 a.id, .int .i64 a.rk, .int .u64 a.kn, .int .i64 a.ln, .int .u64 a.bt]) 8 (some 30) rfl rfl (by kernel_rfl) (by kernel_rfl) (by kernel_rfl) (by decide) (fun _ _ _ h => h) (by rfl) ?_ (by assumption) ?_
        · intro w'
          go_simp
          try rfl
        try simp only [Act.put, List.setIfInBounds_toArray, List.set_cons_zero, List.set_cons_succ]
        refine pickA (v := .agg #[.int .i64 b.id, .int .i64 b.rk, .int .u64 b.kn, .int .i64 b.ln, .int .u64 b.bt]) 9 (some 31) rfl rfl (by kernel_rfl) (by kernel_rfl) (by kernel_rfl) (by decide) (fun _ _ _ h => h) (by rfl) ?_ (by assumption) ?_
        · intro w'
          go_simp
          try rfl
        try simp only [Act.put, List.setIfInBounds_toArray, List.set_cons_zero, List.set_cons_succ]
        refine pickA (v := .bool ok) 10 (some 32) rfl rfl (by kernel_rfl) (by kernel_rfl) (by kernel_rfl) (by decide) (fun _ _ _ h => h) (by rfl) ?_ (by assumption) ?_
        · intro w'
          go_simp
          try rfl
        try simp only [Act.put, List.setIfInBounds_toArray, List.set_cons_zero, List.set_cons_succ]
        refine oneL (i := 13) (by kernel_rfl) rfl (fun K hK => ?_)
        obtain ⟨X5, hs, hj, hk⟩ := st_ref hA.out a
        have HS := hide hs
        replace hA := hide hj
        replace hB := hide (hB.out.kp hk (by simpa using fun e => hne.out e.symm))
        replace BC := hide (BC.out.trans (hk.to_below BC.out.size (by simpa using hgga.out)))
        clear hs hj hk
        refine step_store_w rfl 32 (.tmp 12) (.tmp 30) rfl rfl rfl HS.out ?_
        clear HS
        refine hK.out _ _ ?_ ?_
        · exact SA.out _ BC.out
        clear hK K
        try simp only [Act.put, List.setIfInBounds_toArray]
        clear hHeld
        have hHeld : (fun w' => IsB w' HV #[.int .i64 k, .int .u64 p] 30 ∧ IsB w' H r.cells 32) X5 := SA.out _ BC.out
        refine oneL (i := 14) (by kernel_rfl) rfl (fun K hK => ?_)
        obtain ⟨X6, hs, hj, hk⟩ := st_ref hB.out b
        have HS := hide hs
        replace hB := hide hj
        replace hA := hide (hA.out.kp hk (by simpa using hne.out))
        replace BC := hide (BC.out.trans (hk.to_below BC.out.size (by simpa using hggb.out)))
        clear hs hj hk
        refine step_store_w rfl 32 (.tmp 13) (.tmp 31) rfl rfl rfl HS.out ?_
        clear HS
        refine hK.out _ _ ?_ ?_
        · exact SA.out _ BC.out
        clear hK K
        try simp only [Act.put]
        clear hHeld
        have hHeld : (fun w' => IsB w' HV #[.int .i64 k, .int .u64 p] 30 ∧ IsB w' H r.cells 32) X6 := SA.out _ BC.out
        refine pickA (v := ?_) 15 (some 14) rfl rfl (by kernel_rfl) (by kernel_rfl) (by kernel_rfl) (by decide) (fun _ _ _ h => h) (by rfl) ?_ (by assumption) ?_
        rotate_left
        · intro w'
          go_simp
          try with_reducible rfl
        try simp only [Act.put]
        refine doneL (by kernel_rfl) ?_ _
        clear hHeld
        have hHN2 : H + 1 + 1 < WD.heap.size := C.out.lt
        replace A := hide ((A.out.below BC.out).below (Below.refl _ _).drew)
        replace C := hide ((C.out.below BC.out).below (Below.refl _ _).drew)
        have Q1 := hide (hA.out.below (Below.refl _ _).drew)
        have Q2 := hide (hB.out.below (Below.refl _ _).drew)
        replace B := hide ((B.out.trans (BC.out.mono hHW)).drew)
        have hga2 := hgga.out
        have hgb2 := hggb.out
        clear BC SA RB hA hB hgga hggb hne
        go_wp2_with fail
        refine regionL 4 (fun w' => IsB w' ga a.cells 32 ∧ IsB w' gb b.cells 32) mixed ⟨Q1.out, Q2.out⟩ (fun hHeld => ?_)
        generalize X6.drew = WE at *
        obtain ⟨w6, hs6, A6, k6⟩ := st_ref A.out a
        have HS6 := hide hs6
        have C6 := C.out.kp k6 (by simp)
        obtain ⟨w7, hs7, C7, k7⟩ := st_ref C6 b
        have HS7 := hide hs7
        have A9 := hide (A6.kp k7 (by simp))
        have C9 := hide C7
        have B9 : Hid (Below H w w7) := (B.out.trans (k6.to_below (Nat.le_trans (Nat.le_of_eq HH.out.symm) B.out.size) (by simp))).trans (k7.to_below (Nat.le_trans (Nat.le_trans (Nat.le_of_eq HH.out.symm) B.out.size) k6.size) (by simp; omega))
        have Q3 := hide (Q1.out.kp k6 (by simp; omega))
        have Q4 := hide (Q2.out.kp k6 (by simp; omega))
        have Q5 := hide (Q3.out.kp k7 (by simp; omega))
        have Q6 := hide (Q4.out.kp k7 (by simp; omega))
        clear hs6 hs7 A6 C6 C7 k6 k7 A C Q1 Q2 hga2 hgb2 hHN2
        refine pickL (v := .agg #[.int .i64 a.id, .int .i64 a.rk, .int .u64 a.kn, .int .i64 a.ln, .int .u64 a.bt]) 0 (some 33) rfl rfl (by kernel_rfl) (by kernel_rfl) (by kernel_rfl) (by decide) (by kernel_rfl) (by kernel_rfl) (fun _ _ _ h => h) (by rfl) ?_ (by assumption) ?_
        · intro w' hSw
          obtain ⟨q0, q1⟩ := hSw
          exact exec_load rfl rfl (load_ref q0 rfl)
        try simp only [Act.put, List.setIfInBounds_toArray, List.set_cons_zero, List.set_cons_succ]
        refine pickL (v := .agg #[.int .i64 b.id, .int .i64 b.rk, .int .u64 b.kn, .int .i64 b.ln, .int .u64 b.bt]) 1 (some 34) rfl rfl (by kernel_rfl) (by kernel_rfl) (by kernel_rfl) (by decide) (by kernel_rfl) (by kernel_rfl) (fun _ _ _ h => h) (by rfl) ?_ (by assumption) ?_
        · intro w' hSw
          obtain ⟨q0, q1⟩ := hSw
          exact exec_load rfl rfl (load_ref q1 rfl)
        try simp only [Act.put, List.setIfInBounds_toArray, List.set_cons_zero, List.set_cons_succ]
        refine oneL (i := 2) (by kernel_rfl) rfl (fun K hK => ?_)
        refine step_store_w rfl 32 (.tmp 8) (.tmp 33) rfl rfl rfl HS6.out ?_
        refine hK.out _ _ ?_ ?_
        · exact ⟨Q3.out, Q4.out⟩
        clear hK K
        try simp only [Act.put, List.setIfInBounds_toArray]
        clear hHeld
        have hHeld : (fun w' => IsB w' ga a.cells 32 ∧ IsB w' gb b.cells 32) w6 := ⟨Q3.out, Q4.out⟩
        refine oneL (i := 3) (by kernel_rfl) rfl (fun K hK => ?_)
        refine step_store_w rfl 32 (.tmp 9) (.tmp 34) rfl rfl rfl HS7.out ?_
        refine hK.out _ _ ?_ ?_
        · exact ⟨Q5.out, Q6.out⟩
        clear hK K
        try simp only [Act.put]
        clear hHeld
        have hHeld : (fun w' => IsB w' ga a.cells 32 ∧ IsB w' gb b.cells 32) w7 := ⟨Q5.out, Q6.out⟩
        refine doneL (by kernel_rfl) ?_ _
        clear hHeld
        go_wp2
        refine ret_rr (p := 8) (q := 9) Tryd.results19 rfl rfl rfl rfl A9.out C9.out ?_
        exact ⟨by rw [HF.out], HH.out.symm ▸ B9.out⟩
    · refine ⟨_, rfl, fun K hK => ?_⟩
      go_simp
      obtain ⟨ga, hgq⟩ : ∃ n, n = X1.heap.size := ⟨_, rfl⟩
      have bx := gal1 X1 (.cells #[.int .i64 0, .int .i64 0, .int .u64 0, .int .i64 0, .int .u64 0] 32)
      have hA : Hid (IsB (X1.alloc (.cells #[.int .i64 0, .int .i64 0, .int .u64 0, .int .i64 0, .int .u64 0] 32)) ga zr.cells 32) := by show IsB _ _ _ _; rw [hgq]; exact IsB.new X1 _ _
      have hgga : Hid (WD.heap.size ≤ ga) := by show _ ≤ _; rw [hgq]; exact BC.out.size
      rw [← hgq]
      have hne : Hid (ga ≠ gb) := by have := hB.out.lt; show _ ≠ _; omega
      replace hB := hide (hB.out.below bx)
      replace BC := hide (BC.out.trans (bx.mono BC.out.size))
      clear bx
      generalize hXq : X1.alloc (.cells #[.int .i64 0, .int .i64 0, .int .u64 0, .int .i64 0, .int .u64 0] 32) = X2 at *
      clear hXq hgq
      refine hK.out _ _ ?_ ?_
      · exact SA.out _ BC.out
      clear hK K
      try simp only [Act.put, List.setIfInBounds_toArray, List.set_cons_zero, List.set_cons_succ]
      clear hHeld
      have hHeld : (fun w' => IsB w' HV #[.int .i64 k, .int .u64 p] 30 ∧ IsB w' H r.cells 32) X2 := SA.out _ BC.out
      refine oneL (i := 3) (by kernel_rfl) rfl (fun K hK => ?_)
      go_simp
      refine (row_doc h k p h0 h1 hp0 v l hl hbt X2 (RB.out _ BC.out)).mono ?_
      rintro e X3 ⟨vr, rfl, hrow, hb⟩
      have hRow : Hid (RSl X3 vr (nxRow h l k p)) := hrow.rsl
      clear hrow
      replace BC := hide (BC.out.trans (hb.mono BC.out.size))
      replace hA := hide (hA.out.below hb)
      replace hB := hide (hB.out.below hb)
      clear hb
      refine hK.out _ _ ?_ ?_
      · exact SA.out _ BC.out
      clear hK K
      try simp only [Act.put, List.setIfInBounds_toArray, List.set_cons_zero, List.set_cons_succ]
      clear hHeld
      have hHeld : (fun w' => IsB w' HV #[.int .i64 k, .int .u64 p] 30 ∧ IsB w' H r.cells 32) X3 := SA.out _ BC.out
      refine oneL (i := 6) (by kernel_rfl) rfl (fun K hK => ?_)
      go_simp
      refine (beside_doc vr _ hlen.out r.id X3 hRow.out).mono ?_
      rintro e X4 ⟨rfl, hb⟩
      clear hRow
      rw [HBS.out]
      replace BC := hide (BC.out.trans (hb.mono BC.out.size))
      replace hA := hide (hA.out.below hb)
      replace hB := hide (hB.out.below hb)
      clear hb
      refine hK.out _ _ ?_ ?_
      · exact SA.out _ BC.out
      clear hK K
      skip
      clear hHeld
      have hHeld : (fun w' => IsB w' HV #[.int .i64 k, .int .u64 p] 30 ∧ IsB w' H r.cells 32) X4 := SA.out _ BC.out
      refine pickA (v := ?_) 7 (some 22) rfl rfl (by kernel_rfl) (by kernel_rfl) (by kernel_rfl) (by decide) (fun _ _ _ h => h) (by rfl) ?_ (by assumption) ?_
      rotate_left
      · intro w'
        go_simp
        try with_reducible rfl
      try simp only [Act.put, List.setIfInBounds_toArray, List.set_cons_zero, List.set_cons_succ]
      refine pickA (v := .agg #[.int .i64 a.id, .int .i64 a.rk, .int .u64 a.kn, .int .i64 a.ln, .int .u64 a.bt]) 8 (some 30) rfl rfl (by kernel_rfl) (by kernel_rfl) (by kernel_rfl) (by decide) (fun _ _ _ h => h) (by rfl) ?_ (by assumption) ?_
      · intro w'
        go_simp
        try rfl
      try simp only [Act.put, List.setIfInBounds_toArray, List.set_cons_zero, List.set_cons_succ]
      refine pickA (v := .agg #[.int .i64 b.id, .int .i64 b.rk, .int .u64 b.kn, .int .i64 b.ln, .int .u64 b.bt]) 9 (some 31) rfl rfl (by kernel_rfl) (by kernel_rfl) (by kernel_rfl) (by decide) (fun _ _ _ h => h) (by rfl) ?_ (by assumption) ?_
      · intro w'
        go_simp
        try rfl
      try simp only [Act.put, List.setIfInBounds_toArray, List.set_cons_zero, List.set_cons_succ]
      refine pickA (v := .bool ok) 10 (some 32) rfl rfl (by kernel_rfl) (by kernel_rfl) (by kernel_rfl) (by decide) (fun _ _ _ h => h) (by rfl) ?_ (by assumption) ?_
      · intro w'
        go_simp
        try rfl
      try simp only [Act.put, List.setIfInBounds_toArray, List.set_cons_zero, List.set_cons_succ]
      refine oneL (i := 13) (by kernel_rfl) rfl (fun K hK => ?_)
      obtain ⟨X5, hs, hj, hk⟩ := st_ref hA.out a
      have HS := hide hs
      replace hA := hide hj
      replace hB := hide (hB.out.kp hk (by simpa using fun e => hne.out e.symm))
      replace BC := hide (BC.out.trans (hk.to_below BC.out.size (by simpa using hgga.out)))
      clear hs hj hk
      refine step_store_w rfl 32 (.tmp 12) (.tmp 30) rfl rfl rfl HS.out ?_
      clear HS
      refine hK.out _ _ ?_ ?_
      · exact SA.out _ BC.out
      clear hK K
      try simp only [Act.put, List.setIfInBounds_toArray]
      clear hHeld
      have hHeld : (fun w' => IsB w' HV #[.int .i64 k, .int .u64 p] 30 ∧ IsB w' H r.cells 32) X5 := SA.out _ BC.out
      refine oneL (i := 14) (by kernel_rfl) rfl (fun K hK => ?_)
      obtain ⟨X6, hs, hj, hk⟩ := st_ref hB.out b
      have HS := hide hs
      replace hB := hide hj
      replace hA := hide (hA.out.kp hk (by simpa using hne.out))
      replace BC := hide (BC.out.trans (hk.to_below BC.out.size (by simpa using hggb.out)))
      clear hs hj hk
      refine step_store_w rfl 32 (.tmp 13) (.tmp 31) rfl rfl rfl HS.out ?_
      clear HS
      refine hK.out _ _ ?_ ?_
      · exact SA.out _ BC.out
      clear hK K
      try simp only [Act.put]
      clear hHeld
      have hHeld : (fun w' => IsB w' HV #[.int .i64 k, .int .u64 p] 30 ∧ IsB w' H r.cells 32) X6 := SA.out _ BC.out
      refine pickA (v := ?_) 15 (some 14) rfl rfl (by kernel_rfl) (by kernel_rfl) (by kernel_rfl) (by decide) (fun _ _ _ h => h) (by rfl) ?_ (by assumption) ?_
      rotate_left
      · intro w'
        go_simp
        try with_reducible rfl
      try simp only [Act.put]
      refine doneL (by kernel_rfl) ?_ _
      clear hHeld
      have hHN2 : H + 1 + 1 < WD.heap.size := C.out.lt
      replace A := hide ((A.out.below BC.out).below (Below.refl _ _).drew)
      replace C := hide ((C.out.below BC.out).below (Below.refl _ _).drew)
      have Q1 := hide (hA.out.below (Below.refl _ _).drew)
      have Q2 := hide (hB.out.below (Below.refl _ _).drew)
      replace B := hide ((B.out.trans (BC.out.mono hHW)).drew)
      have hga2 := hgga.out
      have hgb2 := hggb.out
      clear BC SA RB hA hB hgga hggb hne
      go_wp2_with fail
      refine regionL 4 (fun w' => IsB w' ga a.cells 32 ∧ IsB w' gb b.cells 32) mixed ⟨Q1.out, Q2.out⟩ (fun hHeld => ?_)
      generalize X6.drew = WE at *
      obtain ⟨w6, hs6, A6, k6⟩ := st_ref A.out a
      have HS6 := hide hs6
      have C6 := C.out.kp k6 (by simp)
      obtain ⟨w7, hs7, C7, k7⟩ := st_ref C6 b
      have HS7 := hide hs7
      have A9 := hide (A6.kp k7 (by simp))
      have C9 := hide C7
      have B9 : Hid (Below H w w7) := (B.out.trans (k6.to_below (Nat.le_trans (Nat.le_of_eq HH.out.symm) B.out.size) (by simp))).trans (k7.to_below (Nat.le_trans (Nat.le_trans (Nat.le_of_eq HH.out.symm) B.out.size) k6.size) (by simp; omega))
      have Q3 := hide (Q1.out.kp k6 (by simp; omega))
      have Q4 := hide (Q2.out.kp k6 (by simp; omega))
      have Q5 := hide (Q3.out.kp k7 (by simp; omega))
      have Q6 := hide (Q4.out.kp k7 (by simp; omega))
      clear hs6 hs7 A6 C6 C7 k6 k7 A C Q1 Q2 hga2 hgb2 hHN2
      refine pickL (v := .agg #[.int .i64 a.id, .int .i64 a.rk, .int .u64 a.kn, .int .i64 a.ln, .int .u64 a.bt]) 0 (some 33) rfl rfl (by kernel_rfl) (by kernel_rfl) (by kernel_rfl) (by decide) (by kernel_rfl) (by kernel_rfl) (fun _ _ _ h => h) (by rfl) ?_ (by assumption) ?_
      · intro w' hSw
        obtain ⟨q0, q1⟩ := hSw
        exact exec_load rfl rfl (load_ref q0 rfl)
      try simp only [Act.put, List.setIfInBounds_toArray, List.set_cons_zero, List.set_cons_succ]
      refine pickL (v := .agg #[.int .i64 b.id, .int .i64 b.rk, .int .u64 b.kn, .int .i64 b.ln, .int .u64 b.bt]) 1 (some 34) rfl rfl (by kernel_rfl) (by kernel_rfl) (by kernel_rfl) (by decide) (by kernel_rfl) (by kernel_rfl) (fun _ _ _ h => h) (by rfl) ?_ (by assumption) ?_
      · intro w' hSw
        obtain ⟨q0, q1⟩ := hSw
        exact exec_load rfl rfl (load_ref q1 rfl)
      try simp only [Act.put, List.setIfInBounds_toArray, List.set_cons_zero, List.set_cons_succ]
      refine oneL (i := 2) (by kernel_rfl) rfl (fun K hK => ?_)
      refine step_store_w rfl 32 (.tmp 8) (.tmp 33) rfl rfl rfl HS6.out ?_
      refine hK.out _ _ ?_ ?_
      · exact ⟨Q3.out, Q4.out⟩
      clear hK K
      try simp only [Act.put, List.setIfInBounds_toArray]
      clear hHeld
      have hHeld : (fun w' => IsB w' ga a.cells 32 ∧ IsB w' gb b.cells 32) w6 := ⟨Q3.out, Q4.out⟩
      refine oneL (i := 3) (by kernel_rfl) rfl (fun K hK => ?_)
      refine step_store_w rfl 32 (.tmp 9) (.tmp 34) rfl rfl rfl HS7.out ?_
      refine hK.out _ _ ?_ ?_
      · exact ⟨Q5.out, Q6.out⟩
      clear hK K
      try simp only [Act.put]
      clear hHeld
      have hHeld : (fun w' => IsB w' ga a.cells 32 ∧ IsB w' gb b.cells 32) w7 := ⟨Q5.out, Q6.out⟩
      refine doneL (by kernel_rfl) ?_ _
      clear hHeld
      go_wp2
      refine ret_rr (p := 8) (q := 9) Tryd.results19 rfl rfl rfl rfl A9.out C9.out ?_
      exact ⟨by rw [HF.out], HH.out.symm ▸ B9.out⟩

end Go.Proofs.YtjkgacbckdipgaaDoor
