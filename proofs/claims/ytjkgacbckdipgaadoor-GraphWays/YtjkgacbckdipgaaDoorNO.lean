/- The document's Way to what nobody is below. -/
import Derived.Test.YtjkgacbckdipgaaDoorNJ
namespace Go.Proofs.YtjkgacbckdipgaaDoor
open Go.RowKit Go.Maps Go.ChangeMaps

theorem rsl_kp {w w' : World} {v : Value} {l : List Rf} {S : List Nat} (h : RSl w v l) (hk : Kp S w w') (hn : ∀ j, v.ownBlock = some j → j ∉ S) : RSl w' v l := by
  rcases h with h | ⟨g, o, c, rfl, h1, h2, h3, h4⟩
  · exact Or.inl h
  · refine Or.inr ⟨g, o, c, rfl, h1, h2, Nat.lt_of_lt_of_le h3 hk.size, fun j u hu => ?_⟩
    rw [← h4 j u hu]
    simp only [World.cell?, hk.block g h3 (hn g rfl)]
theorem ld_h0 {w : World} {g o n c : Nat} {l : List Rf} {h : Int} (R : RSl w (.slice (some ⟨g, o, none⟩) n c) l) (hl : 0 < l.length) (e : l[0] = hdR h) : (Instr.loadAt 32 (.pointer (some ⟨g, o, none⟩))).run Tryd.prog w = .ok (.agg #[.int .i64 0, .int .i64 1, .int .u64 0, .int .i64 h, .int .u64 0]) w := by
  have h9 := R.ldr 0 hl
  rw [e] at h9
  exact h9

set_option maxHeartbeats 8000000 in
set_option maxRecDepth 100000 in
theorem wayd_low (h d tn : Int) (v : Value) (l : List Rf) (hl : l.length ≤ 1000) (hbt : ∀ r ∈ l, 0 ≤ r.bt) (hg : okG h l) (r : Rf) (hF : lastD d (allRow h l) = (r, true)) (hck : ckE 1 tn = 0) (w : World) (R : RSl w v l) : Calls Tryd.prog 6 #[.int .i64 h, .int .i64 d, .agg #[.int .i64 1, .int .u64 tn], v] w fun e' w' => ∃ wv', e' = .returned (.tuple #[wv', .agg zr.cells, .agg (hdR h).cells, .int .i64 0]) ∧ Rw w' 57 6 wv' [(h, r)].length (hps [(h, r)]) ∧ Below w.heap.size w w' := by
  have mixed : Tryd.prog.follows .mixedOrders = true := by kernel_rfl
  have b3 : Below w.heap.size w (((w.alloc (.cells #[.int .i64 1, .int .u64 tn] 25)).alloc (.cells #[.int .i64 0, .int .i64 0, .int .u64 0, .int .i64 0, .int .u64 0] 32)).alloc (.cells #[.int .i64 0, .int .i64 0, .int .u64 0, .int .i64 0, .int .u64 0] 32)) := (((Below.refl w.heap.size w).alloc (Nat.le_refl _) _).alloc (by simp) _).alloc (by simp; omega) _
  have Q : Hid (IsB (((w.alloc (.cells #[.int .i64 1, .int .u64 tn] 25)).alloc (.cells #[.int .i64 0, .int .i64 0, .int .u64 0, .int .i64 0, .int .u64 0] 32)).alloc (.cells #[.int .i64 0, .int .i64 0, .int .u64 0, .int .i64 0, .int .u64 0] 32)) w.heap.size #[.int .i64 1, .int .u64 tn] 25) := ((IsB.new w #[.int .i64 1, .int .u64 tn] 25).below (gal1 _ (.cells #[.int .i64 0, .int .i64 0, .int .u64 0, .int .i64 0, .int .u64 0] 32))).below (gal1 _ (.cells #[.int .i64 0, .int .i64 0, .int .u64 0, .int .i64 0, .int .u64 0] 32))
  have A : Hid (IsB (((w.alloc (.cells #[.int .i64 1, .int .u64 tn] 25)).alloc (.cells #[.int .i64 0, .int .i64 0, .int .u64 0, .int .i64 0, .int .u64 0] 32)).alloc (.cells #[.int .i64 0, .int .i64 0, .int .u64 0, .int .i64 0, .int .u64 0] 32)) (w.heap.size + 1) zr.cells 32) := by
    have h7 := (IsB.new (w.alloc (.cells #[.int .i64 1, .int .u64 tn] 25)) #[.int .i64 0, .int .i64 0, .int .u64 0, .int .i64 0, .int .u64 0] 32).below (gal1 _ (.cells #[.int .i64 0, .int .i64 0, .int .u64 0, .int .i64 0, .int .u64 0] 32))
    rw [World.size_alloc] at h7
    exact h7
  have C : Hid (IsB (((w.alloc (.cells #[.int .i64 1, .int .u64 tn] 25)).alloc (.cells #[.int .i64 0, .int .i64 0, .int .u64 0, .int .i64 0, .int .u64 0] 32)).alloc (.cells #[.int .i64 0, .int .i64 0, .int .u64 0, .int .i64 0, .int .u64 0] 32)) (w.heap.size + 1 + 1) zr.cells 32) := by
    have h7 := IsB.new ((w.alloc (.cells #[.int .i64 1, .int .u64 tn] 25)).alloc (.cells #[.int .i64 0, .int .i64 0, .int .u64 0, .int .i64 0, .int .u64 0] 32)) #[.int .i64 0, .int .i64 0, .int .u64 0, .int .i64 0, .int .u64 0] 32
    rw [World.size_alloc, World.size_alloc] at h7
    exact h7
  go_enter Tryd.func6, Tryd.ntmps6
  go_wp2_with fail
  generalize (((w.alloc (.cells #[.int .i64 1, .int .u64 tn] 25)).alloc (.cells #[.int .i64 0, .int .i64 0, .int .u64 0, .int .i64 0, .int .u64 0] 32)).alloc (.cells #[.int .i64 0, .int .i64 0, .int .u64 0, .int .i64 0, .int .u64 0] 32)) = W1 at *
  obtain ⟨H, hH⟩ : ∃ H, w.heap.size = H := ⟨_, rfl⟩
  have HH : Hid (w.heap.size = H) := hH
  rw [hH] at Q A C b3 ⊢
  have B := hide b3
  have RA : Hid (∀ w', Below H w w' → RSl w' v l) := fun w' hb => R.below (hH ▸ hb)
  clear R b3 hH
  refine (check_doc h v l hl W1 (RA.out _ B.out)).mono ?_
  rintro e w2 ⟨rfl, hb⟩
  replace Q := hide (Q.out.below hb)
  replace A := hide (A.out.below hb)
  replace C := hide (C.out.below hb)
  replace B := hide (B.out.trans (hb.mono (Nat.le_trans (Nat.le_of_eq HH.out.symm) B.out.size)))
  clear hb
  rw [chkE_yes hg]
  have HG := hide hg
  clear hg
  go_wp2_with fail
  have hC2 : H + 1 + 1 < w2.heap.size := C.out.lt
  refine (row_doc h 0 0 HG.out.1.1 HG.out.1.2 (Int.le_refl 0) v l hl hbt w2 (RA.out _ B.out)).mono ?_
  rintro e w4 ⟨vr, rfl, hrow, hb⟩
  replace Q := hide (Q.out.below hb)
  replace A := hide (A.out.below hb)
  replace C := hide (C.out.below hb)
  replace B := hide (B.out.trans (hb.mono (Nat.le_trans (Nat.le_of_eq HH.out.symm) B.out.size)))
  clear hb
  have hrl := hide (allRow_len h l hl)
  have hrow2 : Gr5 w2.heap.size w4 vr (allRow h l) := hrow
  have hown : ∀ j, vr.ownBlock = some j → H + 1 + 1 < j := fun j hj => Nat.lt_of_lt_of_le hC2 (Rg.new hrow2 j hj)
  have hsl := hrow2.rsl
  obtain ⟨va, vc, rfl, -, -⟩ := hsl.shape
  clear hrow hrow2
  obtain ⟨ro, hro⟩ : ∃ ro, allRow h l = ro := ⟨_, rfl⟩
  have HRO := hide hro
  rw [hro] at hsl hrl hF
  rw [hro]
  clear hro
  obtain ⟨n, hn⟩ : ∃ n, ro.length = n := ⟨_, rfl⟩
  have hn3 : n ≤ 3000 := hn ▸ hrl.out
  rw [hn]
  have HN := hide hn
  have D : Hid (IsB (w4.alloc (.cells #[.int .i64 0, .int .i64 0, .int .u64 0, .int .i64 0, .int .u64 0] 32)) w4.heap.size zr.cells 32) := IsB.new w4 #[.int .i64 0, .int .i64 0, .int .u64 0, .int .i64 0, .int .u64 0] 32
  have hsz : H + 1 + 1 < w4.heap.size := C.out.lt
  obtain ⟨v0, hs0, D0, k0⟩ := st_ref D.out zr
  have HS0 := hide hs0
  have BN : Hid (Below w4.heap.size w4 v0) := (gal1 w4 (.cells #[.int .i64 0, .int .i64 0, .int .u64 0, .int .i64 0, .int .u64 0] 32)).trans (k0.to_below (gal1 w4 (.cells #[.int .i64 0, .int .i64 0, .int .u64 0, .int .i64 0, .int .u64 0] 32)).size (by simp))
  replace D := hide D0
  clear hs0 D0 k0
  have hKN : H = H := rfl
  go_wp2_with (first | (focus ((with_reducible refine wpList_store_w ?_ 32 (.tmp 13) (.tmp 34) ?_ ?_ ?_ HS0.out ?_); rotate_left; rfl; rfl; rfl; rotate_left; rfl)))
  clear HS0
  have RO : Hid (∀ w', Below w4.heap.size w4 w' → RSl w' (.slice va n vc) ro) := fun w' hb => (hn ▸ hsl).below hb
  have RL : Hid (∀ w', Below w4.heap.size w4 w' → RSl w' v l) := fun w' hb => (RA.out _ B.out).below hb
  have hNs : Hid (∀ w', Below w4.heap.size w4 w' → w4.heap.size ≤ w'.heap.size) := fun w' hb => hb.size
  have hHN : H ≤ w4.heap.size := (Nat.le_trans (Nat.le_of_eq HH.out.symm) B.out.size)
  clear RA hsl hn hKN
  generalize w4.heap.size = N at *
  have KE : Hid (∀ (b : Nat) (cs : Array Value) (t : TypeId), b < N → IsB w4 b cs t → ∀ w', Below N w4 w' → IsB w' b cs t) := fun b cs t hb I w' hB => (hB.block b hb).trans I
  go_loopw [14, 15] (fun f i wr => ∃ j : Nat, j ≤ n ∧ i = .int .i64 (j : Int) ∧ f = .bool (lastD d (ro.take j)).2 ∧ Hid (IsB wr N (lastD d (ro.take j)).1.cells 32) ∧ Hid (Below N w4 wr)) (fun _ i _ => n - (intOf i).toNat)
  case atStart => exact ⟨0, by omega, rfl, rfl, D, BN⟩
  case round =>
    clear D BN
    obtain ⟨j, hj, rfl, rfl, D, BN⟩ := hrel
    by_cases hlt : j < n
    rotate_left
    · obtain rfl : j = n := by omega
      have d1 : decide ((j : Int) < j) = false := by simp
      have eT : ro.take j = ro := List.take_of_length_le (Nat.le_of_eq HN.out)
      rw [eT] at D ⊢
      clear eT
      replace Q := hide (KE.out _ _ _ (by omega) Q.out _ BN.out)
      replace A := hide (KE.out _ _ _ (by omega) A.out _ BN.out)
      replace C := hide (KE.out _ _ _ (by omega) C.out _ BN.out)
      replace B := hide (B.out.trans (BN.out.mono hHN))
      simp only [hF] at D ⊢
      have LK := hide (ld_k2 Q.out)
      go_wp2_with (first | (focus ((with_reducible refine wpList_load_w ?_ 25 (.tmp 6) ?_ ?_ LK.out ?_); rotate_left; rfl; rfl; rotate_left; rfl)))
      refine (isKey_any 1 tn wr).mono ?_
      rintro e w8 ⟨rfl, hb⟩
      replace D := hide (D.out.below hb)
      replace Q := hide (Q.out.below hb)
      replace A := hide (A.out.below hb)
      replace C := hide (C.out.below hb)
      replace B := hide (B.out.trans (hb.mono (Nat.le_trans (Nat.le_of_eq HH.out.symm) B.out.size)))
      replace BN := hide (BN.out.trans (hb.mono (hNs.out _ BN.out)))
      clear hb LK
      have d2 : decide (ckE 1 tn = 0) = true := decide_eq_true hck
      rw [d2]
      have hl0 : 0 < ro.length := by rw [← HRO.out]; exact Nat.succ_pos _
      have e0 : ro[0] = hdR h := by
        have e := HRO.out
        subst e
        rfl
      obtain ⟨g, o, cap, ev, hcap, -⟩ := (RO.out _ BN.out).form (by have := HN.out; omega)
      injection ev with ev el ec
      clear el
      subst ev ec
      have LR1 := hide (ld_rall D.out)
      have bh := gal1 w8 (.cells #[.int .i64 h, .int .i64 r.id, .int .i64 r.rk, .int .u64 r.kn, .int .i64 r.ln, .int .u64 r.bt] 57)
      have HHB : Hid (IsB (w8.alloc (.cells #[.int .i64 h, .int .i64 r.id, .int .i64 r.rk, .int .u64 r.kn, .int .i64 r.ln, .int .u64 r.bt] 57)) w8.heap.size (hcs (h, r)).toArray 57) := IsB.new w8 _ _
      have hNW : N ≤ w8.heap.size := hNs.out _ BN.out
      replace D := hide (D.out.below bh)
      replace Q := hide (Q.out.below bh)
      replace A := hide (A.out.below bh)
      replace C := hide (C.out.below bh)
      replace B := hide (B.out.trans (bh.mono (Nat.le_trans (Nat.le_of_eq HH.out.symm) B.out.size)))
      replace BN := hide (BN.out.trans (bh.mono (hNs.out _ BN.out)))
      clear bh
      have RX : Hid (Gh N (w8.alloc (.cells #[.int .i64 h, .int .i64 r.id, .int .i64 r.rk, .int .u64 r.kn, .int .i64 r.ln, .int .u64 r.bt] 57)) (.slice (some ⟨w8.heap.size, 0, none⟩) 1 1) [(h, r)]) := Gh.one (h, r) HHB.out hNW
      clear HHB
      have y1 : (w8.alloc (.cells #[.int .i64 h, .int .i64 r.id, .int .i64 r.rk, .int .u64 r.kn, .int .i64 r.ln, .int .u64 r.bt] 57)).cell? ⟨H, 0, none⟩ = some (.int .i64 1) := Q.out.cell 0
      go_wp2_with (first | (focus ((with_reducible refine wpList_load_w ?_ 32 (.tmp 13) ?_ ?_ LR1.out ?_); rotate_left; rfl; rfl; rotate_left; rfl)))
      generalize hWX : w8.alloc (.cells #[.int .i64 h, .int .i64 r.id, .int .i64 r.rk, .int .u64 r.kn, .int .i64 r.ln, .int .u64 r.bt] 57) = WX at *
      generalize w8.heap.size = HW at *
      clear hWX hNW LR1
      replace A := hide (A.out.below ((Below.refl _ _).drew))
      replace C := hide (C.out.below ((Below.refl _ _).drew))
      replace RX := hide (RX.out.below ((Below.refl _ _).drew))
      replace B := hide (B.out.drew)
      replace BN := hide (BN.out.drew)
      have hgg : H + 1 + 1 < g := hown g rfl
      have hj0 : 0 < j := by have := HN.out; omega
      have hj1 : (0 : Int) < (j : Int) := by omega
      have R5 := hide (RO.out _ BN.out)
      clear RO hown
      refine regionL 9 (fun w' => RSl w' (.slice (some ⟨g, o, none⟩) j vc) ro) mixed R5.out (fun hHeld => ?_)
      generalize WX.drew = WD at *
      obtain ⟨w6, hs6, A6, k6⟩ := st_ref A.out zr
      have HS6 := hide hs6
      have C6 := C.out.kp k6 (by simp)
      obtain ⟨w7, hs7, C7, k7⟩ := st_ref C6 (hdR h)
      have HS7 := hide hs7
      have A9 := hide (A6.kp k7 (by simp))
      have C9 := hide C7
      have RX9 := hide ((RX.out.kp A.out k6).kp C6 k7)
      have B9 : Hid (Below H w w7) := (B.out.trans (k6.to_below (Nat.le_trans (Nat.le_of_eq HH.out.symm) B.out.size) (by simp))).trans (k7.to_below (Nat.le_trans (Nat.le_trans (Nat.le_of_eq HH.out.symm) B.out.size) k6.size) (by simp; omega))
      have R6 := hide (rsl_kp R5.out k6 (fun j hj => by injection hj with hj; subst hj; simp; omega))
      have R7 := hide (rsl_kp R6.out k7 (fun j hj => by injection hj with hj; subst hj; simp; omega))
      clear hs6 hs7 A6 C6 C7 k6 k7 A C RX
      refine pickA (v := ?_) 0 (some 68) rfl rfl (by kernel_rfl) (by kernel_rfl) (by kernel_rfl) (by decide) (fun _ _ _ h => h) (by rfl) ?_ (by assumption) ?_
      rotate_left
      · intro w'
        go_simp
        try with_reducible rfl
      try simp only [Act.put, List.setIfInBounds_toArray, List.set_cons_zero, List.set_cons_succ]
      refine pickA (v := ?_) 1 (some 69) rfl rfl (by kernel_rfl) (by kernel_rfl) (by kernel_rfl) (by decide) (fun _ _ _ h => h) (by rfl) ?_ (by assumption) ?_
      rotate_left
      · intro w'
        go_simp
        try with_reducible rfl
      try simp only [Act.put, List.setIfInBounds_toArray, List.set_cons_zero, List.set_cons_succ]
      refine pickA (v := ?_) 2 (some 70) rfl rfl (by kernel_rfl) (by kernel_rfl) (by kernel_rfl) (by decide) (fun _ _ _ h => h) (by rfl) ?_ (by assumption) ?_
      rotate_left
      · intro w'
        go_simp
        try with_reducible rfl
      try simp only [Act.put, List.setIfInBounds_toArray, List.set_cons_zero, List.set_cons_succ]
      refine pickA (v := .pointer (some ⟨g, o, none⟩)) 3 (some 71) rfl rfl (by kernel_rfl) (by kernel_rfl) (by kernel_rfl) (by decide) (fun _ _ _ h => h) (by rfl) ?_ (by assumption) ?_
      · intro w'
        go_simp
        try with_reducible rfl
        try simp [hj0]
      try simp only [Act.put, List.setIfInBounds_toArray, List.set_cons_zero, List.set_cons_succ]
      refine pickL (v := .agg #[.int .i64 0, .int .i64 1, .int .u64 0, .int .i64 h, .int .u64 0]) 4 (some 72) rfl rfl (by kernel_rfl) (by kernel_rfl) (by kernel_rfl) (by decide) (by kernel_rfl) (by kernel_rfl) (fun _ _ _ h => h) (by rfl) ?_ (by assumption) ?_
      · intro w' hSw
        have q0 := hSw
        exact exec_load rfl rfl (ld_h0 q0 hl0 e0)
      try simp only [Act.put, List.setIfInBounds_toArray, List.set_cons_zero, List.set_cons_succ]
      refine pickA (v := ?_) 5 (some 8) rfl rfl (by kernel_rfl) (by kernel_rfl) (by kernel_rfl) (by decide) (fun _ _ _ h => h) (by rfl) ?_ (by assumption) ?_
      rotate_left
      · intro w'
        go_simp
        try with_reducible rfl
      try simp only [Act.put, List.setIfInBounds_toArray, List.set_cons_zero, List.set_cons_succ]
      refine oneL (i := 6) (by kernel_rfl) rfl (fun K hK => ?_)
      refine step_store_w rfl 32 (.tmp 9) (.tmp 69) rfl rfl rfl HS6.out ?_
      refine hK.out _ _ ?_ ?_
      · exact R6.out
      clear hK K
      try simp only [Act.put, List.setIfInBounds_toArray]
      clear hHeld
      have hHeld : (fun w' => RSl w' (.slice (some ⟨g, o, none⟩) j vc) ro) w6 := R6.out
      refine oneL (i := 7) (by kernel_rfl) rfl (fun K hK => ?_)
      refine step_store_w rfl 32 (.tmp 10) (.tmp 72) rfl rfl rfl HS7.out ?_
      refine hK.out _ _ ?_ ?_
      · exact R7.out
      clear hK K
      try simp only [Act.put]
      clear hHeld
      have hHeld : (fun w' => RSl w' (.slice (some ⟨g, o, none⟩) j vc) ro) w7 := R7.out
      refine pickA (v := ?_) 8 (some 11) rfl rfl (by kernel_rfl) (by kernel_rfl) (by kernel_rfl) (by decide) (fun _ _ _ h => h) (by rfl) ?_ (by assumption) ?_
      rotate_left
      · intro w'
        go_simp
        try with_reducible rfl
      try simp only [Act.put]
      refine doneL (by kernel_rfl) ?_ _
      clear hHeld
      go_wp2
      refine ret_way (s := 8) (p := 9) (q := 10) (u := 11) (a := H + 1) (b := H + 1 + 1) Tryd.results6 rfl rfl rfl rfl rfl rfl A9.out C9.out ?_
      exact ⟨_, rfl, RX9.out.rw, HH.out.symm ▸ B9.out⟩
    have hjl : j < ro.length := by rw [HN.out]; exact hlt
    have hlt2 : (j : Int) < n := by omega
    obtain ⟨g, o, cap, ev, hcap, -⟩ := (RO.out _ BN.out).form (by omega)
    injection ev with ev el ec
    clear el
    subst ev ec
    have y0 : wr.cell? ⟨g, o + j * 5, none⟩ = some (.int .i64 ro[j].id) := (RO.out _ BN.out).cid j hjl
    by_cases hid : ro[j].id = d
    · have dn : (ro[j].id == d) = true := by simp [hid]
      have E := hide (lastD_yes hjl hid)
      have LL : Hid ((Instr.loadAt 32 (.pointer (some ⟨g, o + j * 5, none⟩))).run Tryd.prog wr = .ok (.agg #[.int .i64 ro[j].id, .int .i64 ro[j].rk, .int .u64 ro[j].kn, .int .i64 ro[j].ln, .int .u64 ro[j].bt]) wr) := (RO.out _ BN.out).ldr j hjl
      obtain ⟨w5, hs5, D5, k5⟩ := st_ref D.out ro[j]
      have HS5 : Hid ((Instr.storeAt 32 (.pointer (some ⟨N, 0, none⟩)) (.agg #[.int .i64 ro[j].id, .int .i64 ro[j].rk, .int .u64 ro[j].kn, .int .i64 ro[j].ln, .int .u64 ro[j].bt])).run Tryd.prog wr = .ok () w5) := hs5
      replace BN := hide (BN.out.trans (k5.to_below (hNs.out _ BN.out) (by simp)))
      clear hs5 k5 D hid
      have D := hide D5
      clear D5
      generalize ro[j] = x at *
      go_wp2_with (first | (focus ((with_reducible refine wpList_load_w ?_ 32 (.tmp 50) ?_ ?_ LL.out ?_); rotate_left; rfl; rfl; rotate_left; rfl)) | (focus ((with_reducible refine wpList_store_w ?_ 32 (.tmp 13) (.tmp 51) ?_ ?_ ?_ HS5.out ?_); rotate_left; rfl; rfl; rfl; rotate_left; rfl)))
      exact ⟨⟨j + 1, by omega, by simp, by rw [E.out], by rw [E.out]; exact D, BN⟩, by simp [intOf]; omega⟩
    · have dn : (ro[j].id == d) = false := by simp [hid]
      have E := hide (lastD_no hjl hid)
      clear hid
      generalize ro[j].id = x at *
      go_wp2
      exact ⟨⟨j + 1, by omega, by simp, by rw [E.out], by rw [E.out]; exact D, BN⟩, by simp [intOf]; omega⟩

end Go.Proofs.YtjkgacbckdipgaaDoor

/- The document's Way, to the right. -/
namespace Go.Proofs.YtjkgacbckdipgaaDoor
open Go.RowKit Go.Maps Go.ChangeMaps

set_option maxHeartbeats 16000000 in
set_option maxRecDepth 100000 in
theorem wayd_right (h d tr tn : Int) (v : Value) (l : List Rf) (hl : l.length ≤ 1000) (hbt : ∀ r ∈ l, 0 ≤ r.bt) (hg : okG h l) (r : Rf) (hF : lastD d (allRow h l) = (r, true)) (hck : ckE tr tn = 0) (htr : tr ≠ 1) (hlf : decide (keyLt r (tgR tr tn)) = !false) (hor : okR h r) (ez : Rf) (W0 : List Hp) (hW0 : W0.length ≤ 190000) (HD0 : Dw h (nxD h l) (tgR tr tn) false h r W0 ez) (w : World) (R : RSl w v l) : Calls Tryd.prog 6 #[.int .i64 h, .int .i64 d, .agg #[.int .i64 tr, .int .u64 tn], v] w fun e' w' => ∃ wv', e' = .returned (.tuple #[wv', .agg ez.cells, .agg (nxD h l 0 ez).2.cells, .int .i64 0]) ∧ Rw w' 57 6 wv' ((h, r) :: W0).length (hps ((h, r) :: W0)) ∧ Below w.heap.size w w' := by
  have HD := hide HD0
  clear HD0
  have mixed : Tryd.prog.follows .mixedOrders = true := by kernel_rfl
  have b3 : Below w.heap.size w (((w.alloc (.cells #[.int .i64 tr, .int .u64 tn] 25)).alloc (.cells #[.int .i64 0, .int .i64 0, .int .u64 0, .int .i64 0, .int .u64 0] 32)).alloc (.cells #[.int .i64 0, .int .i64 0, .int .u64 0, .int .i64 0, .int .u64 0] 32)) := (((Below.refl w.heap.size w).alloc (Nat.le_refl _) _).alloc (by simp) _).alloc (by simp; omega) _
  have Q : Hid (IsB (((w.alloc (.cells #[.int .i64 tr, .int .u64 tn] 25)).alloc (.cells #[.int .i64 0, .int .i64 0, .int .u64 0, .int .i64 0, .int .u64 0] 32)).alloc (.cells #[.int .i64 0, .int .i64 0, .int .u64 0, .int .i64 0, .int .u64 0] 32)) w.heap.size #[.int .i64 tr, .int .u64 tn] 25) := ((IsB.new w #[.int .i64 tr, .int .u64 tn] 25).below (gal1 _ (.cells #[.int .i64 0, .int .i64 0, .int .u64 0, .int .i64 0, .int .u64 0] 32))).below (gal1 _ (.cells #[.int .i64 0, .int .i64 0, .int .u64 0, .int .i64 0, .int .u64 0] 32))
  have A : Hid (IsB (((w.alloc (.cells #[.int .i64 tr, .int .u64 tn] 25)).alloc (.cells #[.int .i64 0, .int .i64 0, .int .u64 0, .int .i64 0, .int .u64 0] 32)).alloc (.cells #[.int .i64 0, .int .i64 0, .int .u64 0, .int .i64 0, .int .u64 0] 32)) (w.heap.size + 1) zr.cells 32) := by
    have h7 := (IsB.new (w.alloc (.cells #[.int .i64 tr, .int .u64 tn] 25)) #[.int .i64 0, .int .i64 0, .int .u64 0, .int .i64 0, .int .u64 0] 32).below (gal1 _ (.cells #[.int .i64 0, .int .i64 0, .int .u64 0, .int .i64 0, .int .u64 0] 32))
    rw [World.size_alloc] at h7
    exact h7
  have C : Hid (IsB (((w.alloc (.cells #[.int .i64 tr, .int .u64 tn] 25)).alloc (.cells #[.int .i64 0, .int .i64 0, .int .u64 0, .int .i64 0, .int .u64 0] 32)).alloc (.cells #[.int .i64 0, .int .i64 0, .int .u64 0, .int .i64 0, .int .u64 0] 32)) (w.heap.size + 1 + 1) zr.cells 32) := by
    have h7 := IsB.new ((w.alloc (.cells #[.int .i64 tr, .int .u64 tn] 25)).alloc (.cells #[.int .i64 0, .int .i64 0, .int .u64 0, .int .i64 0, .int .u64 0] 32)) #[.int .i64 0, .int .i64 0, .int .u64 0, .int .i64 0, .int .u64 0] 32
    rw [World.size_alloc, World.size_alloc] at h7
    exact h7
  go_enter Tryd.func6, Tryd.ntmps6
  go_wp2_with fail
  generalize (((w.alloc (.cells #[.int .i64 tr, .int .u64 tn] 25)).alloc (.cells #[.int .i64 0, .int .i64 0, .int .u64 0, .int .i64 0, .int .u64 0] 32)).alloc (.cells #[.int .i64 0, .int .i64 0, .int .u64 0, .int .i64 0, .int .u64 0] 32)) = W1 at *
  obtain ⟨H, hH⟩ : ∃ H, w.heap.size = H := ⟨_, rfl⟩
  have HH : Hid (w.heap.size = H) := hH
  rw [hH] at Q A C b3 ⊢
  have B := hide b3
  have RA : Hid (∀ w', Below H w w' → RSl w' v l) := fun w' hb => R.below (hH ▸ hb)
  clear R b3 hH
  refine (check_doc h v l hl W1 (RA.out _ B.out)).mono ?_
  rintro e w2 ⟨rfl, hb⟩
  replace Q := hide (Q.out.below hb)
  replace A := hide (A.out.below hb)
  replace C := hide (C.out.below hb)
  replace B := hide (B.out.trans (hb.mono (Nat.le_trans (Nat.le_of_eq HH.out.symm) B.out.size)))
  clear hb
  rw [chkE_yes hg]
  have HG := hide hg
  clear hg
  go_wp2_with fail
  refine (row_doc h 0 0 HG.out.1.1 HG.out.1.2 (Int.le_refl 0) v l hl hbt w2 (RA.out _ B.out)).mono ?_
  rintro e w4 ⟨vr, rfl, hrow, hb⟩
  replace Q := hide (Q.out.below hb)
  replace A := hide (A.out.below hb)
  replace C := hide (C.out.below hb)
  replace B := hide (B.out.trans (hb.mono (Nat.le_trans (Nat.le_of_eq HH.out.symm) B.out.size)))
  clear hb
  have hrl := hide (allRow_len h l hl)
  have hrow2 : Gr5 w2.heap.size w4 vr (allRow h l) := hrow
  have hsl := hrow2.rsl
  obtain ⟨va, vc, rfl, -, -⟩ := hsl.shape
  clear hrow hrow2
  obtain ⟨ro, hro⟩ : ∃ ro, allRow h l = ro := ⟨_, rfl⟩
  have HRO := hide hro
  rw [hro] at hsl hrl hF
  rw [hro]
  clear hro
  obtain ⟨n, hn⟩ : ∃ n, ro.length = n := ⟨_, rfl⟩
  have hn3 : n ≤ 3000 := hn ▸ hrl.out
  rw [hn]
  have HN := hide hn
  have D : Hid (IsB (w4.alloc (.cells #[.int .i64 0, .int .i64 0, .int .u64 0, .int .i64 0, .int .u64 0] 32)) w4.heap.size zr.cells 32) := IsB.new w4 #[.int .i64 0, .int .i64 0, .int .u64 0, .int .i64 0, .int .u64 0] 32
  have hsz : H + 1 + 1 < w4.heap.size := C.out.lt
  obtain ⟨v0, hs0, D0, k0⟩ := st_ref D.out zr
  have HS0 := hide hs0
  have BN : Hid (Below w4.heap.size w4 v0) := (gal1 w4 (.cells #[.int .i64 0, .int .i64 0, .int .u64 0, .int .i64 0, .int .u64 0] 32)).trans (k0.to_below (gal1 w4 (.cells #[.int .i64 0, .int .i64 0, .int .u64 0, .int .i64 0, .int .u64 0] 32)).size (by simp))
  replace D := hide D0
  clear hs0 D0 k0
  have hKN : H = H := rfl
  go_wp2_with (first | (focus ((with_reducible refine wpList_store_w ?_ 32 (.tmp 13) (.tmp 34) ?_ ?_ ?_ HS0.out ?_); rotate_left; rfl; rfl; rfl; rotate_left; rfl)))
  clear HS0
  have RO : Hid (∀ w', Below w4.heap.size w4 w' → RSl w' (.slice va n vc) ro) := fun w' hb => (hn ▸ hsl).below hb
  have RL : Hid (∀ w', Below w4.heap.size w4 w' → RSl w' v l) := fun w' hb => (RA.out _ B.out).below hb
  have hNs : Hid (∀ w', Below w4.heap.size w4 w' → w4.heap.size ≤ w'.heap.size) := fun w' hb => hb.size
  have hHN : H ≤ w4.heap.size := (Nat.le_trans (Nat.le_of_eq HH.out.symm) B.out.size)
  clear RA hsl hn hKN
  generalize w4.heap.size = N at *
  have KE : Hid (∀ (b : Nat) (cs : Array Value) (t : TypeId), b < N → IsB w4 b cs t → ∀ w', Below N w4 w' → IsB w' b cs t) := fun b cs t hb I w' hB => (hB.block b hb).trans I
  have B4 := B
  have A4 := A
  have C4 := C
  have Q4 := Q
  go_loopw [14, 15] (fun f i wr => ∃ j : Nat, j ≤ n ∧ i = .int .i64 (j : Int) ∧ f = .bool (lastD d (ro.take j)).2 ∧ Hid (IsB wr N (lastD d (ro.take j)).1.cells 32) ∧ Hid (Below N w4 wr)) (fun _ i _ => n - (intOf i).toNat)
  case atStart => exact ⟨0, by omega, rfl, rfl, D, BN⟩
  case round =>
    clear D BN
    obtain ⟨j, hj, rfl, rfl, D, BN⟩ := hrel
    by_cases hlt : j < n
    rotate_left
    · obtain rfl : j = n := by omega
      have d1 : decide ((j : Int) < j) = false := by simp
      have eT : ro.take j = ro := List.take_of_length_le (Nat.le_of_eq HN.out)
      rw [eT] at D ⊢
      clear eT
      replace Q := hide (KE.out _ _ _ (by omega) Q.out _ BN.out)
      replace A := hide (KE.out _ _ _ (by omega) A.out _ BN.out)
      replace C := hide (KE.out _ _ _ (by omega) C.out _ BN.out)
      replace B := hide (B.out.trans (BN.out.mono hHN))
      have d3 : decide (tr = 1) = false := decide_eq_false htr
      simp only [hF] at D ⊢
      have LK := hide (ld_k2 Q.out)
      go_wp2_with (first | (focus ((with_reducible refine wpList_load_w ?_ 25 (.tmp 6) ?_ ?_ LK.out ?_); rotate_left; rfl; rfl; rotate_left; rfl)))
      refine (isKey_any tr tn wr).mono ?_
      rintro e w8 ⟨rfl, hb⟩
      replace D := hide (D.out.below hb)
      replace Q := hide (Q.out.below hb)
      replace A := hide (A.out.below hb)
      replace C := hide (C.out.below hb)
      replace B := hide (B.out.trans (hb.mono (Nat.le_trans (Nat.le_of_eq HH.out.symm) B.out.size)))
      replace BN := hide (BN.out.trans (hb.mono (hNs.out _ BN.out)))
      clear hb LK
      have d2 : decide (ckE tr tn = 0) = true := decide_eq_true hck
      rw [d2]
      have LR1 := hide (ld_rall D.out)
      have bh := gal1 w8 (.cells #[.int .i64 h, .int .i64 r.id, .int .i64 r.rk, .int .u64 r.kn, .int .i64 r.ln, .int .u64 r.bt] 57)
      have HHB : Hid (IsB (w8.alloc (.cells #[.int .i64 h, .int .i64 r.id, .int .i64 r.rk, .int .u64 r.kn, .int .i64 r.ln, .int .u64 r.bt] 57)) w8.heap.size (hcs (h, r)).toArray 57) := IsB.new w8 _ _
      have hNW : N ≤ w8.heap.size := hNs.out _ BN.out
      replace D := hide (D.out.below bh)
      replace Q := hide (Q.out.below bh)
      replace A := hide (A.out.below bh)
      replace C := hide (C.out.below bh)
      replace B := hide (B.out.trans (bh.mono (Nat.le_trans (Nat.le_of_eq HH.out.symm) B.out.size)))
      replace BN := hide (BN.out.trans (bh.mono (hNs.out _ BN.out)))
      clear bh
      have RX : Hid (Gh N (w8.alloc (.cells #[.int .i64 h, .int .i64 r.id, .int .i64 r.rk, .int .u64 r.kn, .int .i64 r.ln, .int .u64 r.bt] 57)) (.slice (some ⟨w8.heap.size, 0, none⟩) 1 1) [(h, r)]) := Gh.one (h, r) HHB.out hNW
      clear HHB
      have y1 : (w8.alloc (.cells #[.int .i64 h, .int .i64 r.id, .int .i64 r.rk, .int .u64 r.kn, .int .i64 r.ln, .int .u64 r.bt] 57)).cell? ⟨H, 0, none⟩ = some (.int .i64 tr) := Q.out.cell 0
      have LK1 := hide (ld_rkey D.out)
      have LK2 := hide (ld_k2 Q.out)
      go_wp2_with (first | (focus ((with_reducible refine wpList_load_w ?_ 32 (.tmp 13) ?_ ?_ LR1.out ?_); rotate_left; rfl; rfl; rotate_left; rfl)) | (focus ((with_reducible refine wpList_load_w ?_ 25 (.tmp 73) ?_ ?_ LK1.out ?_); rotate_left; rfl; rfl; rotate_left; rfl)) | (focus ((with_reducible refine wpList_load_w ?_ 25 (.tmp 6) ?_ ?_ LK2.out ?_); rotate_left; rfl; rfl; rotate_left; rfl)))
      clear LK1 LK2
      generalize hWX : w8.alloc (.cells #[.int .i64 h, .int .i64 r.id, .int .i64 r.rk, .int .u64 r.kn, .int .i64 r.ln, .int .u64 r.bt] 57) = WX at *
      generalize w8.heap.size = HW at *
      clear hWX hNW LR1
      refine (r9Less_any r.rk r.kn tr tn WX).mono ?_
      rintro e w9 ⟨rfl, hb⟩
      rw [klt_key, hlf]
      replace RX := hide (RX.out.below hb)
      replace D := hide (D.out.below hb)
      replace Q := hide (Q.out.below hb)
      replace A := hide (A.out.below hb)
      replace C := hide (C.out.below hb)
      replace B := hide (B.out.trans (hb.mono (Nat.le_trans (Nat.le_of_eq HH.out.symm) B.out.size)))
      replace BN := hide (BN.out.trans (hb.mono (hNs.out _ BN.out)))
      clear hb y1
      go_wp2_with fail
      go_loopw [16, 18] (fun mv i wr => ∃ (lv : Int) (r' : Rf) (dn W : List Hp) (qa : Option Addr) (qc : Nat), i = .int .i64 lv ∧ lv ≤ h ∧ mv = .slice qa dn.length qc ∧ dn ++ W = ((h, r) :: W0) ∧ Hid (Dw h (nxD h l) (tgR tr tn) false lv r' W ez) ∧ okR h r' ∧ Hid (Gh N wr (.slice qa dn.length qc) dn) ∧ Hid (IsB wr N r'.cells 32) ∧ Hid (Below N w4 wr)) (fun mv i _ => (W0.length + 1 - lenV mv) + (intOf i + 1).toNat)
      case atStart => exact ⟨h, r, [(h, r)], W0, _, _, rfl, Int.le_refl _, rfl, rfl, HD, hor, RX, D, BN⟩
      case round =>
        clear D BN RX HD Q A C B
        obtain ⟨lv, r', dn, W, qa, qc, rfl, hlh, rfl, hfu, HDW, hor', RX, D, BN⟩ := hrel
        have hNs2 := hNs.out _ BN.out
        by_cases hlt : 0 ≤ lv
        rotate_left
        · obtain ⟨rfl, rfl⟩ := Dw.neg hlt HDW.out
          have d1 : decide (0 ≤ lv) = false := decide_eq_false hlt
          rw [List.append_nil] at hfu
          subst hfu
          obtain ⟨a, b, hab⟩ : ∃ a b, nxD h l 0 ez = (a, b) := ⟨_, _, rfl⟩
          have LR5 := hide (ld_rall D.out)
          have CN := next_doc h HG.out.1.1 HG.out.1.2 ez hor'.1 hor'.2.1 0 (Int.le_refl 0) (by rw [hor'.2.2]; exact HG.out.1.1) v l hl hbt wr (RL.out _ BN.out)
          rw [hab] at CN
          go_wp2_with (first | (focus ((with_reducible refine wpList_load_w ?_ 32 (.tmp 13) ?_ ?_ LR5.out ?_); rotate_left; rfl; rfl; rotate_left; rfl)))
          refine CN.mono ?_
          rintro e9 w10 ⟨rfl, hb⟩
          replace RX := hide (RX.out.below hb)
          replace D := hide (D.out.below hb)
          replace BN := hide (BN.out.trans (hb.mono (hNs.out _ BN.out)))
          clear hb CN LR5
          have hDN : N < w10.heap.size := D.out.lt
          have bg := ((Below.refl w10.heap.size w10).alloc (Nat.le_refl _) (.cells #[.int .i64 0, .int .i64 0, .int .u64 0, .int .i64 0, .int .u64 0] 32)).alloc (by simp) (.cells #[.int .i64 0, .int .i64 0, .int .u64 0, .int .i64 0, .int .u64 0] 32)
          have Xa : Hid (IsB ((w10.alloc (.cells #[.int .i64 0, .int .i64 0, .int .u64 0, .int .i64 0, .int .u64 0] 32)).alloc (.cells #[.int .i64 0, .int .i64 0, .int .u64 0, .int .i64 0, .int .u64 0] 32)) w10.heap.size zr.cells 32) := (IsB.new w10 #[.int .i64 0, .int .i64 0, .int .u64 0, .int .i64 0, .int .u64 0] 32).below (gal1 _ (.cells #[.int .i64 0, .int .i64 0, .int .u64 0, .int .i64 0, .int .u64 0] 32))
          have Xb : Hid (IsB ((w10.alloc (.cells #[.int .i64 0, .int .i64 0, .int .u64 0, .int .i64 0, .int .u64 0] 32)).alloc (.cells #[.int .i64 0, .int .i64 0, .int .u64 0, .int .i64 0, .int .u64 0] 32)) (w10.heap.size + 1) zr.cells 32) := by
            have h7 := IsB.new (w10.alloc (.cells #[.int .i64 0, .int .i64 0, .int .u64 0, .int .i64 0, .int .u64 0] 32)) #[.int .i64 0, .int .i64 0, .int .u64 0, .int .i64 0, .int .u64 0] 32
            rw [World.size_alloc] at h7
            exact h7
          replace RX := hide (RX.out.below bg)
          replace D := hide (D.out.below bg)
          replace BN := hide (BN.out.trans (bg.mono (hNs.out _ BN.out)))
          clear bg
          obtain ⟨w11, hs1, Xa1, k1⟩ := st_ref Xa.out a
          have HS1 := hide hs1
          replace D := hide (D.out.kp k1 (by simp <;> omega))
          replace Xb := hide (Xb.out.kp k1 (by simp <;> omega))
          replace RX := hide (RX.out.kp Xa.out k1)
          replace BN := hide (BN.out.trans (k1.to_below (hNs.out _ BN.out) (by simp <;> omega)))
          replace Xa := hide Xa1
          obtain ⟨w13, hs2, Xb1, k2⟩ := st_ref Xb.out b
          have HS2 := hide hs2
          replace D := hide (D.out.kp k2 (by simp <;> omega))
          replace RX := hide (RX.out.kp Xb.out k2)
          replace BN := hide (BN.out.trans (k2.to_below (hNs.out _ BN.out) (by simp <;> omega)))
          replace Xa := hide (Xa1.kp k2 (by simp))
          replace Xb := hide Xb1
          have hsz3 : w10.heap.size + 1 < w13.heap.size := Xb1.lt
          clear hs1 hs2 Xa1 Xb1 k1 k2
          go_wp2_with (first | (focus ((with_reducible refine wpList_store_w ?_ 32 (.tmp 22) (.tmp 126) ?_ ?_ ?_ HS1.out ?_); rotate_left; rfl; rfl; rfl; rotate_left; rfl)) | (focus ((with_reducible refine wpList_store_w ?_ 32 (.tmp 23) (.tmp 127) ?_ ?_ ?_ HS2.out ?_); rotate_left; rfl; rfl; rfl; rotate_left; rfl)))
          clear HS1 HS2
          generalize w10.heap.size = ga at *
          replace RX := hide (RX.out.below ((Below.refl _ _).drew))
          replace D := hide (D.out.below ((Below.refl _ _).drew))
          replace Xb := hide (Xb.out.below ((Below.refl _ _).drew))
          replace BN := hide (BN.out.drew)
          have A0 := hide (KE.out _ _ _ (by omega) A4.out _ BN.out)
          have C0 := hide (KE.out _ _ _ (by omega) C4.out _ BN.out)
          have hB0 : Hid (Below H w w13.drew) := B4.out.trans (BN.out.mono hHN)
          refine regionL 7 (fun w' => IsB w' N ez.cells 32 ∧ IsB w' (ga + 1) b.cells 32) mixed ⟨D.out, Xb.out⟩ (fun hHeld => ?_)
          generalize w13.drew = WE at *
          obtain ⟨w6, hs6, A6, k6⟩ := st_ref A0.out ez
          have HS6 := hide hs6
          have C6 := C0.out.kp k6 (by simp)
          obtain ⟨w7, hs7, C7, k7⟩ := st_ref C6 b
          have HS7 := hide hs7
          have A9 := hide (A6.kp k7 (by simp))
          have C9 := hide C7
          have RX9 := hide ((RX.out.kp A0.out k6).kp C6 k7)
          have hHW : H ≤ WE.heap.size := Nat.le_trans (by omega) (hNs.out _ BN.out)
          have B9 : Hid (Below H w w7) := (hB0.out.trans (k6.to_below hHW (by simp))).trans (k7.to_below (Nat.le_trans hHW k6.size) (by simp <;> omega))
          have D6 := hide (D.out.kp k6 (by simp <;> omega))
          have D7 := hide (D6.out.kp k7 (by simp <;> omega))
          have X6 := hide (Xb.out.kp k6 (by simp <;> omega))
          have X7 := hide (X6.out.kp k7 (by simp <;> omega))
          clear hs6 hs7 A6 C6 C7 k6 k7 A0 C0 RX
          refine pickA (v := ?_) 0 (some 128) rfl rfl (by kernel_rfl) (by kernel_rfl) (by kernel_rfl) (by decide) (fun _ _ _ h => h) (by rfl) ?_ (by assumption) ?_
          rotate_left
          · intro w'
            go_simp
            try with_reducible rfl
          try simp only [Act.put, List.setIfInBounds_toArray, List.set_cons_zero, List.set_cons_succ]
          refine pickL (v := .agg #[.int .i64 ez.id, .int .i64 ez.rk, .int .u64 ez.kn, .int .i64 ez.ln, .int .u64 ez.bt]) 1 (some 129) rfl rfl (by kernel_rfl) (by kernel_rfl) (by kernel_rfl) (by decide) (by kernel_rfl) (by kernel_rfl) (fun _ _ _ h => h) (by rfl) ?_ (by assumption) ?_
          · intro w' hSw
            obtain ⟨q0, q1⟩ := hSw
            exact exec_load rfl rfl (ld_rall q0)
          try simp only [Act.put, List.setIfInBounds_toArray, List.set_cons_zero, List.set_cons_succ]
          refine pickL (v := .agg #[.int .i64 b.id, .int .i64 b.rk, .int .u64 b.kn, .int .i64 b.ln, .int .u64 b.bt]) 2 (some 130) rfl rfl (by kernel_rfl) (by kernel_rfl) (by kernel_rfl) (by decide) (by kernel_rfl) (by kernel_rfl) (fun _ _ _ h => h) (by rfl) ?_ (by assumption) ?_
          · intro w' hSw
            obtain ⟨q0, q1⟩ := hSw
            exact exec_load rfl rfl (ld_rall q1)
          try simp only [Act.put, List.setIfInBounds_toArray, List.set_cons_zero, List.set_cons_succ]
          refine pickA (v := ?_) 3 (some 8) rfl rfl (by kernel_rfl) (by kernel_rfl) (by kernel_rfl) (by decide) (fun _ _ _ h => h) (by rfl) ?_ (by assumption) ?_
          rotate_left
          · intro w'
            go_simp
            try with_reducible rfl
          try simp only [Act.put, List.setIfInBounds_toArray, List.set_cons_zero, List.set_cons_succ]
          refine oneL (i := 4) (by kernel_rfl) rfl (fun K hK => ?_)
          refine step_store_w rfl 32 (.tmp 9) (.tmp 129) rfl rfl rfl HS6.out ?_
          refine hK.out _ _ ?_ ?_
          · exact ⟨D6.out, X6.out⟩
          clear hK K
          try simp only [Act.put, List.setIfInBounds_toArray]
          clear hHeld
          have hHeld : (fun w' => IsB w' N ez.cells 32 ∧ IsB w' (ga + 1) b.cells 32) w6 := ⟨D6.out, X6.out⟩
          refine oneL (i := 5) (by kernel_rfl) rfl (fun K hK => ?_)
          refine step_store_w rfl 32 (.tmp 10) (.tmp 130) rfl rfl rfl HS7.out ?_
          refine hK.out _ _ ?_ ?_
          · exact ⟨D7.out, X7.out⟩
          clear hK K
          try simp only [Act.put]
          clear hHeld
          have hHeld : (fun w' => IsB w' N ez.cells 32 ∧ IsB w' (ga + 1) b.cells 32) w7 := ⟨D7.out, X7.out⟩
          refine pickA (v := ?_) 6 (some 11) rfl rfl (by kernel_rfl) (by kernel_rfl) (by kernel_rfl) (by decide) (fun _ _ _ h => h) (by rfl) ?_ (by assumption) ?_
          rotate_left
          · intro w'
            go_simp
            try with_reducible rfl
          try simp only [Act.put]
          refine doneL (by kernel_rfl) ?_ _
          clear hHeld
          go_wp2
          refine ret_way (s := 8) (p := 9) (q := 10) (u := 11) (a := H + 1) (b := H + 1 + 1) Tryd.results6 rfl rfl rfl rfl rfl rfl A9.out C9.out ?_
          exact ⟨_, rfl, RX9.out.rw, HH.out.symm ▸ B9.out⟩
        have d1 : decide (0 ≤ lv) = true := decide_eq_true hlt
        have h32 : h ≤ 32 := HG.out.1.2
        have hml : dn.length + W.length = W0.length + 1 := by
          have h9 := congrArg List.length hfu
          simpa using h9
        have hdl : dn.length ≤ 200000 := by omega
        obtain ⟨a, b, hab⟩ : ∃ a b, nxD h l lv r' = (a, b) := ⟨_, _, rfl⟩
        have LR5 := hide (ld_rall D.out)
        have CN := next_doc h HG.out.1.1 HG.out.1.2 r' hor'.1 hor'.2.1 lv hlt (by rw [hor'.2.2]; exact hlh) v l hl hbt wr (RL.out _ BN.out)
        rw [hab] at CN
        go_wp2_with (first | (focus ((with_reducible refine wpList_load_w ?_ 32 (.tmp 13) ?_ ?_ LR5.out ?_); rotate_left; rfl; rfl; rotate_left; rfl)))
        refine CN.mono ?_
        rintro e9 w10 ⟨rfl, hb⟩
        replace RX := hide (RX.out.below hb)
        replace D := hide (D.out.below hb)
        replace BN := hide (BN.out.trans (hb.mono (hNs.out _ BN.out)))
        clear hb CN LR5
        have hDN : N < w10.heap.size := D.out.lt
        have bg := ((Below.refl w10.heap.size w10).alloc (Nat.le_refl _) (.cells #[.int .i64 0, .int .i64 0, .int .u64 0, .int .i64 0, .int .u64 0] 32)).alloc (by simp) (.cells #[.int .i64 0, .int .i64 0, .int .u64 0, .int .i64 0, .int .u64 0] 32)
        have Xa : Hid (IsB ((w10.alloc (.cells #[.int .i64 0, .int .i64 0, .int .u64 0, .int .i64 0, .int .u64 0] 32)).alloc (.cells #[.int .i64 0, .int .i64 0, .int .u64 0, .int .i64 0, .int .u64 0] 32)) w10.heap.size zr.cells 32) := (IsB.new w10 #[.int .i64 0, .int .i64 0, .int .u64 0, .int .i64 0, .int .u64 0] 32).below (gal1 _ (.cells #[.int .i64 0, .int .i64 0, .int .u64 0, .int .i64 0, .int .u64 0] 32))
        have Xb : Hid (IsB ((w10.alloc (.cells #[.int .i64 0, .int .i64 0, .int .u64 0, .int .i64 0, .int .u64 0] 32)).alloc (.cells #[.int .i64 0, .int .i64 0, .int .u64 0, .int .i64 0, .int .u64 0] 32)) (w10.heap.size + 1) zr.cells 32) := by
          have h7 := IsB.new (w10.alloc (.cells #[.int .i64 0, .int .i64 0, .int .u64 0, .int .i64 0, .int .u64 0] 32)) #[.int .i64 0, .int .i64 0, .int .u64 0, .int .i64 0, .int .u64 0] 32
          rw [World.size_alloc] at h7
          exact h7
        replace RX := hide (RX.out.below bg)
        replace D := hide (D.out.below bg)
        replace BN := hide (BN.out.trans (bg.mono (hNs.out _ BN.out)))
        clear bg
        obtain ⟨w11, hs1, Xa1, k1⟩ := st_ref Xa.out a
        have HS1 := hide hs1
        replace D := hide (D.out.kp k1 (by simp <;> omega))
        replace Xb := hide (Xb.out.kp k1 (by simp <;> omega))
        replace RX := hide (RX.out.kp Xa.out k1)
        replace BN := hide (BN.out.trans (k1.to_below (hNs.out _ BN.out) (by simp <;> omega)))
        replace Xa := hide Xa1
        obtain ⟨w13, hs2, Xb1, k2⟩ := st_ref Xb.out b
        have HS2 := hide hs2
        replace D := hide (D.out.kp k2 (by simp <;> omega))
        replace RX := hide (RX.out.kp Xb.out k2)
        replace BN := hide (BN.out.trans (k2.to_below (hNs.out _ BN.out) (by simp <;> omega)))
        replace Xa := hide (Xa1.kp k2 (by simp))
        replace Xb := hide Xb1
        have hsz3 : w10.heap.size + 1 < w13.heap.size := Xb1.lt
        clear hs1 hs2 Xa1 Xb1 k1 k2
        have LB := hide (ld_rall Xb.out)
        have bn := gal1 w13 (.cells #[.int .i64 0, .int .i64 0, .int .u64 0, .int .i64 0, .int .u64 0] 32)
        have Xn : Hid (IsB (w13.alloc (.cells #[.int .i64 0, .int .i64 0, .int .u64 0, .int .i64 0, .int .u64 0] 32)) w13.heap.size zr.cells 32) := IsB.new w13 #[.int .i64 0, .int .i64 0, .int .u64 0, .int .i64 0, .int .u64 0] 32
        replace RX := hide (RX.out.below bn)
        replace D := hide (D.out.below bn)
        replace Xa := hide (Xa.out.below bn)
        replace Xb := hide (Xb.out.below bn)
        replace BN := hide (BN.out.trans (bn.mono (hNs.out _ BN.out)))
        clear bn
        obtain ⟨w14, hs3, Xn1, k3⟩ := st_ref Xn.out b
        have HS3 := hide hs3
        replace D := hide (D.out.kp k3 (by simp <;> omega))
        replace Xa := hide (Xa.out.kp k3 (by simp <;> omega))
        replace Xb := hide (Xb.out.kp k3 (by simp <;> omega))
        replace RX := hide (RX.out.kp Xn.out k3)
        replace BN := hide (BN.out.trans (k3.to_below (hNs.out _ BN.out) (by simp <;> omega)))
        replace Xn := hide Xn1
        clear hs3 Xn1 k3
        have Q := hide (KE.out _ _ _ (by omega) Q4.out _ BN.out)
        have LK1 := hide (ld_rkey Xn.out)
        have LK2 := hide (ld_k2 Q.out)
        go_wp2_with (first | (focus ((with_reducible refine wpList_store_w ?_ 32 (.tmp 19) (.tmp 87) ?_ ?_ ?_ HS1.out ?_); rotate_left; rfl; rfl; rfl; rotate_left; rfl)) | (focus ((with_reducible refine wpList_store_w ?_ 32 (.tmp 20) (.tmp 88) ?_ ?_ ?_ HS2.out ?_); rotate_left; rfl; rfl; rfl; rotate_left; rfl)) | (focus ((with_reducible refine wpList_load_w ?_ 32 (.tmp 20) ?_ ?_ LB.out ?_); rotate_left; rfl; rfl; rotate_left; rfl)) | (focus ((with_reducible refine wpList_store_w ?_ 32 (.tmp 21) (.tmp 89) ?_ ?_ ?_ HS3.out ?_); rotate_left; rfl; rfl; rfl; rotate_left; rfl)) | (focus ((with_reducible refine wpList_load_w ?_ 25 (.tmp 96) ?_ ?_ LK1.out ?_); rotate_left; rfl; rfl; rotate_left; rfl)) | (focus ((with_reducible refine wpList_load_w ?_ 25 (.tmp 6) ?_ ?_ LK2.out ?_); rotate_left; rfl; rfl; rotate_left; rfl)))
        clear HS1 HS2 HS3 LB
        generalize w10.heap.size = ga at *
        generalize w13.heap.size = gn at *
        refine (r9Less_any b.rk b.kn tr tn w14).mono ?_
        rintro e9 w16 ⟨rfl, hb⟩
        rw [klt_key]
        replace RX := hide (RX.out.below hb)
        replace D := hide (D.out.below hb)
        replace Xn := hide (Xn.out.below hb)
        replace BN := hide (BN.out.trans (hb.mono (hNs.out _ BN.out)))
        clear hb LK1 LK2 Q
        rcases Dw.stepR hlt hab HDW.out with ⟨hc, hok, W', rfl, D'⟩ | ⟨hc, D'⟩
        · rw [hc]
          have LN := hide (ld_rall Xn.out)
          obtain ⟨w17, hs5, D1, k5⟩ := st_ref D.out b
          have HS5 := hide hs5
          replace RX := hide (RX.out.kp D.out k5)
          replace BN := hide (BN.out.trans (k5.to_below (hNs.out _ BN.out) (by simp)))
          replace D := hide D1
          clear hs5 D1 k5
          have LD5 := hide (ld_rall D.out)
          obtain ⟨ra, rc, wA, hap, hRo, hBa, hDa⟩ := push_hop RX.out (lv, b) (by omega) (hNs.out _ BN.out) 28
          have HAP := hide hap
          have RX2 := hide hRo
          have D2 := hide (hDa _ _ D.out)
          have BN2 := hide (BN.out.trans hBa)
          clear hap hRo hBa hDa D RX BN Xa Xb Xn
          obtain ⟨mn, hmn⟩ : ∃ mn, dn.length = mn := ⟨_, rfl⟩
          rw [hmn] at HAP RX2 ⊢
          go_wp2_with (first | (focus ((with_reducible refine wpList_load_w ?_ 32 (.tmp 21) ?_ ?_ LN.out ?_); rotate_left; rfl; rfl; rotate_left; rfl)) | (focus ((with_reducible refine wpList_store_w ?_ 32 (.tmp 13) (.tmp 101) ?_ ?_ ?_ HS5.out ?_); rotate_left; rfl; rfl; rfl; rotate_left; rfl)) | (focus ((with_reducible refine wpList_load_w ?_ 32 (.tmp 13) ?_ ?_ LD5.out ?_); rotate_left; rfl; rfl; rotate_left; rfl)) | (at_builtin; refine wpList_append_eq rfl (.tmp 102) (.tmp 106) 28 rfl _ _ (.slice ra (mn + 1) rc) wA rfl rfl HAP.out ?_))
          exact ⟨⟨lv, b, dn ++ [(lv, b)], W', ra, rc, rfl, hlh, by simp [hmn], by rw [← hfu]; simp, hide D', hok, hide (by simpa [hmn] using RX2.out), D2, BN2⟩, by simp [intOf, lenV, hmn] at hml ⊢; omega⟩
        · rw [hc]
          clear Xa Xb Xn
          by_cases hz : lv = 0
          · have dz : decide (lv = 0) = true := decide_eq_true hz
            go_wp2
            exact ⟨⟨lv - 1, r', dn, W, qa, qc, (by rw [hz]; rfl), by omega, rfl, hfu, hide D', hor', RX, D, BN⟩, (by simp [intOf, lenV]; omega)⟩
          · have dz : decide (lv = 0) = false := decide_eq_false hz
            go_wp2
            exact ⟨⟨lv - 1, r', dn, W, qa, qc, rfl, by omega, rfl, hfu, hide D', hor', RX, D, BN⟩, (by simp [intOf, lenV]; omega)⟩
    have hjl : j < ro.length := by rw [HN.out]; exact hlt
    have hlt2 : (j : Int) < n := by omega
    obtain ⟨g, o, cap, ev, hcap, -⟩ := (RO.out _ BN.out).form (by omega)
    injection ev with ev el ec
    clear el
    subst ev ec
    have y0 : wr.cell? ⟨g, o + j * 5, none⟩ = some (.int .i64 ro[j].id) := (RO.out _ BN.out).cid j hjl
    by_cases hid : ro[j].id = d
    · have dn : (ro[j].id == d) = true := by simp [hid]
      have E := hide (lastD_yes hjl hid)
      have LL : Hid ((Instr.loadAt 32 (.pointer (some ⟨g, o + j * 5, none⟩))).run Tryd.prog wr = .ok (.agg #[.int .i64 ro[j].id, .int .i64 ro[j].rk, .int .u64 ro[j].kn, .int .i64 ro[j].ln, .int .u64 ro[j].bt]) wr) := (RO.out _ BN.out).ldr j hjl
      obtain ⟨w5, hs5, D5, k5⟩ := st_ref D.out ro[j]
      have HS5 : Hid ((Instr.storeAt 32 (.pointer (some ⟨N, 0, none⟩)) (.agg #[.int .i64 ro[j].id, .int .i64 ro[j].rk, .int .u64 ro[j].kn, .int .i64 ro[j].ln, .int .u64 ro[j].bt])).run Tryd.prog wr = .ok () w5) := hs5
      replace BN := hide (BN.out.trans (k5.to_below (hNs.out _ BN.out) (by simp)))
      clear hs5 k5 D hid
      have D := hide D5
      clear D5
      generalize ro[j] = x at *
      go_wp2_with (first | (focus ((with_reducible refine wpList_load_w ?_ 32 (.tmp 50) ?_ ?_ LL.out ?_); rotate_left; rfl; rfl; rotate_left; rfl)) | (focus ((with_reducible refine wpList_store_w ?_ 32 (.tmp 13) (.tmp 51) ?_ ?_ ?_ HS5.out ?_); rotate_left; rfl; rfl; rfl; rotate_left; rfl)))
      exact ⟨⟨j + 1, by omega, by simp, by rw [E.out], by rw [E.out]; exact D, BN⟩, by simp [intOf]; omega⟩
    · have dn : (ro[j].id == d) = false := by simp [hid]
      have E := hide (lastD_no hjl hid)
      clear hid
      generalize ro[j].id = x at *
      go_wp2
      exact ⟨⟨j + 1, by omega, by simp, by rw [E.out], by rw [E.out]; exact D, BN⟩, by simp [intOf]; omega⟩

end Go.Proofs.YtjkgacbckdipgaaDoor

/- The document's Way, to the left. -/
namespace Go.Proofs.YtjkgacbckdipgaaDoor
open Go.RowKit Go.Maps Go.ChangeMaps

set_option maxHeartbeats 16000000 in
set_option maxRecDepth 100000 in
theorem wayd_left (h d tr tn : Int) (v : Value) (l : List Rf) (hl : l.length ≤ 1000) (hbt : ∀ r ∈ l, 0 ≤ r.bt) (hg : okG h l) (r : Rf) (hF : lastD d (allRow h l) = (r, true)) (hck : ckE tr tn = 0) (htr : tr ≠ 1) (hlf : decide (keyLt r (tgR tr tn)) = !true) (hor : okR h r) (ez : Rf) (W0 : List Hp) (hW0 : W0.length ≤ 190000) (HD0 : Dw h (nxD h l) (tgR tr tn) true h r W0 ez) (w : World) (R : RSl w v l) : Calls Tryd.prog 6 #[.int .i64 h, .int .i64 d, .agg #[.int .i64 tr, .int .u64 tn], v] w fun e' w' => ∃ wv', e' = .returned (.tuple #[wv', .agg ez.cells, .agg (nxD h l 0 ez).2.cells, .int .i64 0]) ∧ Rw w' 57 6 wv' ((h, r) :: W0).length (hps ((h, r) :: W0)) ∧ Below w.heap.size w w' := by
  have HD := hide HD0
  clear HD0
  have mixed : Tryd.prog.follows .mixedOrders = true := by kernel_rfl
  have b3 : Below w.heap.size w (((w.alloc (.cells #[.int .i64 tr, .int .u64 tn] 25)).alloc (.cells #[.int .i64 0, .int .i64 0, .int .u64 0, .int .i64 0, .int .u64 0] 32)).alloc (.cells #[.int .i64 0, .int .i64 0, .int .u64 0, .int .i64 0, .int .u64 0] 32)) := (((Below.refl w.heap.size w).alloc (Nat.le_refl _) _).alloc (by simp) _).alloc (by simp; omega) _
  have Q : Hid (IsB (((w.alloc (.cells #[.int .i64 tr, .int .u64 tn] 25)).alloc (.cells #[.int .i64 0, .int .i64 0, .int .u64 0, .int .i64 0, .int .u64 0] 32)).alloc (.cells #[.int .i64 0, .int .i64 0, .int .u64 0, .int .i64 0, .int .u64 0] 32)) w.heap.size #[.int .i64 tr, .int .u64 tn] 25) := ((IsB.new w #[.int .i64 tr, .int .u64 tn] 25).below (gal1 _ (.cells #[.int .i64 0, .int .i64 0, .int .u64 0, .int .i64 0, .int .u64 0] 32))).below (gal1 _ (.cells #[.int .i64 0, .int .i64 0, .int .u64 0, .int .i64 0, .int .u64 0] 32))
  have A : Hid (IsB (((w.alloc (.cells #[.int .i64 tr, .int .u64 tn] 25)).alloc (.cells #[.int .i64 0, .int .i64 0, .int .u64 0, .int .i64 0, .int .u64 0] 32)).alloc (.cells #[.int .i64 0, .int .i64 0, .int .u64 0, .int .i64 0, .int .u64 0] 32)) (w.heap.size + 1) zr.cells 32) := by
    have h7 := (IsB.new (w.alloc (.cells #[.int .i64 tr, .int .u64 tn] 25)) #[.int .i64 0, .int .i64 0, .int .u64 0, .int .i64 0, .int .u64 0] 32).below (gal1 _ (.cells #[.int .i64 0, .int .i64 0, .int .u64 0, .int .i64 0, .int .u64 0] 32))
    rw [World.size_alloc] at h7
    exact h7
  have C : Hid (IsB (((w.alloc (.cells #[.int .i64 tr, .int .u64 tn] 25)).alloc (.cells #[.int .i64 0, .int .i64 0, .int .u64 0, .int .i64 0, .int .u64 0] 32)).alloc (.cells #[.int .i64 0, .int .i64 0, .int .u64 0, .int .i64 0, .int .u64 0] 32)) (w.heap.size + 1 + 1) zr.cells 32) := by
    have h7 := IsB.new ((w.alloc (.cells #[.int .i64 tr, .int .u64 tn] 25)).alloc (.cells #[.int .i64 0, .int .i64 0, .int .u64 0, .int .i64 0, .int .u64 0] 32)) #[.int .i64 0, .int .i64 0, .int .u64 0, .int .i64 0, .int .u64 0] 32
    rw [World.size_alloc, World.size_alloc] at h7
    exact h7
  go_enter Tryd.func6, Tryd.ntmps6
  go_wp2_with fail
  generalize (((w.alloc (.cells #[.int .i64 tr, .int .u64 tn] 25)).alloc (.cells #[.int .i64 0, .int .i64 0, .int .u64 0, .int .i64 0, .int .u64 0] 32)).alloc (.cells #[.int .i64 0, .int .i64 0, .int .u64 0, .int .i64 0, .int .u64 0] 32)) = W1 at *
  obtain ⟨H, hH⟩ : ∃ H, w.heap.size = H := ⟨_, rfl⟩
  have HH : Hid (w.heap.size = H) := hH
  rw [hH] at Q A C b3 ⊢
  have B := hide b3
  have RA : Hid (∀ w', Below H w w' → RSl w' v l) := fun w' hb => R.below (hH ▸ hb)
  clear R b3 hH
  refine (check_doc h v l hl W1 (RA.out _ B.out)).mono ?_
  rintro e w2 ⟨rfl, hb⟩
  replace Q := hide (Q.out.below hb)
  replace A := hide (A.out.below hb)
  replace C := hide (C.out.below hb)
  replace B := hide (B.out.trans (hb.mono (Nat.le_trans (Nat.le_of_eq HH.out.symm) B.out.size)))
  clear hb
  rw [chkE_yes hg]
  have HG := hide hg
  clear hg
  go_wp2_with fail
  refine (row_doc h 0 0 HG.out.1.1 HG.out.1.2 (Int.le_refl 0) v l hl hbt w2 (RA.out _ B.out)).mono ?_
  rintro e w4 ⟨vr, rfl, hrow, hb⟩
  replace Q := hide (Q.out.below hb)
  replace A := hide (A.out.below hb)
  replace C := hide (C.out.below hb)
  replace B := hide (B.out.trans (hb.mono (Nat.le_trans (Nat.le_of_eq HH.out.symm) B.out.size)))
  clear hb
  have hrl := hide (allRow_len h l hl)
  have hrow2 : Gr5 w2.heap.size w4 vr (allRow h l) := hrow
  have hsl := hrow2.rsl
  obtain ⟨va, vc, rfl, -, -⟩ := hsl.shape
  clear hrow hrow2
  obtain ⟨ro, hro⟩ : ∃ ro, allRow h l = ro := ⟨_, rfl⟩
  have HRO := hide hro
  rw [hro] at hsl hrl hF
  rw [hro]
  clear hro
  obtain ⟨n, hn⟩ : ∃ n, ro.length = n := ⟨_, rfl⟩
  have hn3 : n ≤ 3000 := hn ▸ hrl.out
  rw [hn]
  have HN := hide hn
  have D : Hid (IsB (w4.alloc (.cells #[.int .i64 0, .int .i64 0, .int .u64 0, .int .i64 0, .int .u64 0] 32)) w4.heap.size zr.cells 32) := IsB.new w4 #[.int .i64 0, .int .i64 0, .int .u64 0, .int .i64 0, .int .u64 0] 32
  have hsz : H + 1 + 1 < w4.heap.size := C.out.lt
  obtain ⟨v0, hs0, D0, k0⟩ := st_ref D.out zr
  have HS0 := hide hs0
  have BN : Hid (Below w4.heap.size w4 v0) := (gal1 w4 (.cells #[.int .i64 0, .int .i64 0, .int .u64 0, .int .i64 0, .int .u64 0] 32)).trans (k0.to_below (gal1 w4 (.cells #[.int .i64 0, .int .i64 0, .int .u64 0, .int .i64 0, .int .u64 0] 32)).size (by simp))
  replace D := hide D0
  clear hs0 D0 k0
  have hKN : H = H := rfl
  go_wp2_with (first | (focus ((with_reducible refine wpList_store_w ?_ 32 (.tmp 13) (.tmp 34) ?_ ?_ ?_ HS0.out ?_); rotate_left; rfl; rfl; rfl; rotate_left; rfl)))
  clear HS0
  have RO : Hid (∀ w', Below w4.heap.size w4 w' → RSl w' (.slice va n vc) ro) := fun w' hb => (hn ▸ hsl).below hb
  have RL : Hid (∀ w', Below w4.heap.size w4 w' → RSl w' v l) := fun w' hb => (RA.out _ B.out).below hb
  have hNs : Hid (∀ w', Below w4.heap.size w4 w' → w4.heap.size ≤ w'.heap.size) := fun w' hb => hb.size
  have hHN : H ≤ w4.heap.size := (Nat.le_trans (Nat.le_of_eq HH.out.symm) B.out.size)
  clear RA hsl hn hKN
  generalize w4.heap.size = N at *
  have KE : Hid (∀ (b : Nat) (cs : Array Value) (t : TypeId), b < N → IsB w4 b cs t → ∀ w', Below N w4 w' → IsB w' b cs t) := fun b cs t hb I w' hB => (hB.block b hb).trans I
  have B4 := B
  have A4 := A
  have C4 := C
  have Q4 := Q
  go_loopw [14, 15] (fun f i wr => ∃ j : Nat, j ≤ n ∧ i = .int .i64 (j : Int) ∧ f = .bool (lastD d (ro.take j)).2 ∧ Hid (IsB wr N (lastD d (ro.take j)).1.cells 32) ∧ Hid (Below N w4 wr)) (fun _ i _ => n - (intOf i).toNat)
  case atStart => exact ⟨0, by omega, rfl, rfl, D, BN⟩
  case round =>
    clear D BN
    obtain ⟨j, hj, rfl, rfl, D, BN⟩ := hrel
    by_cases hlt : j < n
    rotate_left
    · obtain rfl : j = n := by omega
      have d1 : decide ((j : Int) < j) = false := by simp
      have eT : ro.take j = ro := List.take_of_length_le (Nat.le_of_eq HN.out)
      rw [eT] at D ⊢
      clear eT
      replace Q := hide (KE.out _ _ _ (by omega) Q.out _ BN.out)
      replace A := hide (KE.out _ _ _ (by omega) A.out _ BN.out)
      replace C := hide (KE.out _ _ _ (by omega) C.out _ BN.out)
      replace B := hide (B.out.trans (BN.out.mono hHN))
      have d3 : decide (tr = 1) = false := decide_eq_false htr
      simp only [hF] at D ⊢
      have LK := hide (ld_k2 Q.out)
      go_wp2_with (first | (focus ((with_reducible refine wpList_load_w ?_ 25 (.tmp 6) ?_ ?_ LK.out ?_); rotate_left; rfl; rfl; rotate_left; rfl)))
      refine (isKey_any tr tn wr).mono ?_
      rintro e w8 ⟨rfl, hb⟩
      replace D := hide (D.out.below hb)
      replace Q := hide (Q.out.below hb)
      replace A := hide (A.out.below hb)
      replace C := hide (C.out.below hb)
      replace B := hide (B.out.trans (hb.mono (Nat.le_trans (Nat.le_of_eq HH.out.symm) B.out.size)))
      replace BN := hide (BN.out.trans (hb.mono (hNs.out _ BN.out)))
      clear hb LK
      have d2 : decide (ckE tr tn = 0) = true := decide_eq_true hck
      rw [d2]
      have LR1 := hide (ld_rall D.out)
      have bh := gal1 w8 (.cells #[.int .i64 h, .int .i64 r.id, .int .i64 r.rk, .int .u64 r.kn, .int .i64 r.ln, .int .u64 r.bt] 57)
      have HHB : Hid (IsB (w8.alloc (.cells #[.int .i64 h, .int .i64 r.id, .int .i64 r.rk, .int .u64 r.kn, .int .i64 r.ln, .int .u64 r.bt] 57)) w8.heap.size (hcs (h, r)).toArray 57) := IsB.new w8 _ _
      have hNW : N ≤ w8.heap.size := hNs.out _ BN.out
      replace D := hide (D.out.below bh)
      replace Q := hide (Q.out.below bh)
      replace A := hide (A.out.below bh)
      replace C := hide (C.out.below bh)
      replace B := hide (B.out.trans (bh.mono (Nat.le_trans (Nat.le_of_eq HH.out.symm) B.out.size)))
      replace BN := hide (BN.out.trans (bh.mono (hNs.out _ BN.out)))
      clear bh
      have RX : Hid (Gh N (w8.alloc (.cells #[.int .i64 h, .int .i64 r.id, .int .i64 r.rk, .int .u64 r.kn, .int .i64 r.ln, .int .u64 r.bt] 57)) (.slice (some ⟨w8.heap.size, 0, none⟩) 1 1) [(h, r)]) := Gh.one (h, r) HHB.out hNW
      clear HHB
      have y1 : (w8.alloc (.cells #[.int .i64 h, .int .i64 r.id, .int .i64 r.rk, .int .u64 r.kn, .int .i64 r.ln, .int .u64 r.bt] 57)).cell? ⟨H, 0, none⟩ = some (.int .i64 tr) := Q.out.cell 0
      have LK1 := hide (ld_rkey D.out)
      have LK2 := hide (ld_k2 Q.out)
      go_wp2_with (first | (focus ((with_reducible refine wpList_load_w ?_ 32 (.tmp 13) ?_ ?_ LR1.out ?_); rotate_left; rfl; rfl; rotate_left; rfl)) | (focus ((with_reducible refine wpList_load_w ?_ 25 (.tmp 73) ?_ ?_ LK1.out ?_); rotate_left; rfl; rfl; rotate_left; rfl)) | (focus ((with_reducible refine wpList_load_w ?_ 25 (.tmp 6) ?_ ?_ LK2.out ?_); rotate_left; rfl; rfl; rotate_left; rfl)))
      clear LK1 LK2
      generalize hWX : w8.alloc (.cells #[.int .i64 h, .int .i64 r.id, .int .i64 r.rk, .int .u64 r.kn, .int .i64 r.ln, .int .u64 r.bt] 57) = WX at *
      generalize w8.heap.size = HW at *
      clear hWX hNW LR1
      refine (r9Less_any r.rk r.kn tr tn WX).mono ?_
      rintro e w9 ⟨rfl, hb⟩
      rw [klt_key, hlf]
      replace RX := hide (RX.out.below hb)
      replace D := hide (D.out.below hb)
      replace Q := hide (Q.out.below hb)
      replace A := hide (A.out.below hb)
      replace C := hide (C.out.below hb)
      replace B := hide (B.out.trans (hb.mono (Nat.le_trans (Nat.le_of_eq HH.out.symm) B.out.size)))
      replace BN := hide (BN.out.trans (hb.mono (hNs.out _ BN.out)))
      clear hb y1
      go_wp2_with fail
      go_loopw [16, 18] (fun mv i wr => ∃ (lv : Int) (r' : Rf) (dn W : List Hp) (qa : Option Addr) (qc : Nat), i = .int .i64 lv ∧ lv ≤ h ∧ mv = .slice qa dn.length qc ∧ dn ++ W = ((h, r) :: W0) ∧ Hid (Dw h (nxD h l) (tgR tr tn) true lv r' W ez) ∧ okR h r' ∧ Hid (Gh N wr (.slice qa dn.length qc) dn) ∧ Hid (IsB wr N r'.cells 32) ∧ Hid (Below N w4 wr)) (fun mv i _ => (W0.length + 1 - lenV mv) + (intOf i + 1).toNat)
      case atStart => exact ⟨h, r, [(h, r)], W0, _, _, rfl, Int.le_refl _, rfl, rfl, HD, hor, RX, D, BN⟩
      case round =>
        clear D BN RX HD Q A C B
        obtain ⟨lv, r', dn, W, qa, qc, rfl, hlh, rfl, hfu, HDW, hor', RX, D, BN⟩ := hrel
        have hNs2 := hNs.out _ BN.out
        by_cases hlt : 0 ≤ lv
        rotate_left
        · obtain ⟨rfl, rfl⟩ := Dw.neg hlt HDW.out
          have d1 : decide (0 ≤ lv) = false := decide_eq_false hlt
          rw [List.append_nil] at hfu
          subst hfu
          obtain ⟨a, b, hab⟩ : ∃ a b, nxD h l 0 ez = (a, b) := ⟨_, _, rfl⟩
          have LR5 := hide (ld_rall D.out)
          have CN := next_doc h HG.out.1.1 HG.out.1.2 ez hor'.1 hor'.2.1 0 (Int.le_refl 0) (by rw [hor'.2.2]; exact HG.out.1.1) v l hl hbt wr (RL.out _ BN.out)
          rw [hab] at CN
          go_wp2_with (first | (focus ((with_reducible refine wpList_load_w ?_ 32 (.tmp 13) ?_ ?_ LR5.out ?_); rotate_left; rfl; rfl; rotate_left; rfl)))
          refine CN.mono ?_
          rintro e9 w10 ⟨rfl, hb⟩
          replace RX := hide (RX.out.below hb)
          replace D := hide (D.out.below hb)
          replace BN := hide (BN.out.trans (hb.mono (hNs.out _ BN.out)))
          clear hb CN LR5
          have hDN : N < w10.heap.size := D.out.lt
          have bg := ((Below.refl w10.heap.size w10).alloc (Nat.le_refl _) (.cells #[.int .i64 0, .int .i64 0, .int .u64 0, .int .i64 0, .int .u64 0] 32)).alloc (by simp) (.cells #[.int .i64 0, .int .i64 0, .int .u64 0, .int .i64 0, .int .u64 0] 32)
          have Xa : Hid (IsB ((w10.alloc (.cells #[.int .i64 0, .int .i64 0, .int .u64 0, .int .i64 0, .int .u64 0] 32)).alloc (.cells #[.int .i64 0, .int .i64 0, .int .u64 0, .int .i64 0, .int .u64 0] 32)) w10.heap.size zr.cells 32) := (IsB.new w10 #[.int .i64 0, .int .i64 0, .int .u64 0, .int .i64 0, .int .u64 0] 32).below (gal1 _ (.cells #[.int .i64 0, .int .i64 0, .int .u64 0, .int .i64 0, .int .u64 0] 32))
          have Xb : Hid (IsB ((w10.alloc (.cells #[.int .i64 0, .int .i64 0, .int .u64 0, .int .i64 0, .int .u64 0] 32)).alloc (.cells #[.int .i64 0, .int .i64 0, .int .u64 0, .int .i64 0, .int .u64 0] 32)) (w10.heap.size + 1) zr.cells 32) := by
            have h7 := IsB.new (w10.alloc (.cells #[.int .i64 0, .int .i64 0, .int .u64 0, .int .i64 0, .int .u64 0] 32)) #[.int .i64 0, .int .i64 0, .int .u64 0, .int .i64 0, .int .u64 0] 32
            rw [World.size_alloc] at h7
            exact h7
          replace RX := hide (RX.out.below bg)
          replace D := hide (D.out.below bg)
          replace BN := hide (BN.out.trans (bg.mono (hNs.out _ BN.out)))
          clear bg
          obtain ⟨w11, hs1, Xa1, k1⟩ := st_ref Xa.out a
          have HS1 := hide hs1
          replace D := hide (D.out.kp k1 (by simp <;> omega))
          replace Xb := hide (Xb.out.kp k1 (by simp <;> omega))
          replace RX := hide (RX.out.kp Xa.out k1)
          replace BN := hide (BN.out.trans (k1.to_below (hNs.out _ BN.out) (by simp <;> omega)))
          replace Xa := hide Xa1
          obtain ⟨w13, hs2, Xb1, k2⟩ := st_ref Xb.out b
          have HS2 := hide hs2
          replace D := hide (D.out.kp k2 (by simp <;> omega))
          replace RX := hide (RX.out.kp Xb.out k2)
          replace BN := hide (BN.out.trans (k2.to_below (hNs.out _ BN.out) (by simp <;> omega)))
          replace Xa := hide (Xa1.kp k2 (by simp))
          replace Xb := hide Xb1
          have hsz3 : w10.heap.size + 1 < w13.heap.size := Xb1.lt
          clear hs1 hs2 Xa1 Xb1 k1 k2
          go_wp2_with (first | (focus ((with_reducible refine wpList_store_w ?_ 32 (.tmp 22) (.tmp 126) ?_ ?_ ?_ HS1.out ?_); rotate_left; rfl; rfl; rfl; rotate_left; rfl)) | (focus ((with_reducible refine wpList_store_w ?_ 32 (.tmp 23) (.tmp 127) ?_ ?_ ?_ HS2.out ?_); rotate_left; rfl; rfl; rfl; rotate_left; rfl)))
          clear HS1 HS2
          generalize w10.heap.size = ga at *
          replace RX := hide (RX.out.below ((Below.refl _ _).drew))
          replace D := hide (D.out.below ((Below.refl _ _).drew))
          replace Xb := hide (Xb.out.below ((Below.refl _ _).drew))
          replace BN := hide (BN.out.drew)
          have A0 := hide (KE.out _ _ _ (by omega) A4.out _ BN.out)
          have C0 := hide (KE.out _ _ _ (by omega) C4.out _ BN.out)
          have hB0 : Hid (Below H w w13.drew) := B4.out.trans (BN.out.mono hHN)
          refine regionL 7 (fun w' => IsB w' N ez.cells 32 ∧ IsB w' (ga + 1) b.cells 32) mixed ⟨D.out, Xb.out⟩ (fun hHeld => ?_)
          generalize w13.drew = WE at *
          obtain ⟨w6, hs6, A6, k6⟩ := st_ref A0.out ez
          have HS6 := hide hs6
          have C6 := C0.out.kp k6 (by simp)
          obtain ⟨w7, hs7, C7, k7⟩ := st_ref C6 b
          have HS7 := hide hs7
          have A9 := hide (A6.kp k7 (by simp))
          have C9 := hide C7
          have RX9 := hide ((RX.out.kp A0.out k6).kp C6 k7)
          have hHW : H ≤ WE.heap.size := Nat.le_trans (by omega) (hNs.out _ BN.out)
          have B9 : Hid (Below H w w7) := (hB0.out.trans (k6.to_below hHW (by simp))).trans (k7.to_below (Nat.le_trans hHW k6.size) (by simp <;> omega))
          have D6 := hide (D.out.kp k6 (by simp <;> omega))
          have D7 := hide (D6.out.kp k7 (by simp <;> omega))
          have X6 := hide (Xb.out.kp k6 (by simp <;> omega))
          have X7 := hide (X6.out.kp k7 (by simp <;> omega))
          clear hs6 hs7 A6 C6 C7 k6 k7 A0 C0 RX
          refine pickA (v := ?_) 0 (some 128) rfl rfl (by kernel_rfl) (by kernel_rfl) (by kernel_rfl) (by decide) (fun _ _ _ h => h) (by rfl) ?_ (by assumption) ?_
          rotate_left
          · intro w'
            go_simp
            try with_reducible rfl
          try simp only [Act.put, List.setIfInBounds_toArray, List.set_cons_zero, List.set_cons_succ]
          refine pickL (v := .agg #[.int .i64 ez.id, .int .i64 ez.rk, .int .u64 ez.kn, .int .i64 ez.ln, .int .u64 ez.bt]) 1 (some 129) rfl rfl (by kernel_rfl) (by kernel_rfl) (by kernel_rfl) (by decide) (by kernel_rfl) (by kernel_rfl) (fun _ _ _ h => h) (by rfl) ?_ (by assumption) ?_
          · intro w' hSw
            obtain ⟨q0, q1⟩ := hSw
            exact exec_load rfl rfl (ld_rall q0)
          try simp only [Act.put, List.setIfInBounds_toArray, List.set_cons_zero, List.set_cons_succ]
          refine pickL (v := .agg #[.int .i64 b.id, .int .i64 b.rk, .int .u64 b.kn, .int .i64 b.ln, .int .u64 b.bt]) 2 (some 130) rfl rfl (by kernel_rfl) (by kernel_rfl) (by kernel_rfl) (by decide) (by kernel_rfl) (by kernel_rfl) (fun _ _ _ h => h) (by rfl) ?_ (by assumption) ?_
          · intro w' hSw
            obtain ⟨q0, q1⟩ := hSw
            exact exec_load rfl rfl (ld_rall q1)
          try simp only [Act.put, List.setIfInBounds_toArray, List.set_cons_zero, List.set_cons_succ]
          refine pickA (v := ?_) 3 (some 8) rfl rfl (by kernel_rfl) (by kernel_rfl) (by kernel_rfl) (by decide) (fun _ _ _ h => h) (by rfl) ?_ (by assumption) ?_
          rotate_left
          · intro w'
            go_simp
            try with_reducible rfl
          try simp only [Act.put, List.setIfInBounds_toArray, List.set_cons_zero, List.set_cons_succ]
          refine oneL (i := 4) (by kernel_rfl) rfl (fun K hK => ?_)
          refine step_store_w rfl 32 (.tmp 9) (.tmp 129) rfl rfl rfl HS6.out ?_
          refine hK.out _ _ ?_ ?_
          · exact ⟨D6.out, X6.out⟩
          clear hK K
          try simp only [Act.put, List.setIfInBounds_toArray]
          clear hHeld
          have hHeld : (fun w' => IsB w' N ez.cells 32 ∧ IsB w' (ga + 1) b.cells 32) w6 := ⟨D6.out, X6.out⟩
          refine oneL (i := 5) (by kernel_rfl) rfl (fun K hK => ?_)
          refine step_store_w rfl 32 (.tmp 10) (.tmp 130) rfl rfl rfl HS7.out ?_
          refine hK.out _ _ ?_ ?_
          · exact ⟨D7.out, X7.out⟩
          clear hK K
          try simp only [Act.put]
          clear hHeld
          have hHeld : (fun w' => IsB w' N ez.cells 32 ∧ IsB w' (ga + 1) b.cells 32) w7 := ⟨D7.out, X7.out⟩
          refine pickA (v := ?_) 6 (some 11) rfl rfl (by kernel_rfl) (by kernel_rfl) (by kernel_rfl) (by decide) (fun _ _ _ h => h) (by rfl) ?_ (by assumption) ?_
          rotate_left
          · intro w'
            go_simp
            try with_reducible rfl
          try simp only [Act.put]
          refine doneL (by kernel_rfl) ?_ _
          clear hHeld
          go_wp2
          refine ret_way (s := 8) (p := 9) (q := 10) (u := 11) (a := H + 1) (b := H + 1 + 1) Tryd.results6 rfl rfl rfl rfl rfl rfl A9.out C9.out ?_
          exact ⟨_, rfl, RX9.out.rw, HH.out.symm ▸ B9.out⟩
        have d1 : decide (0 ≤ lv) = true := decide_eq_true hlt
        have h32 : h ≤ 32 := HG.out.1.2
        have hml : dn.length + W.length = W0.length + 1 := by
          have h9 := congrArg List.length hfu
          simpa using h9
        have hdl : dn.length ≤ 200000 := by omega
        obtain ⟨a, b, hab⟩ : ∃ a b, nxD h l lv r' = (a, b) := ⟨_, _, rfl⟩
        have LR5 := hide (ld_rall D.out)
        have CN := next_doc h HG.out.1.1 HG.out.1.2 r' hor'.1 hor'.2.1 lv hlt (by rw [hor'.2.2]; exact hlh) v l hl hbt wr (RL.out _ BN.out)
        rw [hab] at CN
        go_wp2_with (first | (focus ((with_reducible refine wpList_load_w ?_ 32 (.tmp 13) ?_ ?_ LR5.out ?_); rotate_left; rfl; rfl; rotate_left; rfl)))
        refine CN.mono ?_
        rintro e9 w10 ⟨rfl, hb⟩
        replace RX := hide (RX.out.below hb)
        replace D := hide (D.out.below hb)
        replace BN := hide (BN.out.trans (hb.mono (hNs.out _ BN.out)))
        clear hb CN LR5
        have hDN : N < w10.heap.size := D.out.lt
        have bg := ((Below.refl w10.heap.size w10).alloc (Nat.le_refl _) (.cells #[.int .i64 0, .int .i64 0, .int .u64 0, .int .i64 0, .int .u64 0] 32)).alloc (by simp) (.cells #[.int .i64 0, .int .i64 0, .int .u64 0, .int .i64 0, .int .u64 0] 32)
        have Xa : Hid (IsB ((w10.alloc (.cells #[.int .i64 0, .int .i64 0, .int .u64 0, .int .i64 0, .int .u64 0] 32)).alloc (.cells #[.int .i64 0, .int .i64 0, .int .u64 0, .int .i64 0, .int .u64 0] 32)) w10.heap.size zr.cells 32) := (IsB.new w10 #[.int .i64 0, .int .i64 0, .int .u64 0, .int .i64 0, .int .u64 0] 32).below (gal1 _ (.cells #[.int .i64 0, .int .i64 0, .int .u64 0, .int .i64 0, .int .u64 0] 32))
        have Xb : Hid (IsB ((w10.alloc (.cells #[.int .i64 0, .int .i64 0, .int .u64 0, .int .i64 0, .int .u64 0] 32)).alloc (.cells #[.int .i64 0, .int .i64 0, .int .u64 0, .int .i64 0, .int .u64 0] 32)) (w10.heap.size + 1) zr.cells 32) := by
          have h7 := IsB.new (w10.alloc (.cells #[.int .i64 0, .int .i64 0, .int .u64 0, .int .i64 0, .int .u64 0] 32)) #[.int .i64 0, .int .i64 0, .int .u64 0, .int .i64 0, .int .u64 0] 32
          rw [World.size_alloc] at h7
          exact h7
        replace RX := hide (RX.out.below bg)
        replace D := hide (D.out.below bg)
        replace BN := hide (BN.out.trans (bg.mono (hNs.out _ BN.out)))
        clear bg
        obtain ⟨w11, hs1, Xa1, k1⟩ := st_ref Xa.out a
        have HS1 := hide hs1
        replace D := hide (D.out.kp k1 (by simp <;> omega))
        replace Xb := hide (Xb.out.kp k1 (by simp <;> omega))
        replace RX := hide (RX.out.kp Xa.out k1)
        replace BN := hide (BN.out.trans (k1.to_below (hNs.out _ BN.out) (by simp <;> omega)))
        replace Xa := hide Xa1
        obtain ⟨w13, hs2, Xb1, k2⟩ := st_ref Xb.out b
        have HS2 := hide hs2
        replace D := hide (D.out.kp k2 (by simp <;> omega))
        replace RX := hide (RX.out.kp Xb.out k2)
        replace BN := hide (BN.out.trans (k2.to_below (hNs.out _ BN.out) (by simp <;> omega)))
        replace Xa := hide (Xa1.kp k2 (by simp))
        replace Xb := hide Xb1
        have hsz3 : w10.heap.size + 1 < w13.heap.size := Xb1.lt
        clear hs1 hs2 Xa1 Xb1 k1 k2
        have LB := hide (ld_rall Xb.out)
        have bn := gal1 w13 (.cells #[.int .i64 0, .int .i64 0, .int .u64 0, .int .i64 0, .int .u64 0] 32)
        have Xn : Hid (IsB (w13.alloc (.cells #[.int .i64 0, .int .i64 0, .int .u64 0, .int .i64 0, .int .u64 0] 32)) w13.heap.size zr.cells 32) := IsB.new w13 #[.int .i64 0, .int .i64 0, .int .u64 0, .int .i64 0, .int .u64 0] 32
        replace RX := hide (RX.out.below bn)
        replace D := hide (D.out.below bn)
        replace Xa := hide (Xa.out.below bn)
        replace Xb := hide (Xb.out.below bn)
        replace BN := hide (BN.out.trans (bn.mono (hNs.out _ BN.out)))
        clear bn
        obtain ⟨w14, hs3, Xn1, k3⟩ := st_ref Xn.out b
        have HS3 := hide hs3
        replace D := hide (D.out.kp k3 (by simp <;> omega))
        replace Xa := hide (Xa.out.kp k3 (by simp <;> omega))
        replace Xb := hide (Xb.out.kp k3 (by simp <;> omega))
        replace RX := hide (RX.out.kp Xn.out k3)
        replace BN := hide (BN.out.trans (k3.to_below (hNs.out _ BN.out) (by simp <;> omega)))
        replace Xn := hide Xn1
        clear hs3 Xn1 k3
        have LA := hide (ld_rall Xa.out)
        obtain ⟨w15, hs4, Xn1, k4⟩ := st_ref Xn.out a
        have HS4 := hide hs4
        replace D := hide (D.out.kp k4 (by simp <;> omega))
        replace Xa := hide (Xa.out.kp k4 (by simp <;> omega))
        replace Xb := hide (Xb.out.kp k4 (by simp <;> omega))
        replace RX := hide (RX.out.kp Xn.out k4)
        replace BN := hide (BN.out.trans (k4.to_below (hNs.out _ BN.out) (by simp <;> omega)))
        replace Xn := hide Xn1
        clear hs4 Xn1 k4
        have Q := hide (KE.out _ _ _ (by omega) Q4.out _ BN.out)
        have LK1 := hide (ld_rkey Xn.out)
        have LK2 := hide (ld_k2 Q.out)
        go_wp2_with (first | (focus ((with_reducible refine wpList_store_w ?_ 32 (.tmp 19) (.tmp 87) ?_ ?_ ?_ HS1.out ?_); rotate_left; rfl; rfl; rfl; rotate_left; rfl)) | (focus ((with_reducible refine wpList_store_w ?_ 32 (.tmp 20) (.tmp 88) ?_ ?_ ?_ HS2.out ?_); rotate_left; rfl; rfl; rfl; rotate_left; rfl)) | (focus ((with_reducible refine wpList_load_w ?_ 32 (.tmp 20) ?_ ?_ LB.out ?_); rotate_left; rfl; rfl; rotate_left; rfl)) | (focus ((with_reducible refine wpList_store_w ?_ 32 (.tmp 21) (.tmp 89) ?_ ?_ ?_ HS3.out ?_); rotate_left; rfl; rfl; rfl; rotate_left; rfl)) | (focus ((with_reducible refine wpList_load_w ?_ 32 (.tmp 19) ?_ ?_ LA.out ?_); rotate_left; rfl; rfl; rotate_left; rfl)) | (focus ((with_reducible refine wpList_store_w ?_ 32 (.tmp 21) (.tmp 91) ?_ ?_ ?_ HS4.out ?_); rotate_left; rfl; rfl; rfl; rotate_left; rfl)) | (focus ((with_reducible refine wpList_load_w ?_ 25 (.tmp 96) ?_ ?_ LK1.out ?_); rotate_left; rfl; rfl; rotate_left; rfl)) | (focus ((with_reducible refine wpList_load_w ?_ 25 (.tmp 6) ?_ ?_ LK2.out ?_); rotate_left; rfl; rfl; rotate_left; rfl)))
        clear HS1 HS2 HS3 LB LA HS4
        generalize w10.heap.size = ga at *
        generalize w13.heap.size = gn at *
        refine (r9Less_any a.rk a.kn tr tn w15).mono ?_
        rintro e9 w16 ⟨rfl, hb⟩
        rw [klt_key]
        replace RX := hide (RX.out.below hb)
        replace D := hide (D.out.below hb)
        replace Xn := hide (Xn.out.below hb)
        replace BN := hide (BN.out.trans (hb.mono (hNs.out _ BN.out)))
        clear hb LK1 LK2 Q
        rcases Dw.stepL hlt hab HDW.out with ⟨hc, hok, W', rfl, D'⟩ | ⟨hc, hz, hok, rfl, rfl⟩ | ⟨hc, hz, D'⟩
        · rw [hc]
          have LN := hide (ld_rall Xn.out)
          obtain ⟨w17, hs5, D1, k5⟩ := st_ref D.out a
          have HS5 := hide hs5
          replace RX := hide (RX.out.kp D.out k5)
          replace BN := hide (BN.out.trans (k5.to_below (hNs.out _ BN.out) (by simp)))
          replace D := hide D1
          clear hs5 D1 k5
          have LD5 := hide (ld_rall D.out)
          obtain ⟨ra, rc, wA, hap, hRo, hBa, hDa⟩ := push_hop RX.out (lv, a) (by omega) (hNs.out _ BN.out) 28
          have HAP := hide hap
          have RX2 := hide hRo
          have D2 := hide (hDa _ _ D.out)
          have BN2 := hide (BN.out.trans hBa)
          clear hap hRo hBa hDa D RX BN Xa Xb Xn
          obtain ⟨mn, hmn⟩ : ∃ mn, dn.length = mn := ⟨_, rfl⟩
          rw [hmn] at HAP RX2 ⊢
          go_wp2_with (first | (focus ((with_reducible refine wpList_load_w ?_ 32 (.tmp 21) ?_ ?_ LN.out ?_); rotate_left; rfl; rfl; rotate_left; rfl)) | (focus ((with_reducible refine wpList_store_w ?_ 32 (.tmp 13) (.tmp 101) ?_ ?_ ?_ HS5.out ?_); rotate_left; rfl; rfl; rfl; rotate_left; rfl)) | (focus ((with_reducible refine wpList_load_w ?_ 32 (.tmp 13) ?_ ?_ LD5.out ?_); rotate_left; rfl; rfl; rotate_left; rfl)) | (at_builtin; refine wpList_append_eq rfl (.tmp 102) (.tmp 106) 28 rfl _ _ (.slice ra (mn + 1) rc) wA rfl rfl HAP.out ?_))
          exact ⟨⟨lv, a, dn ++ [(lv, a)], W', ra, rc, rfl, hlh, by simp [hmn], by rw [← hfu]; simp, hide D', hok, hide (by simpa [hmn] using RX2.out), D2, BN2⟩, by simp [intOf, lenV, hmn] at hml ⊢; omega⟩
        · rw [hc]
          subst hz
          have LN := hide (ld_rall Xn.out)
          obtain ⟨w17, hs5, D1, k5⟩ := st_ref D.out ez
          have HS5 := hide hs5
          replace RX := hide (RX.out.kp D.out k5)
          replace BN := hide (BN.out.trans (k5.to_below (hNs.out _ BN.out) (by simp)))
          replace D := hide D1
          clear hs5 D1 k5
          have LD5 := hide (ld_rall D.out)
          obtain ⟨ra, rc, wA, hap, hRo, hBa, hDa⟩ := push_hop RX.out (0, ez) (by omega) (hNs.out _ BN.out) 28
          have HAP := hide hap
          have RX2 := hide hRo
          have D2 := hide (hDa _ _ D.out)
          have BN2 := hide (BN.out.trans hBa)
          clear hap hRo hBa hDa D RX BN Xa Xb Xn
          obtain ⟨mn, hmn⟩ : ∃ mn, dn.length = mn := ⟨_, rfl⟩
          rw [hmn] at HAP RX2 ⊢
          go_wp2_with (first | (focus ((with_reducible refine wpList_load_w ?_ 32 (.tmp 21) ?_ ?_ LN.out ?_); rotate_left; rfl; rfl; rotate_left; rfl)) | (focus ((with_reducible refine wpList_store_w ?_ 32 (.tmp 13) (.tmp 114) ?_ ?_ ?_ HS5.out ?_); rotate_left; rfl; rfl; rfl; rotate_left; rfl)) | (focus ((with_reducible refine wpList_load_w ?_ 32 (.tmp 13) ?_ ?_ LD5.out ?_); rotate_left; rfl; rfl; rotate_left; rfl)) | (at_builtin; refine wpList_append_eq rfl (.tmp 115) (.tmp 119) 28 rfl _ _ (.slice ra (mn + 1) rc) wA rfl rfl HAP.out ?_))
          exact ⟨⟨-1, ez, dn ++ [(0, ez)], [], ra, rc, rfl, by omega, by simp [hmn], by rw [← hfu]; simp, hide (Dw.fin (by omega)), hok, hide (by simpa [hmn] using RX2.out), D2, BN2⟩, by simp [intOf, lenV, hmn] at hml ⊢; omega⟩
        · rw [hc]
          clear Xa Xb Xn
          have dz : decide (lv = 0) = false := decide_eq_false hz
          go_wp2
          exact ⟨⟨lv - 1, r', dn, W, qa, qc, rfl, by omega, rfl, hfu, hide D', hor', RX, D, BN⟩, (by simp [intOf, lenV]; omega)⟩
    have hjl : j < ro.length := by rw [HN.out]; exact hlt
    have hlt2 : (j : Int) < n := by omega
    obtain ⟨g, o, cap, ev, hcap, -⟩ := (RO.out _ BN.out).form (by omega)
    injection ev with ev el ec
    clear el
    subst ev ec
    have y0 : wr.cell? ⟨g, o + j * 5, none⟩ = some (.int .i64 ro[j].id) := (RO.out _ BN.out).cid j hjl
    by_cases hid : ro[j].id = d
    · have dn : (ro[j].id == d) = true := by simp [hid]
      have E := hide (lastD_yes hjl hid)
      have LL : Hid ((Instr.loadAt 32 (.pointer (some ⟨g, o + j * 5, none⟩))).run Tryd.prog wr = .ok (.agg #[.int .i64 ro[j].id, .int .i64 ro[j].rk, .int .u64 ro[j].kn, .int .i64 ro[j].ln, .int .u64 ro[j].bt]) wr) := (RO.out _ BN.out).ldr j hjl
      obtain ⟨w5, hs5, D5, k5⟩ := st_ref D.out ro[j]
      have HS5 : Hid ((Instr.storeAt 32 (.pointer (some ⟨N, 0, none⟩)) (.agg #[.int .i64 ro[j].id, .int .i64 ro[j].rk, .int .u64 ro[j].kn, .int .i64 ro[j].ln, .int .u64 ro[j].bt])).run Tryd.prog wr = .ok () w5) := hs5
      replace BN := hide (BN.out.trans (k5.to_below (hNs.out _ BN.out) (by simp)))
      clear hs5 k5 D hid
      have D := hide D5
      clear D5
      generalize ro[j] = x at *
      go_wp2_with (first | (focus ((with_reducible refine wpList_load_w ?_ 32 (.tmp 50) ?_ ?_ LL.out ?_); rotate_left; rfl; rfl; rotate_left; rfl)) | (focus ((with_reducible refine wpList_store_w ?_ 32 (.tmp 13) (.tmp 51) ?_ ?_ ?_ HS5.out ?_); rotate_left; rfl; rfl; rfl; rotate_left; rfl)))
      exact ⟨⟨j + 1, by omega, by simp, by rw [E.out], by rw [E.out]; exact D, BN⟩, by simp [intOf]; omega⟩
    · have dn : (ro[j].id == d) = false := by simp [hid]
      have E := hide (lastD_no hjl hid)
      clear hid
      generalize ro[j].id = x at *
      go_wp2
      exact ⟨⟨j + 1, by omega, by simp, by rw [E.out], by rw [E.out]; exact D, BN⟩, by simp [intOf]; omega⟩

end Go.Proofs.YtjkgacbckdipgaaDoor
