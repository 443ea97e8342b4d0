/- The document's beside. -/
import Derived.Test.YtjkgacbckdipgaaDoorND
namespace Go.Proofs.YtjkgacbckdipgaaDoor
open Go.RowKit Go.Maps Go.ChangeMaps

/-- Those beside one of a row. -/
def besD (d : Int) (row : List Rf) : Rf × Rf × Bool := if plI d row < 0 then (zr, zr, false) else (besL row (plI d row).toNat, besR row (plI d row).toNat, true)
theorem besD_at {d : Int} {l : List Rf} {j : Nat} (hj : j < l.length) (he : l[j].id = d) (hn : ∀ q (_ : q < j) (hq : q < l.length), l[q].id ≠ d) : besD d l = (besL l j, besR l j, true) := by
  unfold besD
  rw [plI_at hj he hn, if_neg (by omega), Int.toNat_natCast]
theorem besD_no {d : Int} {l : List Rf} (hn : ∀ q (hq : q < l.length), l[q].id ≠ d) : besD d l = (zr, zr, false) := by
  unfold besD
  rw [plI_no hn, if_pos (by omega)]
theorem st_ref {w : World} {b : Nat} {x : Rf} (I : IsB w b x.cells 32) (y : Rf) : ∃ w', (Instr.storeAt 32 (.pointer (some ⟨b, 0, none⟩)) (.agg y.cells)).run Tryd.prog w = .ok () w' ∧ IsB w' b y.cells 32 ∧ Kp [b] w w' := store_ref I rfl rfl (all_oneCell_toArray ((es_rfs [y]).one y.cs (by simp)))

set_option maxHeartbeats 8000000 in
set_option maxRecDepth 100000 in
theorem beside_doc (v : Value) (l : List Rf) (hl : l.length ≤ 3000) (d : Int) (w : World) (R : RSl w v l) : Calls Tryd.prog 44 #[v, .int .i64 d] w fun e' w' => e' = .returned (.tuple #[.agg (besD d l).1.cells, .agg (besD d l).2.1.cells, .bool (besD d l).2.2]) ∧ Below w.heap.size w w' := by
  have mixed : Tryd.prog.follows .mixedOrders = true := by kernel_rfl
  obtain ⟨va, vc, rfl, -, -⟩ := R.shape
  have b2 : Below w.heap.size w ((w.alloc (.cells #[.int .i64 0, .int .i64 0, .int .u64 0, .int .i64 0, .int .u64 0] 32)).alloc (.cells #[.int .i64 0, .int .i64 0, .int .u64 0, .int .i64 0, .int .u64 0] 32)) := ((Below.refl w.heap.size w).alloc (Nat.le_refl _) _).alloc (by simp) _
  have A : Hid (IsB ((w.alloc (.cells #[.int .i64 0, .int .i64 0, .int .u64 0, .int .i64 0, .int .u64 0] 32)).alloc (.cells #[.int .i64 0, .int .i64 0, .int .u64 0, .int .i64 0, .int .u64 0] 32)) w.heap.size zr.cells 32) := (IsB.new w #[.int .i64 0, .int .i64 0, .int .u64 0, .int .i64 0, .int .u64 0] 32).below ((Below.refl _ _).alloc (Nat.le_refl _) _)
  have C : Hid (IsB ((w.alloc (.cells #[.int .i64 0, .int .i64 0, .int .u64 0, .int .i64 0, .int .u64 0] 32)).alloc (.cells #[.int .i64 0, .int .i64 0, .int .u64 0, .int .i64 0, .int .u64 0] 32)) (w.heap.size + 1) zr.cells 32) := by
    have h7 := IsB.new (w.alloc (.cells #[.int .i64 0, .int .i64 0, .int .u64 0, .int .i64 0, .int .u64 0] 32)) #[.int .i64 0, .int .i64 0, .int .u64 0, .int .i64 0, .int .u64 0] 32
    rw [World.size_alloc] at h7
    exact h7
  generalize hn : l.length = n at *
  replace hn := hide hn
  go_enter Tryd.func44, Tryd.ntmps44
  go_wp2_with fail
  generalize ((w.alloc (.cells #[.int .i64 0, .int .i64 0, .int .u64 0, .int .i64 0, .int .u64 0] 32)).alloc (.cells #[.int .i64 0, .int .i64 0, .int .u64 0, .int .i64 0, .int .u64 0] 32)) = W1 at *
  obtain ⟨H, hH⟩ : ∃ H, w.heap.size = H := ⟨_, rfl⟩
  have HH : Hid (w.heap.size = H) := hH
  rw [hH] at A C b2 ⊢
  have B := hide b2
  have RA : Hid (∀ w', Below H w w' → RSl w' (.slice va n vc) l) := fun w' hb => R.below (hH ▸ hb)
  clear R b2 hH
  go_loopw [7] (fun i wr => ∃ j : Nat, j ≤ n ∧ i = .int .i64 (j : Int) ∧ Hid (∀ q (_ : q < j) (hq : q < l.length), l[q].id ≠ d) ∧ Hid (IsB wr H zr.cells 32) ∧ Hid (IsB wr (H + 1) zr.cells 32) ∧ Hid (Below H w wr)) (fun i _ => n - (intOf i).toNat)
  case atStart => exact ⟨0, by omega, rfl, fun q h => by omega, A, C, B⟩
  case round =>
    clear A C B
    obtain ⟨j, hj, rfl, HN, A, C, B⟩ := hrel
    by_cases hlt : j < n
    rotate_left
    · obtain rfl : j = n := by omega
      have d1 : decide ((j : Int) < j) = false := by simp
      have HF : Hid (besD d l = (zr, zr, false)) := besD_no fun q hq => HN.out q (by have := hn.out; omega) hq
      obtain ⟨w6, hs, J6, k6⟩ := st_ref A.out zr
      have HS6 := hide hs
      have hHC : H + 1 ∉ [H] := by simp
      obtain ⟨w7, hs7, J7, k7⟩ := st_ref (C.out.kp k6 hHC) zr
      have HS7 := hide hs7
      have A9 := hide (J6.kp k7 (by simp))
      have C9 := hide J7
      have B9 : Hid (Below H w w7) := (B.out.trans (k6.to_below (Nat.le_trans (Nat.le_of_eq HH.out.symm) B.out.size) (by simp))).trans (k7.to_below (Nat.le_trans (Nat.le_trans (Nat.le_of_eq HH.out.symm) B.out.size) k6.size) (by simp))
      clear hs hs7 J6 J7 k6 k7 HN
      go_wp2_with (first | (focus ((with_reducible refine wpList_store_w ?_ 32 (.tmp 4) (.tmp 42) ?_ ?_ ?_ HS6.out ?_); rotate_left; rfl; rfl; rfl; rotate_left; rfl)) | (focus ((with_reducible refine wpList_store_w ?_ 32 (.tmp 5) (.tmp 43) ?_ ?_ ?_ HS7.out ?_); rotate_left; rfl; rfl; rfl; rotate_left; rfl)))
      refine ret_rrt (p := 4) (q := 5) (u := 6) Tryd.results44 rfl rfl rfl rfl rfl A9.out C9.out ?_
      exact ⟨by rw [HF.out]; rfl, HH.out.symm ▸ B9.out⟩
    have hjl : j < l.length := by rw [hn.out]; exact hlt
    have hlt2 : (j : Int) < n := by omega
    obtain ⟨g, o, cap, ev, hcap, -⟩ := (RA.out _ B.out).form (by omega)
    injection ev with ev el ec
    clear el
    subst ev ec
    have y0 : wr.cell? ⟨g, o + j * 5, none⟩ = some (.int .i64 l[j].id) := (RA.out _ B.out).cid j hjl
    by_cases hid : l[j].id = d
    rotate_left
    · have dn : (l[j].id != d) = true := by simp [hid]
      have HN2 : Hid (∀ q (_ : q < j + 1) (hq : q < l.length), l[q].id ≠ d) := fun q hq hq2 => by
        by_cases e : q = j
        · subst e; exact hid
        · exact HN.out q (by omega) hq2
      clear HN hid
      generalize l[j].id = yd at *
      go_wp2
      exact ⟨⟨j + 1, by omega, by simp, HN2, A, C, B⟩, by simp [intOf]; omega⟩
    rcases Nat.eq_zero_or_pos j with hz | hz
    · subst hz
      simp only [Nat.zero_mul, Nat.add_zero] at y0
      have d3 : decide ((0 : Int) < 0) = false := by decide
      by_cases hr : 0 + 1 < l.length
      · have d4 : decide (1 < n) = true := by have := hn.out; simp; omega
        have d5 : 1 < n := by have := hn.out; omega
        have d6 : (1 : Int) < (n : Int) := by omega
        have dn : (l[0].id != d) = false := by simp [hid]
        have HF : Hid (besD d l = (besL l (0), besR l (0), true)) := besD_at hjl hid HN.out
        clear HN
        have b5 : Below wr.heap.size wr ((wr.alloc (.cells #[.int .i64 0, .int .i64 0, .int .u64 0, .int .i64 0, .int .u64 0] 32)).alloc (.cells #[.int .i64 0, .int .i64 0, .int .u64 0, .int .i64 0, .int .u64 0] 32)) := ((Below.refl wr.heap.size wr).alloc (Nat.le_refl _) _).alloc (by simp) _
        have P1 : Hid (IsB ((wr.alloc (.cells #[.int .i64 0, .int .i64 0, .int .u64 0, .int .i64 0, .int .u64 0] 32)).alloc (.cells #[.int .i64 0, .int .i64 0, .int .u64 0, .int .i64 0, .int .u64 0] 32)) wr.heap.size zr.cells 32) := (IsB.new wr #[.int .i64 0, .int .i64 0, .int .u64 0, .int .i64 0, .int .u64 0] 32).below ((Below.refl _ _).alloc (Nat.le_refl _) _)
        have P2 : Hid (IsB ((wr.alloc (.cells #[.int .i64 0, .int .i64 0, .int .u64 0, .int .i64 0, .int .u64 0] 32)).alloc (.cells #[.int .i64 0, .int .i64 0, .int .u64 0, .int .i64 0, .int .u64 0] 32)) (wr.heap.size + 1) zr.cells 32) := by
          have h7 := IsB.new (wr.alloc (.cells #[.int .i64 0, .int .i64 0, .int .u64 0, .int .i64 0, .int .u64 0] 32)) #[.int .i64 0, .int .i64 0, .int .u64 0, .int .i64 0, .int .u64 0] 32
          rw [World.size_alloc] at h7
          exact h7
        have hHN : H + 1 < wr.heap.size := C.out.lt
        replace A := hide (A.out.below b5)
        replace C := hide (C.out.below b5)
        have B5 := hide (B.out.trans (b5.mono (Nat.le_trans (Nat.le_of_eq HH.out.symm) B.out.size)))
        have Q1 := P1
        have B6 := B5
        clear P1
        have LRr : Hid ((Instr.loadAt 32 (.pointer (some ⟨g, o + 5, none⟩))).run Tryd.prog ((wr.alloc (.cells #[.int .i64 0, .int .i64 0, .int .u64 0, .int .i64 0, .int .u64 0] 32)).alloc (.cells #[.int .i64 0, .int .i64 0, .int .u64 0, .int .i64 0, .int .u64 0] 32)) = .ok (.agg #[.int .i64 l[0 + 1].id, .int .i64 l[0 + 1].rk, .int .u64 l[0 + 1].kn, .int .i64 l[0 + 1].ln, .int .u64 l[0 + 1].bt]) ((wr.alloc (.cells #[.int .i64 0, .int .i64 0, .int .u64 0, .int .i64 0, .int .u64 0] 32)).alloc (.cells #[.int .i64 0, .int .i64 0, .int .u64 0, .int .i64 0, .int .u64 0] 32))) := (RA.out _ B6.out).ldr (0 + 1) hr
        obtain ⟨vb1, hs2, P2b, k2⟩ := st_ref P2.out l[0 + 1]
        have HS2 : Hid ((Instr.storeAt 32 (.pointer (some ⟨wr.heap.size + 1, 0, none⟩)) (.agg #[.int .i64 l[0 + 1].id, .int .i64 l[0 + 1].rk, .int .u64 l[0 + 1].kn, .int .i64 l[0 + 1].ln, .int .u64 l[0 + 1].bt])).run Tryd.prog ((wr.alloc (.cells #[.int .i64 0, .int .i64 0, .int .u64 0, .int .i64 0, .int .u64 0] 32)).alloc (.cells #[.int .i64 0, .int .i64 0, .int .u64 0, .int .i64 0, .int .u64 0] 32)) = .ok () vb1) := hs2
        have B7 := hide (B6.out.trans (k2.to_below (Nat.le_trans (Nat.le_of_eq HH.out.symm) B6.out.size) (by simp; omega)))
        replace Q1 := hide (Q1.out.kp k2 (by simp))
        replace A := hide (A.out.kp k2 (by simp; omega))
        replace C := hide (C.out.kp k2 (by simp; omega))
        have Q2 := hide P2b
        clear hs2 P2b k2 P2
        have HA : Hid (besL l (0) = zr) := by show _ = _; unfold besL; rfl
        have HB : Hid (besR l (0) = l[0 + 1]) := by show _ = _; unfold besR; simp [List.getD, List.getElem?_eq_getElem hr]
        generalize l[0 + 1] = zb at *
        generalize l[0].id = yd at *
        go_wp2_with (first | (focus ((with_reducible refine wpList_load_w ?_ 32 (.tmp 38) ?_ ?_ LRr.out ?_); rotate_left; rfl; rfl; rotate_left; rfl)) | (focus ((with_reducible refine wpList_store_w ?_ 32 (.tmp 9) (.tmp 39) ?_ ?_ ?_ HS2.out ?_); rotate_left; rfl; rfl; rfl; rotate_left; rfl)))
        generalize hcu : vb1 = W7 at *
        clear hcu
        generalize wr.heap.size = N at *
        replace Q1 := hide (Q1.out.below ((Below.refl _ _).drew))
        replace Q2 := hide (Q2.out.below ((Below.refl _ _).drew))
        replace A := hide (A.out.below ((Below.refl _ _).drew))
        replace C := hide (C.out.below ((Below.refl _ _).drew))
        replace B7 := hide (B7.out.drew)
        refine regionL 5 (fun w' => IsB w' N zr.cells 32 ∧ IsB w' (N + 1) zb.cells 32) mixed ⟨Q1.out, Q2.out⟩ (fun hHeld => ?_)
        generalize W7.drew = WD at *
        obtain ⟨w6, hs6, A6, k6⟩ := st_ref A.out zr
        have HS6 := hide hs6
        have C6 := C.out.kp k6 (by simp)
        have Q3 := hide (Q1.out.kp k6 (by simp; omega))
        have Q4 := hide (Q2.out.kp k6 (by simp; omega))
        obtain ⟨w7, hs7, C7, k7⟩ := st_ref C6 zb
        have HS7 := hide hs7
        have A9 := hide (A6.kp k7 (by simp))
        have C9 := hide C7
        have Q5 := hide (Q3.out.kp k7 (by simp; omega))
        have Q6 := hide (Q4.out.kp k7 (by simp; omega))
        have B9 : Hid (Below H w w7) := (B7.out.trans (k6.to_below (Nat.le_trans (Nat.le_of_eq HH.out.symm) B7.out.size) (by simp))).trans (k7.to_below (Nat.le_trans (Nat.le_trans (Nat.le_of_eq HH.out.symm) B7.out.size) k6.size) (by simp))
        clear hs6 hs7 A6 C6 C7 k6 k7
        refine pickL (v := .agg #[.int .i64 0, .int .i64 0, .int .u64 0, .int .i64 0, .int .u64 0]) 0 (some 40) rfl rfl (by kernel_rfl) (by kernel_rfl) (by kernel_rfl) (by decide) (by kernel_rfl) (by kernel_rfl) (fun _ _ _ h => h) (by rfl) ?_ (by assumption) ?_
        · intro w' hSw
          obtain ⟨q0, q1⟩ := hSw
          exact exec_load rfl rfl (load_ref q0 rfl)
        try simp only [Act.put, List.setIfInBounds_toArray, List.set_cons_zero, List.set_cons_succ]
        refine pickL (v := .agg #[.int .i64 zb.id, .int .i64 zb.rk, .int .u64 zb.kn, .int .i64 zb.ln, .int .u64 zb.bt]) 1 (some 41) rfl rfl (by kernel_rfl) (by kernel_rfl) (by kernel_rfl) (by decide) (by kernel_rfl) (by kernel_rfl) (fun _ _ _ h => h) (by rfl) ?_ (by assumption) ?_
        · intro w' hSw
          obtain ⟨q0, q1⟩ := hSw
          exact exec_load rfl rfl (load_ref q1 rfl)
        try simp only [Act.put, List.setIfInBounds_toArray, List.set_cons_zero, List.set_cons_succ]
        refine oneL (i := 2) (by kernel_rfl) rfl (fun K hK => ?_)
        refine step_store_w rfl 32 (.tmp 4) (.tmp 40) rfl rfl rfl HS6.out ?_
        refine hK.out _ _ ?_ ?_
        · exact ⟨Q3.out, Q4.out⟩
        clear hK K
        try simp only [Act.put, List.setIfInBounds_toArray]
        clear hHeld
        have hHeld : (fun w' => IsB w' N zr.cells 32 ∧ IsB w' (N + 1) zb.cells 32) w6 := ⟨Q3.out, Q4.out⟩
        refine oneL (i := 3) (by kernel_rfl) rfl (fun K hK => ?_)
        refine step_store_w rfl 32 (.tmp 5) (.tmp 41) rfl rfl rfl HS7.out ?_
        refine hK.out _ _ ?_ ?_
        · exact ⟨Q5.out, Q6.out⟩
        clear hK K
        try simp only [Act.put]
        clear hHeld
        have hHeld : (fun w' => IsB w' N zr.cells 32 ∧ IsB w' (N + 1) zb.cells 32) w7 := ⟨Q5.out, Q6.out⟩
        refine pickA (v := ?_) 4 (some 6) rfl rfl (by kernel_rfl) (by kernel_rfl) (by kernel_rfl) (by decide) (fun _ _ _ h => h) (by rfl) ?_ (by assumption) ?_
        rotate_left
        · intro w'
          go_simp
          try with_reducible rfl
        try simp only [Act.put]
        refine doneL (by kernel_rfl) ?_ _
        clear hHeld
        go_wp2
        refine ret_rrt (p := 4) (q := 5) (u := 6) Tryd.results44 rfl rfl rfl rfl rfl A9.out C9.out ?_
        exact ⟨by rw [HF.out, HA.out, HB.out]; rfl, HH.out.symm ▸ B9.out⟩
      · have d4 : decide (1 < n) = false := by have := hn.out; simp; omega
        have d5 : ¬ 1 < n := by have := hn.out; omega
        have d6 : ¬ (1 : Int) < (n : Int) := by omega
        have dn : (l[0].id != d) = false := by simp [hid]
        have HF : Hid (besD d l = (besL l (0), besR l (0), true)) := besD_at hjl hid HN.out
        clear HN
        have b5 : Below wr.heap.size wr ((wr.alloc (.cells #[.int .i64 0, .int .i64 0, .int .u64 0, .int .i64 0, .int .u64 0] 32)).alloc (.cells #[.int .i64 0, .int .i64 0, .int .u64 0, .int .i64 0, .int .u64 0] 32)) := ((Below.refl wr.heap.size wr).alloc (Nat.le_refl _) _).alloc (by simp) _
        have P1 : Hid (IsB ((wr.alloc (.cells #[.int .i64 0, .int .i64 0, .int .u64 0, .int .i64 0, .int .u64 0] 32)).alloc (.cells #[.int .i64 0, .int .i64 0, .int .u64 0, .int .i64 0, .int .u64 0] 32)) wr.heap.size zr.cells 32) := (IsB.new wr #[.int .i64 0, .int .i64 0, .int .u64 0, .int .i64 0, .int .u64 0] 32).below ((Below.refl _ _).alloc (Nat.le_refl _) _)
        have P2 : Hid (IsB ((wr.alloc (.cells #[.int .i64 0, .int .i64 0, .int .u64 0, .int .i64 0, .int .u64 0] 32)).alloc (.cells #[.int .i64 0, .int .i64 0, .int .u64 0, .int .i64 0, .int .u64 0] 32)) (wr.heap.size + 1) zr.cells 32) := by
          have h7 := IsB.new (wr.alloc (.cells #[.int .i64 0, .int .i64 0, .int .u64 0, .int .i64 0, .int .u64 0] 32)) #[.int .i64 0, .int .i64 0, .int .u64 0, .int .i64 0, .int .u64 0] 32
          rw [World.size_alloc] at h7
          exact h7
        have hHN : H + 1 < wr.heap.size := C.out.lt
        replace A := hide (A.out.below b5)
        replace C := hide (C.out.below b5)
        have B5 := hide (B.out.trans (b5.mono (Nat.le_trans (Nat.le_of_eq HH.out.symm) B.out.size)))
        have Q1 := P1
        have B6 := B5
        clear P1
        have Q2 := P2
        have B7 := B6
        clear P2
        have HA : Hid (besL l (0) = zr) := by show _ = _; unfold besL; rfl
        have HB : Hid (besR l (0) = zr) := by show _ = _; unfold besR; simp [List.getD, List.getElem?_eq_none (show l.length ≤ 0 + 1 by omega)]
        generalize l[0].id = yd at *
        go_wp2_with fail
        generalize hcu : ((wr.alloc (.cells #[.int .i64 0, .int .i64 0, .int .u64 0, .int .i64 0, .int .u64 0] 32)).alloc (.cells #[.int .i64 0, .int .i64 0, .int .u64 0, .int .i64 0, .int .u64 0] 32)) = W7 at *
        clear hcu
        generalize wr.heap.size = N at *
        replace Q1 := hide (Q1.out.below ((Below.refl _ _).drew))
        replace Q2 := hide (Q2.out.below ((Below.refl _ _).drew))
        replace A := hide (A.out.below ((Below.refl _ _).drew))
        replace C := hide (C.out.below ((Below.refl _ _).drew))
        replace B7 := hide (B7.out.drew)
        refine regionL 5 (fun w' => IsB w' N zr.cells 32 ∧ IsB w' (N + 1) zr.cells 32) mixed ⟨Q1.out, Q2.out⟩ (fun hHeld => ?_)
        generalize W7.drew = WD at *
        obtain ⟨w6, hs6, A6, k6⟩ := st_ref A.out zr
        have HS6 := hide hs6
        have C6 := C.out.kp k6 (by simp)
        have Q3 := hide (Q1.out.kp k6 (by simp; omega))
        have Q4 := hide (Q2.out.kp k6 (by simp; omega))
        obtain ⟨w7, hs7, C7, k7⟩ := st_ref C6 zr
        have HS7 := hide hs7
        have A9 := hide (A6.kp k7 (by simp))
        have C9 := hide C7
        have Q5 := hide (Q3.out.kp k7 (by simp; omega))
        have Q6 := hide (Q4.out.kp k7 (by simp; omega))
        have B9 : Hid (Below H w w7) := (B7.out.trans (k6.to_below (Nat.le_trans (Nat.le_of_eq HH.out.symm) B7.out.size) (by simp))).trans (k7.to_below (Nat.le_trans (Nat.le_trans (Nat.le_of_eq HH.out.symm) B7.out.size) k6.size) (by simp))
        clear hs6 hs7 A6 C6 C7 k6 k7
        refine pickL (v := .agg #[.int .i64 0, .int .i64 0, .int .u64 0, .int .i64 0, .int .u64 0]) 0 (some 40) rfl rfl (by kernel_rfl) (by kernel_rfl) (by kernel_rfl) (by decide) (by kernel_rfl) (by kernel_rfl) (fun _ _ _ h => h) (by rfl) ?_ (by assumption) ?_
        · intro w' hSw
          obtain ⟨q0, q1⟩ := hSw
          exact exec_load rfl rfl (load_ref q0 rfl)
        try simp only [Act.put, List.setIfInBounds_toArray, List.set_cons_zero, List.set_cons_succ]
        refine pickL (v := .agg #[.int .i64 0, .int .i64 0, .int .u64 0, .int .i64 0, .int .u64 0]) 1 (some 41) rfl rfl (by kernel_rfl) (by kernel_rfl) (by kernel_rfl) (by decide) (by kernel_rfl) (by kernel_rfl) (fun _ _ _ h => h) (by rfl) ?_ (by assumption) ?_
        · intro w' hSw
          obtain ⟨q0, q1⟩ := hSw
          exact exec_load rfl rfl (load_ref q1 rfl)
        try simp only [Act.put, List.setIfInBounds_toArray, List.set_cons_zero, List.set_cons_succ]
        refine oneL (i := 2) (by kernel_rfl) rfl (fun K hK => ?_)
        refine step_store_w rfl 32 (.tmp 4) (.tmp 40) rfl rfl rfl HS6.out ?_
        refine hK.out _ _ ?_ ?_
        · exact ⟨Q3.out, Q4.out⟩
        clear hK K
        try simp only [Act.put, List.setIfInBounds_toArray]
        clear hHeld
        have hHeld : (fun w' => IsB w' N zr.cells 32 ∧ IsB w' (N + 1) zr.cells 32) w6 := ⟨Q3.out, Q4.out⟩
        refine oneL (i := 3) (by kernel_rfl) rfl (fun K hK => ?_)
        refine step_store_w rfl 32 (.tmp 5) (.tmp 41) rfl rfl rfl HS7.out ?_
        refine hK.out _ _ ?_ ?_
        · exact ⟨Q5.out, Q6.out⟩
        clear hK K
        try simp only [Act.put]
        clear hHeld
        have hHeld : (fun w' => IsB w' N zr.cells 32 ∧ IsB w' (N + 1) zr.cells 32) w7 := ⟨Q5.out, Q6.out⟩
        refine pickA (v := ?_) 4 (some 6) rfl rfl (by kernel_rfl) (by kernel_rfl) (by kernel_rfl) (by decide) (fun _ _ _ h => h) (by rfl) ?_ (by assumption) ?_
        rotate_left
        · intro w'
          go_simp
          try with_reducible rfl
        try simp only [Act.put]
        refine doneL (by kernel_rfl) ?_ _
        clear hHeld
        go_wp2
        refine ret_rrt (p := 4) (q := 5) (u := 6) Tryd.results44 rfl rfl rfl rfl rfl A9.out C9.out ?_
        exact ⟨by rw [HF.out, HA.out, HB.out]; rfl, HH.out.symm ▸ B9.out⟩
    · obtain ⟨i, rfl⟩ : ∃ i, j = i + 1 := ⟨j - 1, by omega⟩
      have d3 : decide ((0 : Int) < ((i + 1 : Nat) : Int)) = true := by first | (simp; done) | (simp; omega)
      have e3 : ((i + 1 : Nat) : Int) - 1 = (i : Int) := by omega
      by_cases hr : i + 1 + 1 < l.length
      · have d4 : decide ((i : Int) + 1 + 1 < (n : Int)) = true := by have := hn.out; simp; omega
        have d5 : i + 1 + 1 < n := by have := hn.out; omega
        have d6 : (i : Int) + 1 + 1 < (n : Int) := by omega
        have d7 : (0 : Int) < (i : Int) + 1 := by omega
        have d8 : decide ((0 : Int) < (i : Int) + 1) = true := by first | (simp; done) | (simp; omega)
        have dn : (l[i + 1].id != d) = false := by simp [hid]
        have HF : Hid (besD d l = (besL l (i + 1), besR l (i + 1), true)) := besD_at hjl hid HN.out
        clear HN
        have b5 : Below wr.heap.size wr ((wr.alloc (.cells #[.int .i64 0, .int .i64 0, .int .u64 0, .int .i64 0, .int .u64 0] 32)).alloc (.cells #[.int .i64 0, .int .i64 0, .int .u64 0, .int .i64 0, .int .u64 0] 32)) := ((Below.refl wr.heap.size wr).alloc (Nat.le_refl _) _).alloc (by simp) _
        have P1 : Hid (IsB ((wr.alloc (.cells #[.int .i64 0, .int .i64 0, .int .u64 0, .int .i64 0, .int .u64 0] 32)).alloc (.cells #[.int .i64 0, .int .i64 0, .int .u64 0, .int .i64 0, .int .u64 0] 32)) wr.heap.size zr.cells 32) := (IsB.new wr #[.int .i64 0, .int .i64 0, .int .u64 0, .int .i64 0, .int .u64 0] 32).below ((Below.refl _ _).alloc (Nat.le_refl _) _)
        have P2 : Hid (IsB ((wr.alloc (.cells #[.int .i64 0, .int .i64 0, .int .u64 0, .int .i64 0, .int .u64 0] 32)).alloc (.cells #[.int .i64 0, .int .i64 0, .int .u64 0, .int .i64 0, .int .u64 0] 32)) (wr.heap.size + 1) zr.cells 32) := by
          have h7 := IsB.new (wr.alloc (.cells #[.int .i64 0, .int .i64 0, .int .u64 0, .int .i64 0, .int .u64 0] 32)) #[.int .i64 0, .int .i64 0, .int .u64 0, .int .i64 0, .int .u64 0] 32
          rw [World.size_alloc] at h7
          exact h7
        have hHN : H + 1 < wr.heap.size := C.out.lt
        replace A := hide (A.out.below b5)
        replace C := hide (C.out.below b5)
        have B5 := hide (B.out.trans (b5.mono (Nat.le_trans (Nat.le_of_eq HH.out.symm) B.out.size)))
        have LL : Hid ((Instr.loadAt 32 (.pointer (some ⟨g, o + i * 5, none⟩))).run Tryd.prog ((wr.alloc (.cells #[.int .i64 0, .int .i64 0, .int .u64 0, .int .i64 0, .int .u64 0] 32)).alloc (.cells #[.int .i64 0, .int .i64 0, .int .u64 0, .int .i64 0, .int .u64 0] 32)) = .ok (.agg #[.int .i64 l[i].id, .int .i64 l[i].rk, .int .u64 l[i].kn, .int .i64 l[i].ln, .int .u64 l[i].bt]) ((wr.alloc (.cells #[.int .i64 0, .int .i64 0, .int .u64 0, .int .i64 0, .int .u64 0] 32)).alloc (.cells #[.int .i64 0, .int .i64 0, .int .u64 0, .int .i64 0, .int .u64 0] 32))) := (RA.out _ B5.out).ldr i (by omega)
        obtain ⟨va1, hs1, P1b, k1⟩ := st_ref P1.out l[i]
        have HS1 : Hid ((Instr.storeAt 32 (.pointer (some ⟨wr.heap.size, 0, none⟩)) (.agg #[.int .i64 l[i].id, .int .i64 l[i].rk, .int .u64 l[i].kn, .int .i64 l[i].ln, .int .u64 l[i].bt])).run Tryd.prog ((wr.alloc (.cells #[.int .i64 0, .int .i64 0, .int .u64 0, .int .i64 0, .int .u64 0] 32)).alloc (.cells #[.int .i64 0, .int .i64 0, .int .u64 0, .int .i64 0, .int .u64 0] 32)) = .ok () va1) := hs1
        have B6 := hide (B5.out.trans (k1.to_below (Nat.le_trans (Nat.le_of_eq HH.out.symm) B5.out.size) (by simp; omega)))
        replace P2 := hide (P2.out.kp k1 (by simp))
        replace A := hide (A.out.kp k1 (by simp; omega))
        replace C := hide (C.out.kp k1 (by simp; omega))
        have Q1 := hide P1b
        clear hs1 P1b k1 P1
        have LRr : Hid ((Instr.loadAt 32 (.pointer (some ⟨g, o + (i + 1 + 1) * 5, none⟩))).run Tryd.prog va1 = .ok (.agg #[.int .i64 l[i + 1 + 1].id, .int .i64 l[i + 1 + 1].rk, .int .u64 l[i + 1 + 1].kn, .int .i64 l[i + 1 + 1].ln, .int .u64 l[i + 1 + 1].bt]) va1) := (RA.out _ B6.out).ldr (i + 1 + 1) hr
        obtain ⟨vb1, hs2, P2b, k2⟩ := st_ref P2.out l[i + 1 + 1]
        have HS2 : Hid ((Instr.storeAt 32 (.pointer (some ⟨wr.heap.size + 1, 0, none⟩)) (.agg #[.int .i64 l[i + 1 + 1].id, .int .i64 l[i + 1 + 1].rk, .int .u64 l[i + 1 + 1].kn, .int .i64 l[i + 1 + 1].ln, .int .u64 l[i + 1 + 1].bt])).run Tryd.prog va1 = .ok () vb1) := hs2
        have B7 := hide (B6.out.trans (k2.to_below (Nat.le_trans (Nat.le_of_eq HH.out.symm) B6.out.size) (by simp; omega)))
        replace Q1 := hide (Q1.out.kp k2 (by simp))
        replace A := hide (A.out.kp k2 (by simp; omega))
        replace C := hide (C.out.kp k2 (by simp; omega))
        have Q2 := hide P2b
        clear hs2 P2b k2 P2
        have HA : Hid (besL l (i + 1) = l[i]) := by show _ = _; unfold besL; rw [if_neg (by omega)]; simp [List.getD, List.getElem?_eq_getElem (show i < l.length by omega)]
        have HB : Hid (besR l (i + 1) = l[i + 1 + 1]) := by show _ = _; unfold besR; simp [List.getD, List.getElem?_eq_getElem hr]
        generalize l[i] = za at *
        generalize l[i + 1 + 1] = zb at *
        generalize l[i + 1].id = yd at *
        go_wp2_with (first | (focus ((with_reducible refine wpList_load_w ?_ 32 (.tmp 28) ?_ ?_ LL.out ?_); rotate_left; rfl; rfl; rotate_left; rfl)) | (focus ((with_reducible refine wpList_store_w ?_ 32 (.tmp 8) (.tmp 29) ?_ ?_ ?_ HS1.out ?_); rotate_left; rfl; rfl; rfl; rotate_left; rfl)) | (focus ((with_reducible refine wpList_load_w ?_ 32 (.tmp 38) ?_ ?_ LRr.out ?_); rotate_left; rfl; rfl; rotate_left; rfl)) | (focus ((with_reducible refine wpList_store_w ?_ 32 (.tmp 9) (.tmp 39) ?_ ?_ ?_ HS2.out ?_); rotate_left; rfl; rfl; rfl; rotate_left; rfl)))
        generalize hcu : vb1 = W7 at *
        clear hcu
        generalize wr.heap.size = N at *
        replace Q1 := hide (Q1.out.below ((Below.refl _ _).drew))
        replace Q2 := hide (Q2.out.below ((Below.refl _ _).drew))
        replace A := hide (A.out.below ((Below.refl _ _).drew))
        replace C := hide (C.out.below ((Below.refl _ _).drew))
        replace B7 := hide (B7.out.drew)
        refine regionL 5 (fun w' => IsB w' N za.cells 32 ∧ IsB w' (N + 1) zb.cells 32) mixed ⟨Q1.out, Q2.out⟩ (fun hHeld => ?_)
        generalize W7.drew = WD at *
        obtain ⟨w6, hs6, A6, k6⟩ := st_ref A.out za
        have HS6 := hide hs6
        have C6 := C.out.kp k6 (by simp)
        have Q3 := hide (Q1.out.kp k6 (by simp; omega))
        have Q4 := hide (Q2.out.kp k6 (by simp; omega))
        obtain ⟨w7, hs7, C7, k7⟩ := st_ref C6 zb
        have HS7 := hide hs7
        have A9 := hide (A6.kp k7 (by simp))
        have C9 := hide C7
        have Q5 := hide (Q3.out.kp k7 (by simp; omega))
        have Q6 := hide (Q4.out.kp k7 (by simp; omega))
        have B9 : Hid (Below H w w7) := (B7.out.trans (k6.to_below (Nat.le_trans (Nat.le_of_eq HH.out.symm) B7.out.size) (by simp))).trans (k7.to_below (Nat.le_trans (Nat.le_trans (Nat.le_of_eq HH.out.symm) B7.out.size) k6.size) (by simp))
        clear hs6 hs7 A6 C6 C7 k6 k7
        refine pickL (v := .agg #[.int .i64 za.id, .int .i64 za.rk, .int .u64 za.kn, .int .i64 za.ln, .int .u64 za.bt]) 0 (some 40) rfl rfl (by kernel_rfl) (by kernel_rfl) (by kernel_rfl) (by decide) (by kernel_rfl) (by kernel_rfl) (fun _ _ _ h => h) (by rfl) ?_ (by assumption) ?_
        · intro w' hSw
          obtain ⟨q0, q1⟩ := hSw
          exact exec_load rfl rfl (load_ref q0 rfl)
        try simp only [Act.put, List.setIfInBounds_toArray, List.set_cons_zero, List.set_cons_succ]
        refine pickL (v := .agg #[.int .i64 zb.id, .int .i64 zb.rk, .int .u64 zb.kn, .int .i64 zb.ln, .int .u64 zb.bt]) 1 (some 41) rfl rfl (by kernel_rfl) (by kernel_rfl) (by kernel_rfl) (by decide) (by kernel_rfl) (by kernel_rfl) (fun _ _ _ h => h) (by rfl) ?_ (by assumption) ?_
        · intro w' hSw
          obtain ⟨q0, q1⟩ := hSw
          exact exec_load rfl rfl (load_ref q1 rfl)
        try simp only [Act.put, List.setIfInBounds_toArray, List.set_cons_zero, List.set_cons_succ]
        refine oneL (i := 2) (by kernel_rfl) rfl (fun K hK => ?_)
        refine step_store_w rfl 32 (.tmp 4) (.tmp 40) rfl rfl rfl HS6.out ?_
        refine hK.out _ _ ?_ ?_
        · exact ⟨Q3.out, Q4.out⟩
        clear hK K
        try simp only [Act.put, List.setIfInBounds_toArray]
        clear hHeld
        have hHeld : (fun w' => IsB w' N za.cells 32 ∧ IsB w' (N + 1) zb.cells 32) w6 := ⟨Q3.out, Q4.out⟩
        refine oneL (i := 3) (by kernel_rfl) rfl (fun K hK => ?_)
        refine step_store_w rfl 32 (.tmp 5) (.tmp 41) rfl rfl rfl HS7.out ?_
        refine hK.out _ _ ?_ ?_
        · exact ⟨Q5.out, Q6.out⟩
        clear hK K
        try simp only [Act.put]
        clear hHeld
        have hHeld : (fun w' => IsB w' N za.cells 32 ∧ IsB w' (N + 1) zb.cells 32) w7 := ⟨Q5.out, Q6.out⟩
        refine pickA (v := ?_) 4 (some 6) rfl rfl (by kernel_rfl) (by kernel_rfl) (by kernel_rfl) (by decide) (fun _ _ _ h => h) (by rfl) ?_ (by assumption) ?_
        rotate_left
        · intro w'
          go_simp
          try with_reducible rfl
        try simp only [Act.put]
        refine doneL (by kernel_rfl) ?_ _
        clear hHeld
        go_wp2
        refine ret_rrt (p := 4) (q := 5) (u := 6) Tryd.results44 rfl rfl rfl rfl rfl A9.out C9.out ?_
        exact ⟨by rw [HF.out, HA.out, HB.out]; rfl, HH.out.symm ▸ B9.out⟩
      · have d4 : decide ((i : Int) + 1 + 1 < (n : Int)) = false := by have := hn.out; simp; omega
        have d5 : ¬ i + 1 + 1 < n := by have := hn.out; omega
        have d6 : ¬ (i : Int) + 1 + 1 < (n : Int) := by omega
        have d7 : (0 : Int) < (i : Int) + 1 := by omega
        have d8 : decide ((0 : Int) < (i : Int) + 1) = true := by first | (simp; done) | (simp; omega)
        have dn : (l[i + 1].id != d) = false := by simp [hid]
        have HF : Hid (besD d l = (besL l (i + 1), besR l (i + 1), true)) := besD_at hjl hid HN.out
        clear HN
        have b5 : Below wr.heap.size wr ((wr.alloc (.cells #[.int .i64 0, .int .i64 0, .int .u64 0, .int .i64 0, .int .u64 0] 32)).alloc (.cells #[.int .i64 0, .int .i64 0, .int .u64 0, .int .i64 0, .int .u64 0] 32)) := ((Below.refl wr.heap.size wr).alloc (Nat.le_refl _) _).alloc (by simp) _
        have P1 : Hid (IsB ((wr.alloc (.cells #[.int .i64 0, .int .i64 0, .int .u64 0, .int .i64 0, .int .u64 0] 32)).alloc (.cells #[.int .i64 0, .int .i64 0, .int .u64 0, .int .i64 0, .int .u64 0] 32)) wr.heap.size zr.cells 32) := (IsB.new wr #[.int .i64 0, .int .i64 0, .int .u64 0, .int .i64 0, .int .u64 0] 32).below ((Below.refl _ _).alloc (Nat.le_refl _) _)
        have P2 : Hid (IsB ((wr.alloc (.cells #[.int .i64 0, .int .i64 0, .int .u64 0, .int .i64 0, .int .u64 0] 32)).alloc (.cells #[.int .i64 0, .int .i64 0, .int .u64 0, .int .i64 0, .int .u64 0] 32)) (wr.heap.size + 1) zr.cells 32) := by
          have h7 := IsB.new (wr.alloc (.cells #[.int .i64 0, .int .i64 0, .int .u64 0, .int .i64 0, .int .u64 0] 32)) #[.int .i64 0, .int .i64 0, .int .u64 0, .int .i64 0, .int .u64 0] 32
          rw [World.size_alloc] at h7
          exact h7
        have hHN : H + 1 < wr.heap.size := C.out.lt
        replace A := hide (A.out.below b5)
        replace C := hide (C.out.below b5)
        have B5 := hide (B.out.trans (b5.mono (Nat.le_trans (Nat.le_of_eq HH.out.symm) B.out.size)))
        have LL : Hid ((Instr.loadAt 32 (.pointer (some ⟨g, o + i * 5, none⟩))).run Tryd.prog ((wr.alloc (.cells #[.int .i64 0, .int .i64 0, .int .u64 0, .int .i64 0, .int .u64 0] 32)).alloc (.cells #[.int .i64 0, .int .i64 0, .int .u64 0, .int .i64 0, .int .u64 0] 32)) = .ok (.agg #[.int .i64 l[i].id, .int .i64 l[i].rk, .int .u64 l[i].kn, .int .i64 l[i].ln, .int .u64 l[i].bt]) ((wr.alloc (.cells #[.int .i64 0, .int .i64 0, .int .u64 0, .int .i64 0, .int .u64 0] 32)).alloc (.cells #[.int .i64 0, .int .i64 0, .int .u64 0, .int .i64 0, .int .u64 0] 32))) := (RA.out _ B5.out).ldr i (by omega)
        obtain ⟨va1, hs1, P1b, k1⟩ := st_ref P1.out l[i]
        have HS1 : Hid ((Instr.storeAt 32 (.pointer (some ⟨wr.heap.size, 0, none⟩)) (.agg #[.int .i64 l[i].id, .int .i64 l[i].rk, .int .u64 l[i].kn, .int .i64 l[i].ln, .int .u64 l[i].bt])).run Tryd.prog ((wr.alloc (.cells #[.int .i64 0, .int .i64 0, .int .u64 0, .int .i64 0, .int .u64 0] 32)).alloc (.cells #[.int .i64 0, .int .i64 0, .int .u64 0, .int .i64 0, .int .u64 0] 32)) = .ok () va1) := hs1
        have B6 := hide (B5.out.trans (k1.to_below (Nat.le_trans (Nat.le_of_eq HH.out.symm) B5.out.size) (by simp; omega)))
        replace P2 := hide (P2.out.kp k1 (by simp))
        replace A := hide (A.out.kp k1 (by simp; omega))
        replace C := hide (C.out.kp k1 (by simp; omega))
        have Q1 := hide P1b
        clear hs1 P1b k1 P1
        have Q2 := P2
        have B7 := B6
        clear P2
        have HA : Hid (besL l (i + 1) = l[i]) := by show _ = _; unfold besL; rw [if_neg (by omega)]; simp [List.getD, List.getElem?_eq_getElem (show i < l.length by omega)]
        have HB : Hid (besR l (i + 1) = zr) := by show _ = _; unfold besR; simp [List.getD, List.getElem?_eq_none (show l.length ≤ i + 1 + 1 by omega)]
        generalize l[i] = za at *
        generalize l[i + 1].id = yd at *
        go_wp2_with (first | (focus ((with_reducible refine wpList_load_w ?_ 32 (.tmp 28) ?_ ?_ LL.out ?_); rotate_left; rfl; rfl; rotate_left; rfl)) | (focus ((with_reducible refine wpList_store_w ?_ 32 (.tmp 8) (.tmp 29) ?_ ?_ ?_ HS1.out ?_); rotate_left; rfl; rfl; rfl; rotate_left; rfl)))
        generalize hcu : va1 = W7 at *
        clear hcu
        generalize wr.heap.size = N at *
        replace Q1 := hide (Q1.out.below ((Below.refl _ _).drew))
        replace Q2 := hide (Q2.out.below ((Below.refl _ _).drew))
        replace A := hide (A.out.below ((Below.refl _ _).drew))
        replace C := hide (C.out.below ((Below.refl _ _).drew))
        replace B7 := hide (B7.out.drew)
        refine regionL 5 (fun w' => IsB w' N za.cells 32 ∧ IsB w' (N + 1) zr.cells 32) mixed ⟨Q1.out, Q2.out⟩ (fun hHeld => ?_)
        generalize W7.drew = WD at *
        obtain ⟨w6, hs6, A6, k6⟩ := st_ref A.out za
        have HS6 := hide hs6
        have C6 := C.out.kp k6 (by simp)
        have Q3 := hide (Q1.out.kp k6 (by simp; omega))
        have Q4 := hide (Q2.out.kp k6 (by simp; omega))
        obtain ⟨w7, hs7, C7, k7⟩ := st_ref C6 zr
        have HS7 := hide hs7
        have A9 := hide (A6.kp k7 (by simp))
        have C9 := hide C7
        have Q5 := hide (Q3.out.kp k7 (by simp; omega))
        have Q6 := hide (Q4.out.kp k7 (by simp; omega))
        have B9 : Hid (Below H w w7) := (B7.out.trans (k6.to_below (Nat.le_trans (Nat.le_of_eq HH.out.symm) B7.out.size) (by simp))).trans (k7.to_below (Nat.le_trans (Nat.le_trans (Nat.le_of_eq HH.out.symm) B7.out.size) k6.size) (by simp))
        clear hs6 hs7 A6 C6 C7 k6 k7
        refine pickL (v := .agg #[.int .i64 za.id, .int .i64 za.rk, .int .u64 za.kn, .int .i64 za.ln, .int .u64 za.bt]) 0 (some 40) rfl rfl (by kernel_rfl) (by kernel_rfl) (by kernel_rfl) (by decide) (by kernel_rfl) (by kernel_rfl) (fun _ _ _ h => h) (by rfl) ?_ (by assumption) ?_
        · intro w' hSw
          obtain ⟨q0, q1⟩ := hSw
          exact exec_load rfl rfl (load_ref q0 rfl)
        try simp only [Act.put, List.setIfInBounds_toArray, List.set_cons_zero, List.set_cons_succ]
        refine pickL (v := .agg #[.int .i64 0, .int .i64 0, .int .u64 0, .int .i64 0, .int .u64 0]) 1 (some 41) rfl rfl (by kernel_rfl) (by kernel_rfl) (by kernel_rfl) (by decide) (by kernel_rfl) (by kernel_rfl) (fun _ _ _ h => h) (by rfl) ?_ (by assumption) ?_
        · intro w' hSw
          obtain ⟨q0, q1⟩ := hSw
          exact exec_load rfl rfl (load_ref q1 rfl)
        try simp only [Act.put, List.setIfInBounds_toArray, List.set_cons_zero, List.set_cons_succ]
        refine oneL (i := 2) (by kernel_rfl) rfl (fun K hK => ?_)
        refine step_store_w rfl 32 (.tmp 4) (.tmp 40) rfl rfl rfl HS6.out ?_
        refine hK.out _ _ ?_ ?_
        · exact ⟨Q3.out, Q4.out⟩
        clear hK K
        try simp only [Act.put, List.setIfInBounds_toArray]
        clear hHeld
        have hHeld : (fun w' => IsB w' N za.cells 32 ∧ IsB w' (N + 1) zr.cells 32) w6 := ⟨Q3.out, Q4.out⟩
        refine oneL (i := 3) (by kernel_rfl) rfl (fun K hK => ?_)
        refine step_store_w rfl 32 (.tmp 5) (.tmp 41) rfl rfl rfl HS7.out ?_
        refine hK.out _ _ ?_ ?_
        · exact ⟨Q5.out, Q6.out⟩
        clear hK K
        try simp only [Act.put]
        clear hHeld
        have hHeld : (fun w' => IsB w' N za.cells 32 ∧ IsB w' (N + 1) zr.cells 32) w7 := ⟨Q5.out, Q6.out⟩
        refine pickA (v := ?_) 4 (some 6) rfl rfl (by kernel_rfl) (by kernel_rfl) (by kernel_rfl) (by decide) (fun _ _ _ h => h) (by rfl) ?_ (by assumption) ?_
        rotate_left
        · intro w'
          go_simp
          try with_reducible rfl
        try simp only [Act.put]
        refine doneL (by kernel_rfl) ?_ _
        clear hHeld
        go_wp2
        refine ret_rrt (p := 4) (q := 5) (u := 6) Tryd.results44 rfl rfl rfl rfl rfl A9.out C9.out ?_
        exact ⟨by rw [HF.out, HA.out, HB.out]; rfl, HH.out.symm ▸ B9.out⟩

end Go.Proofs.YtjkgacbckdipgaaDoor
