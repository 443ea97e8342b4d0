/- The document's Beside. -/
import Derived.Test.YtpngegdkcgoajaaDoorNF
namespace Go.Proofs.YtpngegdkcgoajaaDoor
open Go.RowKit Go.Maps Go.ChangeMaps

/-- What the document's Beside answers. -/
noncomputable def docB (h x y d : Int) (l : List Rf) : Rf × Rf × Int :=
  @ite _ (okG h l) (Classical.propDecidable _)
    (if (rt x y && decide (x ≤ h)) = true then (if plI d (rowL h (sortL (l.filter fun r => bgS r.ln r.bt x y))) < 0 then (zr, zr, 111) else (besL (rowL h (sortL (l.filter fun r => bgS r.ln r.bt x y))) (plI d (rowL h (sortL (l.filter fun r => bgS r.ln r.bt x y)))).toNat, besR (rowL h (sortL (l.filter fun r => bgS r.ln r.bt x y))) (plI d (rowL h (sortL (l.filter fun r => bgS r.ln r.bt x y)))).toNat, 0)) else (zr, zr, 10))
    (zr, zr, 110)
theorem docB_bad {h x y d : Int} {l : List Rf} (hg : ¬ okG h l) : docB h x y d l = (zr, zr, 110) := by unfold docB; exact if_neg hg
theorem docB_vec {h x y d : Int} {l : List Rf} (hg : okG h l) (hv : (rt x y && decide (x ≤ h)) = false) : docB h x y d l = (zr, zr, 10) := by unfold docB; rw [if_pos hg, if_neg (by simp [hv])]
theorem docB_no {h x y d : Int} {l : List Rf} (hg : okG h l) (hv : (rt x y && decide (x ≤ h)) = true) {a b : Rf} (hb : besD d (rowL h (sortL (l.filter fun r => bgS r.ln r.bt x y))) = (a, b, false)) : docB h x y d l = (a, b, 111) := by
  unfold besD at hb
  unfold docB
  rw [if_pos hg, if_pos hv]
  by_cases hp : plI d (rowL h (sortL (l.filter fun r => bgS r.ln r.bt x y))) < 0
  · rw [if_pos hp] at hb ⊢
    simp only [Prod.mk.injEq] at hb
    rw [← hb.1, ← hb.2.1]
  · rw [if_neg hp] at hb
    simp at hb
theorem docB_yes {h x y d : Int} {l : List Rf} (hg : okG h l) (hv : (rt x y && decide (x ≤ h)) = true) {a b : Rf} (hb : besD d (rowL h (sortL (l.filter fun r => bgS r.ln r.bt x y))) = (a, b, true)) : docB h x y d l = (a, b, 0) := by
  unfold besD at hb
  unfold docB
  rw [if_pos hg, if_pos hv]
  by_cases hp : plI d (rowL h (sortL (l.filter fun r => bgS r.ln r.bt x y))) < 0
  · rw [if_pos hp] at hb
    simp at hb
  · rw [if_neg hp] at hb ⊢
    simp only [Prod.mk.injEq, and_true] at hb
    rw [hb.1, hb.2]

set_option maxHeartbeats 8000000 in
set_option maxRecDepth 100000 in
theorem rbeside_doc (h x y d : Int) (hy : 0 ≤ y) (v : Value) (l : List Rf) (hl : l.length ≤ 1000) (hbt : ∀ r ∈ l, 0 ≤ r.bt) (w : World) (R : RSl w v l) : Calls Tryd.prog 7 #[.int .i64 h, (.agg #[.int .i64 (x), .int .u64 (y)]), .int .i64 d, v] w fun e' w' => e' = .returned (.tuple #[.agg (docB h x y d l).1.cells, .agg (docB h x y d l).2.1.cells, .int .i64 (docB h x y d l).2.2]) ∧ Below w.heap.size w w' := by
  have mixed : Tryd.prog.follows .mixedOrders = true := by kernel_rfl
  have b3 : Below w.heap.size w (((w.alloc (.cells #[.int .i64 x, .int .u64 y] 24)).alloc (.cells #[.int .i64 0, .int .i64 0, .int .u64 0, .int .i64 0, .int .u64 0] 31)).alloc (.cells #[.int .i64 0, .int .i64 0, .int .u64 0, .int .i64 0, .int .u64 0] 31)) := (((Below.refl w.heap.size w).alloc (Nat.le_refl _) _).alloc (by simp) _).alloc (by simp; omega) _
  have Q : Hid (IsB (((w.alloc (.cells #[.int .i64 x, .int .u64 y] 24)).alloc (.cells #[.int .i64 0, .int .i64 0, .int .u64 0, .int .i64 0, .int .u64 0] 31)).alloc (.cells #[.int .i64 0, .int .i64 0, .int .u64 0, .int .i64 0, .int .u64 0] 31)) w.heap.size #[.int .i64 x, .int .u64 y] 24) := ((IsB.new w #[.int .i64 x, .int .u64 y] 24).below (gal1 _ (.cells #[.int .i64 0, .int .i64 0, .int .u64 0, .int .i64 0, .int .u64 0] 31))).below (gal1 _ (.cells #[.int .i64 0, .int .i64 0, .int .u64 0, .int .i64 0, .int .u64 0] 31))
  have A : Hid (IsB (((w.alloc (.cells #[.int .i64 x, .int .u64 y] 24)).alloc (.cells #[.int .i64 0, .int .i64 0, .int .u64 0, .int .i64 0, .int .u64 0] 31)).alloc (.cells #[.int .i64 0, .int .i64 0, .int .u64 0, .int .i64 0, .int .u64 0] 31)) (w.heap.size + 1) zr.cells 31) := by
    have h7 := (IsB.new (w.alloc (.cells #[.int .i64 x, .int .u64 y] 24)) #[.int .i64 0, .int .i64 0, .int .u64 0, .int .i64 0, .int .u64 0] 31).below (gal1 _ (.cells #[.int .i64 0, .int .i64 0, .int .u64 0, .int .i64 0, .int .u64 0] 31))
    rw [World.size_alloc] at h7
    exact h7
  have C : Hid (IsB (((w.alloc (.cells #[.int .i64 x, .int .u64 y] 24)).alloc (.cells #[.int .i64 0, .int .i64 0, .int .u64 0, .int .i64 0, .int .u64 0] 31)).alloc (.cells #[.int .i64 0, .int .i64 0, .int .u64 0, .int .i64 0, .int .u64 0] 31)) (w.heap.size + 1 + 1) zr.cells 31) := by
    have h7 := IsB.new ((w.alloc (.cells #[.int .i64 x, .int .u64 y] 24)).alloc (.cells #[.int .i64 0, .int .i64 0, .int .u64 0, .int .i64 0, .int .u64 0] 31)) #[.int .i64 0, .int .i64 0, .int .u64 0, .int .i64 0, .int .u64 0] 31
    rw [World.size_alloc, World.size_alloc] at h7
    exact h7
  go_enter Tryd.func7, Tryd.ntmps7
  go_wp2_with fail
  generalize (((w.alloc (.cells #[.int .i64 x, .int .u64 y] 24)).alloc (.cells #[.int .i64 0, .int .i64 0, .int .u64 0, .int .i64 0, .int .u64 0] 31)).alloc (.cells #[.int .i64 0, .int .i64 0, .int .u64 0, .int .i64 0, .int .u64 0] 31)) = W1 at *
  obtain ⟨H, hH⟩ : ∃ H, w.heap.size = H := ⟨_, rfl⟩
  have HH : Hid (w.heap.size = H) := hH
  rw [hH] at Q A C b3 ⊢
  have B := hide b3
  have RA : Hid (∀ w', Below H w w' → RSl w' v l) := fun w' hb => R.below (hH ▸ hb)
  clear R b3 hH
  refine (check_doc h v l hl W1 (RA.out _ B.out)).mono ?_
  rintro e w2 ⟨rfl, hb⟩
  replace Q := hide (Q.out.below hb)
  replace A := hide (A.out.below hb)
  replace C := hide (C.out.below hb)
  replace B := hide (B.out.trans (hb.mono (Nat.le_trans (Nat.le_of_eq HH.out.symm) B.out.size)))
  clear hb
  by_cases hg : okG h l
  rotate_left
  · have HF := hide (docB_bad (x := x) (y := y) (d := d) hg)
    rw [chkE_no hg]
    obtain ⟨w6, hs6, A6, k6⟩ := st_ref A.out zr
    have HS6 := hide hs6
    have C6 := C.out.kp k6 (by simp)
    obtain ⟨w7, hs7, C7, k7⟩ := st_ref C6 zr
    have HS7 := hide hs7
    have A9 := hide (A6.kp k7 (by simp))
    have C9 := hide C7
    have B9 : Hid (Below H w w7) := (B.out.trans (k6.to_below (Nat.le_trans (Nat.le_of_eq HH.out.symm) B.out.size) (by simp))).trans (k7.to_below (Nat.le_trans (Nat.le_trans (Nat.le_of_eq HH.out.symm) B.out.size) k6.size) (by simp; omega))
    clear hs6 hs7 A6 C6 C7 k6 k7
    go_wp2_with (first | (focus ((with_reducible refine wpList_store_w ?_ 31 (.tmp 8) (.tmp 18) ?_ ?_ ?_ HS6.out ?_); rotate_left; rfl; rfl; rfl; rotate_left; rfl)) | (focus ((with_reducible refine wpList_store_w ?_ 31 (.tmp 9) (.tmp 19) ?_ ?_ ?_ HS7.out ?_); rotate_left; rfl; rfl; rfl; rotate_left; rfl)))
    refine ret_rrt (p := 8) (q := 9) (u := 10) Tryd.results7 rfl rfl rfl rfl rfl A9.out C9.out ?_
    exact ⟨by rw [HF.out]; rfl, HH.out.symm ▸ B9.out⟩
  rw [chkE_yes hg]
  have HG := hide hg
  clear hg
  have LV := hide (ld_v2 Q.out)
  go_wp2_with (first | (focus ((with_reducible refine wpList_load_w ?_ 24 (.tmp 5) ?_ ?_ LV.out ?_); rotate_left; rfl; rfl; rotate_left; rfl)))
  refine (rright_any x y w2).mono ?_
  rintro e w3 ⟨rfl, hb⟩
  replace Q := hide (Q.out.below hb)
  replace A := hide (A.out.below hb)
  replace C := hide (C.out.below hb)
  replace B := hide (B.out.trans (hb.mono (Nat.le_trans (Nat.le_of_eq HH.out.symm) B.out.size)))
  clear hb
  clear LV
  cases hR : rt x y with
  | false =>
    have HF : Hid (docB h x y d l = (zr, zr, 10)) := docB_vec HG.out (by rw [hR]; rfl)
    obtain ⟨w6, hs6, A6, k6⟩ := st_ref A.out zr
    have HS6 := hide hs6
    have C6 := C.out.kp k6 (by simp)
    obtain ⟨w7, hs7, C7, k7⟩ := st_ref C6 zr
    have HS7 := hide hs7
    have A9 := hide (A6.kp k7 (by simp))
    have C9 := hide C7
    have B9 : Hid (Below H w w7) := (B.out.trans (k6.to_below (Nat.le_trans (Nat.le_of_eq HH.out.symm) B.out.size) (by simp))).trans (k7.to_below (Nat.le_trans (Nat.le_trans (Nat.le_of_eq HH.out.symm) B.out.size) k6.size) (by simp; omega))
    clear hs6 hs7 A6 C6 C7 k6 k7
    go_wp2_with (first | (focus ((with_reducible refine wpList_store_w ?_ 31 (.tmp 8) (.tmp 29) ?_ ?_ ?_ HS6.out ?_); rotate_left; rfl; rfl; rfl; rotate_left; rfl)) | (focus ((with_reducible refine wpList_store_w ?_ 31 (.tmp 9) (.tmp 30) ?_ ?_ ?_ HS7.out ?_); rotate_left; rfl; rfl; rfl; rotate_left; rfl)))
    refine ret_rrt (p := 8) (q := 9) (u := 10) Tryd.results7 rfl rfl rfl rfl rfl A9.out C9.out ?_
    exact ⟨by rw [HF.out]; rfl, HH.out.symm ▸ B9.out⟩
  | true =>
    have y0 : w3.cell? ⟨H, 0, none⟩ = some (.int .i64 x) := Q.out.cell 0
    by_cases hxh : h < x
    · have d1 : decide (h < x) = true := by simpa using hxh
      have HF : Hid (docB h x y d l = (zr, zr, 10)) := docB_vec HG.out (by rw [hR]; simp; omega)
      obtain ⟨w6, hs6, A6, k6⟩ := st_ref A.out zr
      have HS6 := hide hs6
      have C6 := C.out.kp k6 (by simp)
      obtain ⟨w7, hs7, C7, k7⟩ := st_ref C6 zr
      have HS7 := hide hs7
      have A9 := hide (A6.kp k7 (by simp))
      have C9 := hide C7
      have B9 : Hid (Below H w w7) := (B.out.trans (k6.to_below (Nat.le_trans (Nat.le_of_eq HH.out.symm) B.out.size) (by simp))).trans (k7.to_below (Nat.le_trans (Nat.le_trans (Nat.le_of_eq HH.out.symm) B.out.size) k6.size) (by simp; omega))
      clear hs6 hs7 A6 C6 C7 k6 k7
      go_wp2_with (first | (focus ((with_reducible refine wpList_store_w ?_ 31 (.tmp 8) (.tmp 29) ?_ ?_ ?_ HS6.out ?_); rotate_left; rfl; rfl; rfl; rotate_left; rfl)) | (focus ((with_reducible refine wpList_store_w ?_ 31 (.tmp 9) (.tmp 30) ?_ ?_ ?_ HS7.out ?_); rotate_left; rfl; rfl; rfl; rotate_left; rfl)))
      refine ret_rrt (p := 8) (q := 9) (u := 10) Tryd.results7 rfl rfl rfl rfl rfl A9.out C9.out ?_
      exact ⟨by rw [HF.out]; rfl, HH.out.symm ▸ B9.out⟩
    · have d1 : decide (h < x) = false := by simp; omega
      have HV : Hid ((rt x y && decide (x ≤ h)) = true) := by show _ = _; rw [hR]; simp; omega
      clear hR hxh
      have LV := hide (ld_v2 Q.out)
      go_wp2_with (first | (focus ((with_reducible refine wpList_load_w ?_ 24 (.tmp 5) ?_ ?_ LV.out ?_); rotate_left; rfl; rfl; rotate_left; rfl)))
      clear y0 d1 LV
      refine (row_doc h x y HG.out.1.1 HG.out.1.2 hy v l hl hbt w3 (RA.out _ B.out)).mono ?_
      rintro e w4 ⟨vr, rfl, hrow, hb⟩
      replace Q := hide (Q.out.below hb)
      replace A := hide (A.out.below hb)
      replace C := hide (C.out.below hb)
      replace B := hide (B.out.trans (hb.mono (Nat.le_trans (Nat.le_of_eq HH.out.symm) B.out.size)))
      clear hb
      have hlen : (rowL h (sortL (l.filter fun r => bgS r.ln r.bt x y))).length ≤ 3000 := by
        rw [rowL_len, sortL_len]
        have := List.length_filter_le (fun r : Rf => bgS r.ln r.bt x y) l
        omega
      have CB := beside_doc vr _ hlen d w4 hrow.rsl
      go_wp2_with fail
      refine CB.mono ?_
      rintro e w5 ⟨rfl, hb⟩
      replace Q := hide (Q.out.below hb)
      replace A := hide (A.out.below hb)
      replace C := hide (C.out.below hb)
      replace B := hide (B.out.trans (hb.mono (Nat.le_trans (Nat.le_of_eq HH.out.symm) B.out.size)))
      clear hb
      clear CB hrow hlen
      obtain ⟨a, b, ok, hbs⟩ : ∃ a b ok, besD d (rowL h (sortL (l.filter fun r => bgS r.ln r.bt x y))) = (a, b, ok) := ⟨_, _, _, rfl⟩
      rw [hbs]
      have HBS := hide hbs
      clear hbs
      have b5 : Below w5.heap.size w5 ((w5.alloc (.cells #[.int .i64 0, .int .i64 0, .int .u64 0, .int .i64 0, .int .u64 0] 31)).alloc (.cells #[.int .i64 0, .int .i64 0, .int .u64 0, .int .i64 0, .int .u64 0] 31)) := ((Below.refl w5.heap.size w5).alloc (Nat.le_refl _) _).alloc (by simp) _
      have P1 : Hid (IsB ((w5.alloc (.cells #[.int .i64 0, .int .i64 0, .int .u64 0, .int .i64 0, .int .u64 0] 31)).alloc (.cells #[.int .i64 0, .int .i64 0, .int .u64 0, .int .i64 0, .int .u64 0] 31)) w5.heap.size zr.cells 31) := (IsB.new w5 #[.int .i64 0, .int .i64 0, .int .u64 0, .int .i64 0, .int .u64 0] 31).below (gal1 _ (.cells #[.int .i64 0, .int .i64 0, .int .u64 0, .int .i64 0, .int .u64 0] 31))
      have P2 : Hid (IsB ((w5.alloc (.cells #[.int .i64 0, .int .i64 0, .int .u64 0, .int .i64 0, .int .u64 0] 31)).alloc (.cells #[.int .i64 0, .int .i64 0, .int .u64 0, .int .i64 0, .int .u64 0] 31)) (w5.heap.size + 1) zr.cells 31) := by
        have h7 := IsB.new (w5.alloc (.cells #[.int .i64 0, .int .i64 0, .int .u64 0, .int .i64 0, .int .u64 0] 31)) #[.int .i64 0, .int .i64 0, .int .u64 0, .int .i64 0, .int .u64 0] 31
        rw [World.size_alloc] at h7
        exact h7
      have hHN : H + 1 + 1 < w5.heap.size := C.out.lt
      replace A := hide (A.out.below b5)
      replace C := hide (C.out.below b5)
      replace B := hide (B.out.trans (b5.mono (Nat.le_trans (Nat.le_of_eq HH.out.symm) B.out.size)))
      clear b5 Q
      obtain ⟨v1, hs1, P1b, k1⟩ := st_ref P1.out a
      have HS1 := hide hs1
      obtain ⟨v2, hs2, P2b, k2⟩ := st_ref (P2.out.kp k1 (by simp)) b
      have HS2 := hide hs2
      have Q1 := hide (P1b.kp k2 (by simp))
      have Q2 := hide P2b
      replace A := hide ((A.out.kp k1 (by simp; omega)).kp k2 (by simp; omega))
      replace C := hide ((C.out.kp k1 (by simp; omega)).kp k2 (by simp; omega))
      replace B := hide ((B.out.trans (k1.to_below (Nat.le_trans (Nat.le_of_eq HH.out.symm) B.out.size) (by simp; omega))).trans (k2.to_below (Nat.le_trans (Nat.le_trans (Nat.le_of_eq HH.out.symm) B.out.size) k1.size) (by simp; omega)))
      clear hs1 hs2 P1b P2b k1 k2 P1 P2
      cases ok with
      | false =>
        have HF := hide (docB_no HG.out HV.out HBS.out)
        go_wp2_with (first | (focus ((with_reducible refine wpList_store_w ?_ 31 (.tmp 11) (.tmp 38) ?_ ?_ ?_ HS1.out ?_); rotate_left; rfl; rfl; rfl; rotate_left; rfl)) | (focus ((with_reducible refine wpList_store_w ?_ 31 (.tmp 12) (.tmp 39) ?_ ?_ ?_ HS2.out ?_); rotate_left; rfl; rfl; rfl; rotate_left; rfl)))
        generalize w5.heap.size = N at *
        replace Q1 := hide (Q1.out.below ((Below.refl _ _).drew))
        replace Q2 := hide (Q2.out.below ((Below.refl _ _).drew))
        replace A := hide (A.out.below ((Below.refl _ _).drew))
        replace C := hide (C.out.below ((Below.refl _ _).drew))
        replace B := hide (B.out.drew)
        refine regionL 5 (fun w' => IsB w' N a.cells 31 ∧ IsB w' (N + 1) b.cells 31) mixed ⟨Q1.out, Q2.out⟩ (fun hHeld => ?_)
        generalize v2.drew = WD at *
        obtain ⟨w6, hs6, A6, k6⟩ := st_ref A.out a
        have HS6 := hide hs6
        have C6 := C.out.kp k6 (by simp)
        obtain ⟨w7, hs7, C7, k7⟩ := st_ref C6 b
        have HS7 := hide hs7
        have A9 := hide (A6.kp k7 (by simp))
        have C9 := hide C7
        have B9 : Hid (Below H w w7) := (B.out.trans (k6.to_below (Nat.le_trans (Nat.le_of_eq HH.out.symm) B.out.size) (by simp))).trans (k7.to_below (Nat.le_trans (Nat.le_trans (Nat.le_of_eq HH.out.symm) B.out.size) k6.size) (by simp; omega))
        have Q3 := hide (Q1.out.kp k6 (by simp; omega))
        have Q4 := hide (Q2.out.kp k6 (by simp; omega))
        have Q5 := hide (Q3.out.kp k7 (by simp; omega))
        have Q6 := hide (Q4.out.kp k7 (by simp; omega))
        clear hs6 hs7 A6 C6 C7 k6 k7
        refine pickL (v := .agg #[.int .i64 a.id, .int .i64 a.rk, .int .u64 a.kn, .int .i64 a.ln, .int .u64 a.bt]) 0 (some 43) rfl rfl (by kernel_rfl) (by kernel_rfl) (by kernel_rfl) (by decide) (by kernel_rfl) (by kernel_rfl) (fun _ _ _ h => h) (by rfl) ?_ (by assumption) ?_
        · intro w' hSw
          obtain ⟨q0, q1⟩ := hSw
          exact exec_load rfl rfl (load_ref q0 rfl)
        try simp only [Act.put, List.setIfInBounds_toArray, List.set_cons_zero, List.set_cons_succ]
        refine pickL (v := .agg #[.int .i64 b.id, .int .i64 b.rk, .int .u64 b.kn, .int .i64 b.ln, .int .u64 b.bt]) 1 (some 44) rfl rfl (by kernel_rfl) (by kernel_rfl) (by kernel_rfl) (by decide) (by kernel_rfl) (by kernel_rfl) (fun _ _ _ h => h) (by rfl) ?_ (by assumption) ?_
        · intro w' hSw
          obtain ⟨q0, q1⟩ := hSw
          exact exec_load rfl rfl (load_ref q1 rfl)
        try simp only [Act.put, List.setIfInBounds_toArray, List.set_cons_zero, List.set_cons_succ]
        refine oneL (i := 2) (by kernel_rfl) rfl (fun K hK => ?_)
        refine step_store_w rfl 31 (.tmp 8) (.tmp 43) rfl rfl rfl HS6.out ?_
        refine hK.out _ _ ?_ ?_
        · exact ⟨Q3.out, Q4.out⟩
        clear hK K
        try simp only [Act.put, List.setIfInBounds_toArray]
        clear hHeld
        have hHeld : (fun w' => IsB w' N a.cells 31 ∧ IsB w' (N + 1) b.cells 31) w6 := ⟨Q3.out, Q4.out⟩
        refine oneL (i := 3) (by kernel_rfl) rfl (fun K hK => ?_)
        refine step_store_w rfl 31 (.tmp 9) (.tmp 44) rfl rfl rfl HS7.out ?_
        refine hK.out _ _ ?_ ?_
        · exact ⟨Q5.out, Q6.out⟩
        clear hK K
        try simp only [Act.put]
        clear hHeld
        have hHeld : (fun w' => IsB w' N a.cells 31 ∧ IsB w' (N + 1) b.cells 31) w7 := ⟨Q5.out, Q6.out⟩
        refine pickA (v := ?_) 4 (some 10) rfl rfl (by kernel_rfl) (by kernel_rfl) (by kernel_rfl) (by decide) (fun _ _ _ h => h) (by rfl) ?_ (by assumption) ?_
        rotate_left
        · intro w'
          go_simp
          try with_reducible rfl
        try simp only [Act.put]
        refine doneL (by kernel_rfl) ?_ _
        clear hHeld
        go_wp2
        refine ret_rrt (p := 8) (q := 9) (u := 10) Tryd.results7 rfl rfl rfl rfl rfl A9.out C9.out ?_
        exact ⟨by rw [HF.out]; rfl, HH.out.symm ▸ B9.out⟩
      | true =>
        have HF := hide (docB_yes HG.out HV.out HBS.out)
        go_wp2_with (first | (focus ((with_reducible refine wpList_store_w ?_ 31 (.tmp 11) (.tmp 38) ?_ ?_ ?_ HS1.out ?_); rotate_left; rfl; rfl; rfl; rotate_left; rfl)) | (focus ((with_reducible refine wpList_store_w ?_ 31 (.tmp 12) (.tmp 39) ?_ ?_ ?_ HS2.out ?_); rotate_left; rfl; rfl; rfl; rotate_left; rfl)))
        generalize w5.heap.size = N at *
        replace Q1 := hide (Q1.out.below ((Below.refl _ _).drew))
        replace Q2 := hide (Q2.out.below ((Below.refl _ _).drew))
        replace A := hide (A.out.below ((Below.refl _ _).drew))
        replace C := hide (C.out.below ((Below.refl _ _).drew))
        replace B := hide (B.out.drew)
        refine regionL 5 (fun w' => IsB w' N a.cells 31 ∧ IsB w' (N + 1) b.cells 31) mixed ⟨Q1.out, Q2.out⟩ (fun hHeld => ?_)
        generalize v2.drew = WD at *
        obtain ⟨w6, hs6, A6, k6⟩ := st_ref A.out a
        have HS6 := hide hs6
        have C6 := C.out.kp k6 (by simp)
        obtain ⟨w7, hs7, C7, k7⟩ := st_ref C6 b
        have HS7 := hide hs7
        have A9 := hide (A6.kp k7 (by simp))
        have C9 := hide C7
        have B9 : Hid (Below H w w7) := (B.out.trans (k6.to_below (Nat.le_trans (Nat.le_of_eq HH.out.symm) B.out.size) (by simp))).trans (k7.to_below (Nat.le_trans (Nat.le_trans (Nat.le_of_eq HH.out.symm) B.out.size) k6.size) (by simp; omega))
        have Q3 := hide (Q1.out.kp k6 (by simp; omega))
        have Q4 := hide (Q2.out.kp k6 (by simp; omega))
        have Q5 := hide (Q3.out.kp k7 (by simp; omega))
        have Q6 := hide (Q4.out.kp k7 (by simp; omega))
        clear hs6 hs7 A6 C6 C7 k6 k7
        refine pickL (v := .agg #[.int .i64 a.id, .int .i64 a.rk, .int .u64 a.kn, .int .i64 a.ln, .int .u64 a.bt]) 0 (some 45) rfl rfl (by kernel_rfl) (by kernel_rfl) (by kernel_rfl) (by decide) (by kernel_rfl) (by kernel_rfl) (fun _ _ _ h => h) (by rfl) ?_ (by assumption) ?_
        · intro w' hSw
          obtain ⟨q0, q1⟩ := hSw
          exact exec_load rfl rfl (load_ref q0 rfl)
        try simp only [Act.put, List.setIfInBounds_toArray, List.set_cons_zero, List.set_cons_succ]
        refine pickL (v := .agg #[.int .i64 b.id, .int .i64 b.rk, .int .u64 b.kn, .int .i64 b.ln, .int .u64 b.bt]) 1 (some 46) rfl rfl (by kernel_rfl) (by kernel_rfl) (by kernel_rfl) (by decide) (by kernel_rfl) (by kernel_rfl) (fun _ _ _ h => h) (by rfl) ?_ (by assumption) ?_
        · intro w' hSw
          obtain ⟨q0, q1⟩ := hSw
          exact exec_load rfl rfl (load_ref q1 rfl)
        try simp only [Act.put, List.setIfInBounds_toArray, List.set_cons_zero, List.set_cons_succ]
        refine oneL (i := 2) (by kernel_rfl) rfl (fun K hK => ?_)
        refine step_store_w rfl 31 (.tmp 8) (.tmp 45) rfl rfl rfl HS6.out ?_
        refine hK.out _ _ ?_ ?_
        · exact ⟨Q3.out, Q4.out⟩
        clear hK K
        try simp only [Act.put, List.setIfInBounds_toArray]
        clear hHeld
        have hHeld : (fun w' => IsB w' N a.cells 31 ∧ IsB w' (N + 1) b.cells 31) w6 := ⟨Q3.out, Q4.out⟩
        refine oneL (i := 3) (by kernel_rfl) rfl (fun K hK => ?_)
        refine step_store_w rfl 31 (.tmp 9) (.tmp 46) rfl rfl rfl HS7.out ?_
        refine hK.out _ _ ?_ ?_
        · exact ⟨Q5.out, Q6.out⟩
        clear hK K
        try simp only [Act.put]
        clear hHeld
        have hHeld : (fun w' => IsB w' N a.cells 31 ∧ IsB w' (N + 1) b.cells 31) w7 := ⟨Q5.out, Q6.out⟩
        refine pickA (v := ?_) 4 (some 10) rfl rfl (by kernel_rfl) (by kernel_rfl) (by kernel_rfl) (by decide) (fun _ _ _ h => h) (by rfl) ?_ (by assumption) ?_
        rotate_left
        · intro w'
          go_simp
          try with_reducible rfl
        try simp only [Act.put]
        refine doneL (by kernel_rfl) ?_ _
        clear hHeld
        go_wp2
        refine ret_rrt (p := 8) (q := 9) (u := 10) Tryd.results7 rfl rfl rfl rfl rfl A9.out C9.out ?_
        exact ⟨by rw [HF.out]; rfl, HH.out.symm ▸ B9.out⟩

end Go.Proofs.YtpngegdkcgoajaaDoor
