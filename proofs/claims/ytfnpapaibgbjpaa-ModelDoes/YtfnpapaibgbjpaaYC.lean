/- The law ModelApart. -/
import Derived.Test.YtfnpapaibgbjpaaYB
namespace Go.Proofs.Ytfnpapaibgbjpaa
open Go.RowKit Go.Maps

theorem rss_get : ∀ (l : List Rs) (i : Nat) (hi : i < l.length) (j : Nat) (u : Value), (l[i].cells.toList)[j]? = some u → (rss l)[i * 15 + j]? = some u
  | r :: l, 0, _, j, u, hu => by
    show (r.cells.toList ++ rss l)[0 * 15 + j]? = some u
    replace hu : (r.cells.toList)[j]? = some u := hu
    have hj := (List.getElem?_eq_some_iff.1 hu).1
    rw [Nat.zero_mul, Nat.zero_add, List.getElem?_append_left hj]
    exact hu
  | r :: l, i + 1, hi, j, u, hu => by
    show (r.cells.toList ++ rss l)[(i + 1) * 15 + j]? = some u
    have hl : r.cells.toList.length = 15 := rfl
    rw [List.getElem?_append_right (by rw [hl]; omega), hl, show (i + 1) * 15 + j - 15 = i * 15 + j by omega]
    exact rss_get l i (by simpa using hi) j u (by simpa using hu)
theorem RRow.ld {w : World} {base g n cap : Nat} {rs : List Rs} (h : RRow w base (.slice (some ⟨g, 0, none⟩) n cap) rs) (i : Nat) (hi : i < rs.length) : ∀ w', Below w.heap.size w w' → (Instr.loadAt 46 (.pointer (some ⟨g, i * 15, none⟩))).run Try.prog w' = .ok (.agg rs[i].cells) w' := fun w' hb => by
  have hR := (h.below hb).row
  obtain ⟨_, _, e, -, -⟩ := hR.shape
  injection e with _ e _
  subst e
  have h1 := Go.run_loadVar_mid (P := Try.prog) w' g (i * 15) 46 rs[i].cells.toList _ (fun j u hu => by
    have h2 := rss_get rs i hi j u hu
    have h3 := (List.getElem?_eq_some_iff.1 h2).1
    rw [rss_len] at h3
    rw [hR.cellAt _ h3]
    exact h2) Try.underlying46 rfl (by rw [Array.length_toList, rs_size]; exact res_info)
  simp only [Instr.loadAt, Instr.sureAddr, Sem.run_bind, Sem.run_pure, Result.andThen_ok, h1]
theorem sameRs (x y : Rs) (hv : x.val = y.val) (hl : x.il.length ≤ 100000) (base base2 : Nat) (w : World) (hx : RsOk w base x) (hy : RsOk w base2 y) : Calls Try.prog 23 #[.agg x.cells, .agg y.cells] w fun e w' => e = .returned (.bool true) ∧ Below w.heap.size w w' := by
  obtain ⟨e, k, va, vc, vb, ia, ic, il, f⟩ := x
  obtain ⟨e2, k2, va2, vc2, vb2, ia2, ic2, il2, f2⟩ := y
  simp only [Rs.val, Prod.mk.injEq] at hv
  obtain ⟨rfl, rfl, rfl, hil, rfl⟩ := hv
  exact sameR_any e k f va va2 vc vc2 vb ia ia2 ic ic2 il il2 w hx.by_.rd hx.vn hy.by_.rd hy.vn hx.it.sl hy.it.sl hil hl
theorem il_nil {l : List It} {c : Ca} (h : wrB c.kd = true) {r : Rs} (hr : r.val = c.told l) : r.il.length ≤ 100000 := by
  have hk : c.kd = 1 ∨ c.kd = 2 := by
    unfold wrB at h
    simpa using h
  have h4 : r.il.map It.val = [] := by
    have h2 : r.val.2.2.2.1 = [] := by
      rw [hr]
      unfold Ca.told tl
      rcases hk with hk | hk <;> rw [hk] <;> cases th l c.key <;> simp
    exact h2
  have := congrArg List.length h4
  simp at this
  rw [this]
  simp

set_option maxHeartbeats 1600000 in
set_option maxRecDepth 100000 in
theorem apart_any (v : Value) (l0 : List It) (ad ak ah : Int) (aa : Option Addr) (ac : Nat) (ab : List UInt8) (bd bk bh : Int) (ba : Option Addr) (bc : Nat) (bb : List UInt8) (w : World) (h : Sl w v l0) (hra : RdC w (⟨ad, ak, ah, aa, ac, ab⟩ : Ca)) (hrb : RdC w (⟨bd, bk, bh, ba, bc, bb⟩ : Ca)) :
    Calls Try.prog 8 #[v, .agg #[.int .i64 ad, .int .u64 ak, .int .u64 ah, .slice aa ab.length ac], .agg #[.int .i64 bd, .int .u64 bk, .int .u64 bh, .slice ba bb.length bc]] w fun e w' => e = .returned (.bool true) ∧ Below w.heap.size w w' := by
  have mixed : Try.prog.follows .mixedOrders = true := by kernel_rfl
  obtain ⟨an, han⟩ : ∃ z, ab.length = z := ⟨_, rfl⟩
  obtain ⟨bn, hbn⟩ : ∃ z, bb.length = z := ⟨_, rfl⟩
  rw [han, hbn]
  replace han := hide han
  replace hbn := hide hbn
  have b2 := ((Below.refl w.heap.size w).alloc (Nat.le_refl _) (.cells #[.int .i64 ad, .int .u64 ak, .int .u64 ah, .slice aa an ac] 27)).alloc (by simp) (.cells #[.int .i64 bd, .int .u64 bk, .int .u64 bh, .slice ba bn bc] 27)
  have Va : Hid (IsB ((w.alloc (.cells #[.int .i64 ad, .int .u64 ak, .int .u64 ah, .slice aa an ac] 27)).alloc (.cells #[.int .i64 bd, .int .u64 bk, .int .u64 bh, .slice ba bn bc] 27)) w.heap.size #[.int .i64 ad, .int .u64 ak, .int .u64 ah, .slice aa an ac] 27) := (IsB.new w #[.int .i64 ad, .int .u64 ak, .int .u64 ah, .slice aa an ac] _).below ((Below.refl _ _).alloc (Nat.le_refl _) _)
  have Vb : Hid (IsB ((w.alloc (.cells #[.int .i64 ad, .int .u64 ak, .int .u64 ah, .slice aa an ac] 27)).alloc (.cells #[.int .i64 bd, .int .u64 bk, .int .u64 bh, .slice ba bn bc] 27)) (w.heap.size + 1) #[.int .i64 bd, .int .u64 bk, .int .u64 bh, .slice ba bn bc] 27) := by
    have := IsB.new (w.alloc (.cells #[.int .i64 ad, .int .u64 ak, .int .u64 ah, .slice aa an ac] 27)) #[.int .i64 bd, .int .u64 bk, .int .u64 bh, .slice ba bn bc] 27
    rwa [World.size_alloc] at this
  have SL := hide (h.below b2)
  have RA := hide (hra.below b2)
  have RB := hide (hrb.below b2)
  have B := hide b2
  clear h hra hrb b2
  go_enter Try.func8, Try.ntmps8
  go_wp2_with fail
  generalize ((w.alloc (.cells #[.int .i64 ad, .int .u64 ak, .int .u64 ah, .slice aa an ac] 27)).alloc (.cells #[.int .i64 bd, .int .u64 bk, .int .u64 bh, .slice ba bn bc] 27)) = W2 at *
  generalize hH : w.heap.size = H at Va Vb ⊢
  replace hH := hide hH
  refine (awake_any W2).mono ?_
  rintro e w2 ⟨rfl, hb⟩
  replace Va := hide (Va.out.below hb)
  replace Vb := hide (Vb.out.below hb)
  replace SL := hide (SL.out.below hb)
  replace RA := hide (RA.out.below hb)
  replace RB := hide (RB.out.below hb)
  replace B := hide (B.out.trans (hb.mono B.out.size))
  clear hb
  go_wp2_with fail
  refine (few_any v l0 w2 SL.out).mono ?_
  intro e w3 hE
  obtain ⟨v1, rfl, hS, hw3⟩ := hE
  subst hw3
  replace SL := hide hS
  clear hS
  have hl : (l0.take 200).length ≤ 200 := by rw [List.length_take]; omega
  generalize l0.take 200 = l at *
  have LA := hide (load_call Va.out rfl)
  have LB := hide (load_call Vb.out rfl)
  go_wp2_with (first | ((with_reducible refine wpList_load_w ?hw 27 (.tmp 4) ?ho ?hx LA.out ?h); (case ho => rfl); (case hw => rfl); (case hx => rfl)) | ((with_reducible refine wpList_load_w ?hw 27 (.tmp 5) ?ho ?hx LB.out ?h); (case ho => rfl); (case hw => rfl); (case hx => rfl)))
  clear LA LB
  refine (rwrites_any ad ak ah aa an ac w3).mono ?_
  rintro e w4 ⟨rfl, hb⟩
  replace Va := hide (Va.out.below hb)
  replace Vb := hide (Vb.out.below hb)
  replace SL := hide (SL.out.below hb)
  replace RA := hide (RA.out.below hb)
  replace RB := hide (RB.out.below hb)
  replace B := hide (B.out.trans (hb.mono B.out.size))
  clear hb
  cases hwa : wrB ad with
  | false =>
    go_wp2
    go_ret
    exact ⟨rfl, B.out⟩
  | true =>
    have LA := hide (load_call Va.out rfl)
    have LB := hide (load_call Vb.out rfl)
    go_wp2_with (first | ((with_reducible refine wpList_load_w ?hw 27 (.tmp 4) ?ho ?hx LA.out ?h); (case ho => rfl); (case hw => rfl); (case hx => rfl)) | ((with_reducible refine wpList_load_w ?hw 27 (.tmp 5) ?ho ?hx LB.out ?h); (case ho => rfl); (case hw => rfl); (case hx => rfl)))
    clear LA LB
    refine (rwrites_any bd bk bh ba bn bc w4).mono ?_
    rintro e w5 ⟨rfl, hb⟩
    replace Va := hide (Va.out.below hb)
    replace Vb := hide (Vb.out.below hb)
    replace SL := hide (SL.out.below hb)
    replace RA := hide (RA.out.below hb)
    replace RB := hide (RB.out.below hb)
    replace B := hide (B.out.trans (hb.mono B.out.size))
    clear hb
    cases hwb : wrB bd with
    | false =>
      go_wp2
      go_ret
      exact ⟨rfl, B.out⟩
    | true =>
      have y0 := Va.out.cell 0
      have y1 := Va.out.cell 1
      have y2 := Va.out.cell 2
      have y3 := Va.out.cell 3
      simp at y0 y1 y2 y3
      have z0 := Vb.out.cell 0
      have z1 := Vb.out.cell 1
      have z2 := Vb.out.cell 2
      have z3 := Vb.out.cell 3
      simp at z0 z1 z2 z3
      by_cases hk : ak = bk
      · subst hk
        go_wp2
        go_ret
        exact ⟨rfl, B.out⟩
      have hkb : (ak == bk) = false := by simpa using hk
      have LA := hide (load_call Va.out rfl)
      have LB := hide (load_call Vb.out rfl)
      have b1 := (Below.refl w5.heap.size w5).alloc (Nat.le_refl _) (.cells #[.int .i64 ad, .int .u64 ak, .int .u64 ah, .slice aa an ac, .int .i64 bd, .int .u64 bk, .int .u64 bh, .slice ba bn bc] 27)
      have N1 := IsB.new w5 #[.int .i64 ad, .int .u64 ak, .int .u64 ah, .slice aa an ac, .int .i64 bd, .int .u64 bk, .int .u64 bh, .slice ba bn bc] 27
      have HCS1 : Cs (w5.alloc (.cells #[.int .i64 ad, .int .u64 ak, .int .u64 ah, .slice aa an ac, .int .i64 bd, .int .u64 bk, .int .u64 bh, .slice ba bn bc] 27)) (.slice (some ⟨w5.heap.size, 0, none⟩) 2 2) [(⟨ad, ak, ah, aa, ac, ab⟩ : Ca), (⟨bd, bk, bh, ba, bc, bb⟩ : Ca)] := by
        refine ⟨⟨_, _, rfl, Nat.le_refl _, by unfold maxLen; omega, fun _ _ => ⟨_, _, rfl, fun j u hu => ?_⟩⟩, fun c hc => ?_⟩
        · rw [Nat.zero_add, N1.cell j]
          simp only [cas, han.out, hbn.out] at hu
          simpa using hu
        · simp only [List.mem_cons, List.not_mem_nil, or_false] at hc
          rcases hc with rfl | rfl
          · exact RA.out.below b1
          · exact RB.out.below b1
      have RN1 := hide (run_any v1 _ l (by omega) _ (by simp) _ (SL.out.below b1) HCS1)
      replace Va := hide (Va.out.below b1)
      replace Vb := hide (Vb.out.below b1)
      replace SL := hide (SL.out.below b1)
      replace RA := hide (RA.out.below b1)
      replace RB := hide (RB.out.below b1)
      replace B := hide (B.out.trans (b1.mono B.out.size))
      clear b1 N1 HCS1
      go_wp2_with (first | ((with_reducible refine wpList_load_w ?hw 27 (.tmp 4) ?ho ?hx LA.out ?h); (case ho => rfl); (case hw => rfl); (case hx => rfl)) | ((with_reducible refine wpList_load_w ?hw 27 (.tmp 5) ?ho ?hx LB.out ?h); (case ho => rfl); (case hw => rfl); (case hx => rfl)))
      generalize w5.alloc (.cells #[.int .i64 ad, .int .u64 ak, .int .u64 ah, .slice aa an ac, .int .i64 bd, .int .u64 bk, .int .u64 bh, .slice ba bn bc] 27) = W6 at *
      refine RN1.out.mono ?_
      rintro e w7 ⟨vm1, m1, vr1, rs1, E1, rfl, hO1, hR1, he1, hb⟩
      replace Va := hide (Va.out.below hb)
      replace Vb := hide (Vb.out.below hb)
      replace SL := hide (SL.out.below hb)
      replace RA := hide (RA.out.below hb)
      replace RB := hide (RB.out.below hb)
      replace B := hide (B.out.trans (hb.mono B.out.size))
      have O1 := hide hO1.sl
      have Q1 := hide hR1
      have HE1 := hide he1
      clear hO1 hR1 he1 hb RN1 LA LB y0 y1 y2 y3 z0 z1 z2 z3
      have y0 := Va.out.cell 0
      have y1 := Va.out.cell 1
      have y2 := Va.out.cell 2
      have y3 := Va.out.cell 3
      simp at y0 y1 y2 y3
      have z0 := Vb.out.cell 0
      have z1 := Vb.out.cell 1
      have z2 := Vb.out.cell 2
      have z3 := Vb.out.cell 3
      simp at z0 z1 z2 z3
      have LA := hide (load_call Va.out rfl)
      have LB := hide (load_call Vb.out rfl)
      have b2 := (Below.refl w7.heap.size w7).alloc (Nat.le_refl _) (.cells #[.int .i64 bd, .int .u64 bk, .int .u64 bh, .slice ba bn bc, .int .i64 ad, .int .u64 ak, .int .u64 ah, .slice aa an ac] 27)
      have N2 := IsB.new w7 #[.int .i64 bd, .int .u64 bk, .int .u64 bh, .slice ba bn bc, .int .i64 ad, .int .u64 ak, .int .u64 ah, .slice aa an ac] 27
      have HCS2 : Cs (w7.alloc (.cells #[.int .i64 bd, .int .u64 bk, .int .u64 bh, .slice ba bn bc, .int .i64 ad, .int .u64 ak, .int .u64 ah, .slice aa an ac] 27)) (.slice (some ⟨w7.heap.size, 0, none⟩) 2 2) [(⟨bd, bk, bh, ba, bc, bb⟩ : Ca), (⟨ad, ak, ah, aa, ac, ab⟩ : Ca)] := by
        refine ⟨⟨_, _, rfl, Nat.le_refl _, by unfold maxLen; omega, fun _ _ => ⟨_, _, rfl, fun j u hu => ?_⟩⟩, fun c hc => ?_⟩
        · rw [Nat.zero_add, N2.cell j]
          simp only [cas, han.out, hbn.out] at hu
          simpa using hu
        · simp only [List.mem_cons, List.not_mem_nil, or_false] at hc
          rcases hc with rfl | rfl
          · exact RB.out.below b2
          · exact RA.out.below b2
      have RN2 := hide (run_any v1 _ l (by omega) _ (by simp) _ (SL.out.below b2) HCS2)
      replace Va := hide (Va.out.below b2)
      replace Vb := hide (Vb.out.below b2)
      replace SL := hide (SL.out.below b2)
      replace RA := hide (RA.out.below b2)
      replace RB := hide (RB.out.below b2)
      replace B := hide (B.out.trans (b2.mono B.out.size))
      replace O1 := hide (O1.out.below b2)
      replace Q1 := hide (Q1.out.below b2)
      clear b2 N2 HCS2
      go_wp2_with (first | ((with_reducible refine wpList_load_w ?hw 27 (.tmp 4) ?ho ?hx LA.out ?h); (case ho => rfl); (case hw => rfl); (case hx => rfl)) | ((with_reducible refine wpList_load_w ?hw 27 (.tmp 5) ?ho ?hx LB.out ?h); (case ho => rfl); (case hw => rfl); (case hx => rfl)))
      generalize w7.alloc (.cells #[.int .i64 bd, .int .u64 bk, .int .u64 bh, .slice ba bn bc, .int .i64 ad, .int .u64 ak, .int .u64 ah, .slice aa an ac] 27) = W8 at *
      refine RN2.out.mono ?_
      rintro e w9 ⟨vm2, m2, vr2, rs2, E2, rfl, hO2, hR2, he2, hb⟩
      replace Va := hide (Va.out.below hb)
      replace Vb := hide (Vb.out.below hb)
      replace SL := hide (SL.out.below hb)
      replace RA := hide (RA.out.below hb)
      replace RB := hide (RB.out.below hb)
      replace B := hide (B.out.trans (hb.mono B.out.size))
      replace O1 := hide (O1.out.below hb)
      replace Q1 := hide (Q1.out.below hb)
      have O2 := hide hO2.sl
      have Q2 := hide hR2
      have HE2 := hide he2
      clear hO2 hR2 he2 hb RN2 LA LB y0 y1 y2 y3 z0 z1 z2 z3
      by_cases hall : okM l ∧ Ca.ok (⟨ad, ak, ah, aa, ac, ab⟩ : Ca) = true ∧ Ca.ok (⟨bd, bk, bh, ba, bc, bb⟩ : Ca) = true
      rotate_left
      · have HE : Hid (E1 ≠ 0 ∧ E2 ≠ 0) := by
          have h1 := HE1.out
          have h2 := HE2.out
          by_cases ho : okM l
          · rw [runE_yes ho] at h1 h2
            cases hA : Ca.ok (⟨ad, ak, ah, aa, ac, ab⟩ : Ca) with
            | false =>
              cases hB : Ca.ok (⟨bd, bk, bh, ba, bc, bb⟩ : Ca) with
              | false =>
                simp [runs, hA, hB] at h1 h2
                exact ⟨by rw [h1.2.2]; decide, by rw [h2.2.2]; decide⟩
              | true =>
                simp [runs, hA, hB] at h1 h2
                exact ⟨by rw [h1.2.2]; decide, by rw [h2.2.2]; decide⟩
            | true =>
              cases hB : Ca.ok (⟨bd, bk, bh, ba, bc, bb⟩ : Ca) with
              | false =>
                simp [runs, hA, hB] at h1 h2
                exact ⟨by rw [h1.2.2]; decide, by rw [h2.2.2]; decide⟩
              | true => exact absurd ⟨ho, hA, hB⟩ hall
          · rw [runE_no ho] at h1 h2
            simp at h1 h2
            exact ⟨by rw [h1.2.2]; decide, by rw [h2.2.2]; decide⟩
        have HC : Hid (¬(ckE l = 0 ∧ clE ad ah an = 0 ∧ clE bd bh bn = 0)) := fun hh => by
          apply hall
          refine ⟨?_, ?_, ?_⟩
          · apply Classical.byContradiction
            intro hn
            rw [ckE_no hn] at hh
            exact absurd hh.1 (by decide)
          · cases hq : Ca.ok (⟨ad, ak, ah, aa, ac, ab⟩ : Ca) with
            | true => rfl
            | false =>
              have hq2 : okC ad ah ab.length = false := hq
              rw [han.out] at hq2
              rw [clE_no hq2] at hh
              exact absurd hh.2.1 (by decide)
          · cases hq : Ca.ok (⟨bd, bk, bh, ba, bc, bb⟩ : Ca) with
            | true => rfl
            | false =>
              have hq2 : okC bd bh bb.length = false := hq
              rw [hbn.out] at hq2
              rw [clE_no hq2] at hh
              exact absurd hh.2.2 (by decide)
        have hE1 : ¬E1 = 0 := HE.out.1
        have hE1b : (E1 == 0) = false := by simpa using hE1
        clear HE HE1 HE2 hall
        go_wp2_with fail
        refine (rcheck_any v1 l (by omega) w9 SL.out).mono ?_
        rintro e w10 ⟨rfl, hb⟩
        replace Va := hide (Va.out.below hb)
        replace Vb := hide (Vb.out.below hb)
        replace B := hide (B.out.trans (hb.mono B.out.size))
        clear hb
        by_cases hck : ckE l = 0
        rotate_left
        · have hckb : (ckE l == 0) = false := by simpa using hck
          generalize ckE l = CE at *
          go_wp2
          go_ret
          exact ⟨rfl, B.out⟩
        rw [hck]
        have LA := hide (load_call Va.out rfl)
        have LB := hide (load_call Vb.out rfl)
        go_wp2_with (first | ((with_reducible refine wpList_load_w ?hw 27 (.tmp 4) ?ho ?hx LA.out ?h); (case ho => rfl); (case hw => rfl); (case hx => rfl)) | ((with_reducible refine wpList_load_w ?hw 27 (.tmp 5) ?ho ?hx LB.out ?h); (case ho => rfl); (case hw => rfl); (case hx => rfl)))
        clear LA LB
        refine (rcall_any ad ak ah aa an ac w10).mono ?_
        rintro e w11 ⟨rfl, hb⟩
        replace Va := hide (Va.out.below hb)
        replace Vb := hide (Vb.out.below hb)
        replace B := hide (B.out.trans (hb.mono B.out.size))
        clear hb
        by_cases hcl : clE ad ah an = 0
        rotate_left
        · have hclb : (clE ad ah an == 0) = false := by simpa using hcl
          generalize clE ad ah an = CE at *
          go_wp2
          go_ret
          exact ⟨rfl, B.out⟩
        have hcl2 : ¬clE bd bh bn = 0 := fun hh => HC.out ⟨hck, hcl, hh⟩
        rw [hcl]
        have LA := hide (load_call Va.out rfl)
        have LB := hide (load_call Vb.out rfl)
        go_wp2_with (first | ((with_reducible refine wpList_load_w ?hw 27 (.tmp 4) ?ho ?hx LA.out ?h); (case ho => rfl); (case hw => rfl); (case hx => rfl)) | ((with_reducible refine wpList_load_w ?hw 27 (.tmp 5) ?ho ?hx LB.out ?h); (case ho => rfl); (case hw => rfl); (case hx => rfl)))
        clear LA LB
        refine (rcall_any bd bk bh ba bn bc w11).mono ?_
        rintro e w12 ⟨rfl, hb⟩
        replace B := hide (B.out.trans (hb.mono B.out.size))
        clear hb
        have hclb : (clE bd bh bn == 0) = false := by simpa using hcl2
        have hclc : (clE bd bh bn != 0) = true := by simpa using hcl2
        clear HC hck hcl hcl2
        generalize clE bd bh bn = CE at *
        go_wp2
        go_ret
        exact ⟨rfl, B.out⟩
      obtain ⟨ho, hA, hB⟩ := hall
      have HD : Hid (m1.map It.val = m2.map It.val ∧ rs1.map Rs.val = [Ca.told (⟨ad, ak, ah, aa, ac, ab⟩ : Ca) l, Ca.told (⟨bd, bk, bh, ba, bc, bb⟩ : Ca) l] ∧ rs2.map Rs.val = [Ca.told (⟨bd, bk, bh, ba, bc, bb⟩ : Ca) l, Ca.told (⟨ad, ak, ah, aa, ac, ab⟩ : Ca) l] ∧ E1 = 0 ∧ E2 = 0) := by
        have h1 := HE1.out
        have h2 := HE2.out
        rw [runE_yes ho] at h1 h2
        simp only [runs, hA, hB, if_true, Prod.mk.injEq] at h1 h2
        have hne : ak ≠ bk := hk
        have t1 : Ca.told (⟨bd, bk, bh, ba, bc, bb⟩ : Ca) (up (Ca.wrote (⟨ad, ak, ah, aa, ac, ab⟩ : Ca) l)) = Ca.told (⟨bd, bk, bh, ba, bc, bb⟩ : Ca) l := told_apart (a := (⟨ad, ak, ah, aa, ac, ab⟩ : Ca)) (b := (⟨bd, bk, bh, ba, bc, bb⟩ : Ca)) ho hA hwb hne (up_val _)
        have t2 : Ca.told (⟨ad, ak, ah, aa, ac, ab⟩ : Ca) (up (Ca.wrote (⟨bd, bk, bh, ba, bc, bb⟩ : Ca) l)) = Ca.told (⟨ad, ak, ah, aa, ac, ab⟩ : Ca) l := told_apart (a := (⟨bd, bk, bh, ba, bc, bb⟩ : Ca)) (b := (⟨ad, ak, ah, aa, ac, ab⟩ : Ca)) ho hB hwa (fun h => hne h.symm) (up_val _)
        have t3 := wrote_apart (a := (⟨ad, ak, ah, aa, ac, ab⟩ : Ca)) (b := (⟨bd, bk, bh, ba, bc, bb⟩ : Ca)) ho hA hB hwa hwb hne (up_val (Ca.wrote (⟨ad, ak, ah, aa, ac, ab⟩ : Ca) l)) (up_val (Ca.wrote (⟨bd, bk, bh, ba, bc, bb⟩ : Ca) l))
        refine ⟨?_, ?_, ?_, h1.2.2, h2.2.2⟩
        · rw [h1.1, h2.1, up_val, up_val, t3]
        · rw [h1.2.1, t1]
        · rw [h2.2.1, t2]
      obtain ⟨hmm, hr1, hr2, rfl, rfl⟩ := HD.out
      have hl1 : rs1.length = 2 := by have := congrArg List.length hr1; simpa using this
      have hl2 : rs2.length = 2 := by have := congrArg List.length hr2; simpa using this
      obtain ⟨g1, cap1, ev1, -, -, -⟩ := Q1.out.row.form (by omega)
      obtain ⟨g2, cap2, ev2, -, -, -⟩ := Q2.out.row.form (by omega)
      subst ev1 ev2
      match rs1, hl1, rs2, hl2 with
      | [x0, x1], _, [y0, y1], _ =>
      simp only [List.map_cons, List.map_nil, List.cons.injEq, and_true] at hr1 hr2
      have L0 := hide (Q1.out.ld 0 (by simp))
      have L1 := hide (Q1.out.ld 1 (by simp))
      have M0 := hide (Q2.out.ld 0 (by simp))
      have M1 := hide (Q2.out.ld 1 (by simp))
      have K0 := hide (Q1.out.ok x0 (by simp))
      have K1 := hide (Q1.out.ok x1 (by simp))
      have J0 := hide (Q2.out.ok y0 (by simp))
      have J1 := hide (Q2.out.ok y1 (by simp))
      have hv1 : Hid (x0.val = y1.val) := hr1.1.trans hr2.2.symm
      have hv2 : Hid (x1.val = y0.val) := hr1.2.trans hr2.1.symm
      have hx0 := il_nil (c := (⟨ad, ak, ah, aa, ac, ab⟩ : Ca)) hwa hr1.1
      have hx1 := il_nil (c := (⟨bd, bk, bh, ba, bc, bb⟩ : Ca)) hwb hr1.2
      have hsm : Hid (sameL m1 m2 = true) := by show _ = _; unfold sameL; rw [beq_iff_eq]; exact hmm
      have hml : m1.length ≤ 100000 := by
        have h1 := HE1.out
        rw [runE_yes ho] at h1
        simp only [runs, hA, hB, if_true, Prod.mk.injEq] at h1
        have h2 := congrArg List.length h1.1
        rw [List.length_map, up_val] at h2
        have h3 := wrote_len (⟨bd, bk, bh, ba, bc, bb⟩ : Ca) (up (Ca.wrote (⟨ad, ak, ah, aa, ac, ab⟩ : Ca) l))
        have h4 := wrote_len (⟨ad, ak, ah, aa, ac, ab⟩ : Ca) l
        have h5 : (up (Ca.wrote (⟨ad, ak, ah, aa, ac, ab⟩ : Ca) l)).length = (Ca.wrote (⟨ad, ak, ah, aa, ac, ab⟩ : Ca) l).length := by unfold up; simp
        omega
      clear HE1 HE2 HD hmm hr1 hr2 hl1 hl2 ho hA hB
      simp only [Nat.zero_mul, Nat.one_mul, List.getElem_cons_zero, List.getElem_cons_succ] at L0 L1 M0 M1
      have BW : Hid (Below w9.heap.size w9 w9) := Below.refl _ _
      simp only [List.length_cons, List.length_nil] at *
      go_wp2
      have b9 := (Below.refl w9.heap.size w9).drew
      replace O1 := hide (O1.out.below b9)
      replace O2 := hide (O2.out.below b9)
      replace K0 := hide (K0.out.below b9)
      replace K1 := hide (K1.out.below b9)
      replace J0 := hide (J0.out.below b9)
      replace J1 := hide (J1.out.below b9)
      replace B := hide (B.out.trans (b9.mono B.out.size))
      replace BW := hide (BW.out.trans (b9.mono BW.out.size))
      clear b9
      refine regionL 32 (fun w' => (Instr.loadAt 46 (.pointer (some ⟨g1, 0, none⟩))).run Try.prog w' = .ok (.agg x0.cells) w' ∧ (Instr.loadAt 46 (.pointer (some ⟨g1, 15, none⟩))).run Try.prog w' = .ok (.agg x1.cells) w' ∧ (Instr.loadAt 46 (.pointer (some ⟨g2, 0, none⟩))).run Try.prog w' = .ok (.agg y0.cells) w' ∧ (Instr.loadAt 46 (.pointer (some ⟨g2, 15, none⟩))).run Try.prog w' = .ok (.agg y1.cells) w') mixed ⟨L0.out _ BW.out, L1.out _ BW.out, M0.out _ BW.out, M1.out _ BW.out⟩ (fun hHeld => ?_)
      refine pickA (v := ?_) 0 (some 69) rfl rfl (by kernel_rfl) (by kernel_rfl) (by kernel_rfl) (by decide) (fun _ _ _ h => h) (by rfl) ?_ (by assumption) ?_
      rotate_left
      · intro w'
        go_simp
        try with_reducible rfl
      try simp only [Act.put, List.setIfInBounds_toArray, List.set_cons_zero, List.set_cons_succ]
      refine pickA (v := ?_) 1 (some 70) rfl rfl (by kernel_rfl) (by kernel_rfl) (by kernel_rfl) (by decide) (fun _ _ _ h => h) (by rfl) ?_ (by assumption) ?_
      rotate_left
      · intro w'
        go_simp
        try with_reducible rfl
      try simp only [Act.put, List.setIfInBounds_toArray, List.set_cons_zero, List.set_cons_succ]
      refine pickA (v := .bool true) 2 (some 71) rfl rfl (by kernel_rfl) (by kernel_rfl) (by kernel_rfl) (by decide) (fun _ _ _ h => h) (by rfl) ?_ (by assumption) ?_
      · intro w'
        go_simp
        all_goals simp
      try simp only [Act.put, List.setIfInBounds_toArray, List.set_cons_zero, List.set_cons_succ]
      refine pickA (v := ?_) 3 (some 72) rfl rfl (by kernel_rfl) (by kernel_rfl) (by kernel_rfl) (by decide) (fun _ _ _ h => h) (by rfl) ?_ (by assumption) ?_
      rotate_left
      · intro w'
        go_simp
        try with_reducible rfl
      try simp only [Act.put, List.setIfInBounds_toArray, List.set_cons_zero, List.set_cons_succ]
      refine pickA (v := ?_) 4 (some 73) rfl rfl (by kernel_rfl) (by kernel_rfl) (by kernel_rfl) (by decide) (fun _ _ _ h => h) (by rfl) ?_ (by assumption) ?_
      rotate_left
      · intro w'
        go_simp
        try with_reducible rfl
      try simp only [Act.put, List.setIfInBounds_toArray, List.set_cons_zero, List.set_cons_succ]
      refine pickA (v := ?_) 5 (some 74) rfl rfl (by kernel_rfl) (by kernel_rfl) (by kernel_rfl) (by decide) (fun _ _ _ h => h) (by rfl) ?_ (by assumption) ?_
      rotate_left
      · intro w'
        go_simp
        try with_reducible rfl
      try simp only [Act.put, List.setIfInBounds_toArray, List.set_cons_zero, List.set_cons_succ]
      refine pickA (v := .bool true) 6 (some 75) rfl rfl (by kernel_rfl) (by kernel_rfl) (by kernel_rfl) (by decide) (fun _ _ _ h => h) (by rfl) ?_ (by assumption) ?_
      · intro w'
        go_simp
        all_goals simp
      try simp only [Act.put, List.setIfInBounds_toArray, List.set_cons_zero, List.set_cons_succ]
      refine pickA (v := ?_) 7 (some 76) rfl rfl (by kernel_rfl) (by kernel_rfl) (by kernel_rfl) (by decide) (fun _ _ _ h => h) (by rfl) ?_ (by assumption) ?_
      rotate_left
      · intro w'
        go_simp
        try with_reducible rfl
      try simp only [Act.put, List.setIfInBounds_toArray, List.set_cons_zero, List.set_cons_succ]
      refine pickA (v := ?_) 8 (some 77) rfl rfl (by kernel_rfl) (by kernel_rfl) (by kernel_rfl) (by decide) (fun _ _ _ h => h) (by rfl) ?_ (by assumption) ?_
      rotate_left
      · intro w'
        go_simp
        try with_reducible rfl
      try simp only [Act.put, List.setIfInBounds_toArray, List.set_cons_zero, List.set_cons_succ]
      refine pickA (v := ?_) 9 (some 78) rfl rfl (by kernel_rfl) (by kernel_rfl) (by kernel_rfl) (by decide) (fun _ _ _ h => h) (by rfl) ?_ (by assumption) ?_
      rotate_left
      · intro w'
        go_simp
        try with_reducible rfl
      try simp only [Act.put, List.setIfInBounds_toArray, List.set_cons_zero, List.set_cons_succ]
      refine pickA (v := ?_) 10 (some 79) rfl rfl (by kernel_rfl) (by kernel_rfl) (by kernel_rfl) (by decide) (fun _ _ _ h => h) (by rfl) ?_ (by assumption) ?_
      rotate_left
      · intro w'
        go_simp
        try with_reducible rfl
      try simp only [Act.put, List.setIfInBounds_toArray, List.set_cons_zero, List.set_cons_succ]
      refine oneL (i := 11) (by kernel_rfl) rfl (fun K hK => ?_)
      go_simp
      refine (rsame_any vm1 vm2 m1 m2 hml _ O1.out O2.out).mono ?_; rintro e w20 ⟨rfl, hb⟩
      replace O1 := hide (O1.out.below hb)
      replace O2 := hide (O2.out.below hb)
      replace K0 := hide (K0.out.below hb)
      replace K1 := hide (K1.out.below hb)
      replace J0 := hide (J0.out.below hb)
      replace J1 := hide (J1.out.below hb)
      replace B := hide (B.out.trans (hb.mono B.out.size))
      replace BW := hide (BW.out.trans (hb.mono BW.out.size))
      clear hb
      rw [hsm.out]
      refine hK.out _ _ ?_ ?_
      · exact ⟨L0.out _ BW.out, L1.out _ BW.out, M0.out _ BW.out, M1.out _ BW.out⟩
      clear hK K
      try simp only [Act.put, List.setIfInBounds_toArray, List.set_cons_zero, List.set_cons_succ]
      clear hHeld
      have hHeld : (fun w' => (Instr.loadAt 46 (.pointer (some ⟨g1, 0, none⟩))).run Try.prog w' = .ok (.agg x0.cells) w' ∧ (Instr.loadAt 46 (.pointer (some ⟨g1, 15, none⟩))).run Try.prog w' = .ok (.agg x1.cells) w' ∧ (Instr.loadAt 46 (.pointer (some ⟨g2, 0, none⟩))).run Try.prog w' = .ok (.agg y0.cells) w' ∧ (Instr.loadAt 46 (.pointer (some ⟨g2, 15, none⟩))).run Try.prog w' = .ok (.agg y1.cells) w') w20 := ⟨L0.out _ BW.out, L1.out _ BW.out, M0.out _ BW.out, M1.out _ BW.out⟩
      refine pickA (v := ?_) 12 (some 81) rfl rfl (by kernel_rfl) (by kernel_rfl) (by kernel_rfl) (by decide) (fun _ _ _ h => h) (by rfl) ?_ (by assumption) ?_
      rotate_left
      · intro w'
        go_simp
        try with_reducible rfl
      try simp only [Act.put, List.setIfInBounds_toArray, List.set_cons_zero, List.set_cons_succ]
      refine pickA (v := ?_) 13 (some 82) rfl rfl (by kernel_rfl) (by kernel_rfl) (by kernel_rfl) (by decide) (fun _ _ _ h => h) (by rfl) ?_ (by assumption) ?_
      rotate_left
      · intro w'
        go_simp
        try with_reducible rfl
      try simp only [Act.put, List.setIfInBounds_toArray, List.set_cons_zero, List.set_cons_succ]
      refine pickA (v := ?_) 14 (some 83) rfl rfl (by kernel_rfl) (by kernel_rfl) (by kernel_rfl) (by decide) (fun _ _ _ h => h) (by rfl) ?_ (by assumption) ?_
      rotate_left
      · intro w'
        go_simp
        try with_reducible rfl
      try simp only [Act.put, List.setIfInBounds_toArray, List.set_cons_zero, List.set_cons_succ]
      refine pickA (v := .pointer (some ⟨g1, 0, none⟩)) 15 (some 84) rfl rfl (by kernel_rfl) (by kernel_rfl) (by kernel_rfl) (by decide) (fun _ _ _ h => h) (by rfl) ?_ (by assumption) ?_
      · intro w'
        go_simp
      try simp only [Act.put, List.setIfInBounds_toArray, List.set_cons_zero, List.set_cons_succ]
      refine pickL (v := .agg (Rs.cells x0)) 16 (some 85) rfl rfl (by kernel_rfl) (by kernel_rfl) (by kernel_rfl) (by decide) (by kernel_rfl) (by kernel_rfl) (fun _ _ _ h => h) (by rfl) ?_ (by assumption) ?_
      · intro w' hSw
        obtain ⟨q0, q1, q2, q3⟩ := hSw
        exact exec_load rfl rfl q0
      try simp only [Act.put, List.setIfInBounds_toArray, List.set_cons_zero, List.set_cons_succ]
      refine pickA (v := ?_) 17 (some 86) rfl rfl (by kernel_rfl) (by kernel_rfl) (by kernel_rfl) (by decide) (fun _ _ _ h => h) (by rfl) ?_ (by assumption) ?_
      rotate_left
      · intro w'
        go_simp
        try with_reducible rfl
      try simp only [Act.put, List.setIfInBounds_toArray, List.set_cons_zero, List.set_cons_succ]
      refine pickA (v := .pointer (some ⟨g2, 15, none⟩)) 18 (some 87) rfl rfl (by kernel_rfl) (by kernel_rfl) (by kernel_rfl) (by decide) (fun _ _ _ h => h) (by rfl) ?_ (by assumption) ?_
      · intro w'
        go_simp
      try simp only [Act.put, List.setIfInBounds_toArray, List.set_cons_zero, List.set_cons_succ]
      refine pickL (v := .agg (Rs.cells y1)) 19 (some 88) rfl rfl (by kernel_rfl) (by kernel_rfl) (by kernel_rfl) (by decide) (by kernel_rfl) (by kernel_rfl) (fun _ _ _ h => h) (by rfl) ?_ (by assumption) ?_
      · intro w' hSw
        obtain ⟨q0, q1, q2, q3⟩ := hSw
        exact exec_load rfl rfl q3
      try simp only [Act.put, List.setIfInBounds_toArray, List.set_cons_zero, List.set_cons_succ]
      refine oneL (i := 20) (by kernel_rfl) rfl (fun K hK => ?_)
      go_simp
      refine (sameRs x0 y1 hv1.out hx0 _ _ _ K0.out J1.out).mono ?_; rintro e w21 ⟨rfl, hb⟩
      replace O1 := hide (O1.out.below hb)
      replace O2 := hide (O2.out.below hb)
      replace K0 := hide (K0.out.below hb)
      replace K1 := hide (K1.out.below hb)
      replace J0 := hide (J0.out.below hb)
      replace J1 := hide (J1.out.below hb)
      replace B := hide (B.out.trans (hb.mono B.out.size))
      replace BW := hide (BW.out.trans (hb.mono BW.out.size))
      clear hb
      refine hK.out _ _ ?_ ?_
      · exact ⟨L0.out _ BW.out, L1.out _ BW.out, M0.out _ BW.out, M1.out _ BW.out⟩
      clear hK K
      try simp only [Act.put, List.setIfInBounds_toArray, List.set_cons_zero, List.set_cons_succ]
      clear hHeld
      have hHeld : (fun w' => (Instr.loadAt 46 (.pointer (some ⟨g1, 0, none⟩))).run Try.prog w' = .ok (.agg x0.cells) w' ∧ (Instr.loadAt 46 (.pointer (some ⟨g1, 15, none⟩))).run Try.prog w' = .ok (.agg x1.cells) w' ∧ (Instr.loadAt 46 (.pointer (some ⟨g2, 0, none⟩))).run Try.prog w' = .ok (.agg y0.cells) w' ∧ (Instr.loadAt 46 (.pointer (some ⟨g2, 15, none⟩))).run Try.prog w' = .ok (.agg y1.cells) w') w21 := ⟨L0.out _ BW.out, L1.out _ BW.out, M0.out _ BW.out, M1.out _ BW.out⟩
      refine pickA (v := ?_) 21 (some 90) rfl rfl (by kernel_rfl) (by kernel_rfl) (by kernel_rfl) (by decide) (fun _ _ _ h => h) (by rfl) ?_ (by assumption) ?_
      rotate_left
      · intro w'
        go_simp
        try with_reducible rfl
      try simp only [Act.put, List.setIfInBounds_toArray, List.set_cons_zero, List.set_cons_succ]
      refine pickA (v := ?_) 22 (some 91) rfl rfl (by kernel_rfl) (by kernel_rfl) (by kernel_rfl) (by decide) (fun _ _ _ h => h) (by rfl) ?_ (by assumption) ?_
      rotate_left
      · intro w'
        go_simp
        try with_reducible rfl
      try simp only [Act.put, List.setIfInBounds_toArray, List.set_cons_zero, List.set_cons_succ]
      refine pickA (v := ?_) 23 (some 92) rfl rfl (by kernel_rfl) (by kernel_rfl) (by kernel_rfl) (by decide) (fun _ _ _ h => h) (by rfl) ?_ (by assumption) ?_
      rotate_left
      · intro w'
        go_simp
        try with_reducible rfl
      try simp only [Act.put, List.setIfInBounds_toArray, List.set_cons_zero, List.set_cons_succ]
      refine pickA (v := .pointer (some ⟨g1, 15, none⟩)) 24 (some 93) rfl rfl (by kernel_rfl) (by kernel_rfl) (by kernel_rfl) (by decide) (fun _ _ _ h => h) (by rfl) ?_ (by assumption) ?_
      · intro w'
        go_simp
      try simp only [Act.put, List.setIfInBounds_toArray, List.set_cons_zero, List.set_cons_succ]
      refine pickL (v := .agg (Rs.cells x1)) 25 (some 94) rfl rfl (by kernel_rfl) (by kernel_rfl) (by kernel_rfl) (by decide) (by kernel_rfl) (by kernel_rfl) (fun _ _ _ h => h) (by rfl) ?_ (by assumption) ?_
      · intro w' hSw
        obtain ⟨q0, q1, q2, q3⟩ := hSw
        exact exec_load rfl rfl q1
      try simp only [Act.put, List.setIfInBounds_toArray, List.set_cons_zero, List.set_cons_succ]
      refine pickA (v := ?_) 26 (some 95) rfl rfl (by kernel_rfl) (by kernel_rfl) (by kernel_rfl) (by decide) (fun _ _ _ h => h) (by rfl) ?_ (by assumption) ?_
      rotate_left
      · intro w'
        go_simp
        try with_reducible rfl
      try simp only [Act.put, List.setIfInBounds_toArray, List.set_cons_zero, List.set_cons_succ]
      refine pickA (v := .pointer (some ⟨g2, 0, none⟩)) 27 (some 96) rfl rfl (by kernel_rfl) (by kernel_rfl) (by kernel_rfl) (by decide) (fun _ _ _ h => h) (by rfl) ?_ (by assumption) ?_
      · intro w'
        go_simp
      try simp only [Act.put, List.setIfInBounds_toArray, List.set_cons_zero, List.set_cons_succ]
      refine pickL (v := .agg (Rs.cells y0)) 28 (some 97) rfl rfl (by kernel_rfl) (by kernel_rfl) (by kernel_rfl) (by decide) (by kernel_rfl) (by kernel_rfl) (fun _ _ _ h => h) (by rfl) ?_ (by assumption) ?_
      · intro w' hSw
        obtain ⟨q0, q1, q2, q3⟩ := hSw
        exact exec_load rfl rfl q2
      try simp only [Act.put, List.setIfInBounds_toArray, List.set_cons_zero, List.set_cons_succ]
      refine oneL (i := 29) (by kernel_rfl) rfl (fun K hK => ?_)
      go_simp
      refine (sameRs x1 y0 hv2.out hx1 _ _ _ K1.out J0.out).mono ?_; rintro e w22 ⟨rfl, hb⟩
      replace O1 := hide (O1.out.below hb)
      replace O2 := hide (O2.out.below hb)
      replace K0 := hide (K0.out.below hb)
      replace K1 := hide (K1.out.below hb)
      replace J0 := hide (J0.out.below hb)
      replace J1 := hide (J1.out.below hb)
      replace B := hide (B.out.trans (hb.mono B.out.size))
      replace BW := hide (BW.out.trans (hb.mono BW.out.size))
      clear hb
      refine hK.out _ _ ?_ ?_
      · exact ⟨L0.out _ BW.out, L1.out _ BW.out, M0.out _ BW.out, M1.out _ BW.out⟩
      clear hK K
      try simp only [Act.put, List.setIfInBounds_toArray, List.set_cons_zero, List.set_cons_succ]
      clear hHeld
      have hHeld : (fun w' => (Instr.loadAt 46 (.pointer (some ⟨g1, 0, none⟩))).run Try.prog w' = .ok (.agg x0.cells) w' ∧ (Instr.loadAt 46 (.pointer (some ⟨g1, 15, none⟩))).run Try.prog w' = .ok (.agg x1.cells) w' ∧ (Instr.loadAt 46 (.pointer (some ⟨g2, 0, none⟩))).run Try.prog w' = .ok (.agg y0.cells) w' ∧ (Instr.loadAt 46 (.pointer (some ⟨g2, 15, none⟩))).run Try.prog w' = .ok (.agg y1.cells) w') w22 := ⟨L0.out _ BW.out, L1.out _ BW.out, M0.out _ BW.out, M1.out _ BW.out⟩
      refine pickA (v := ?_) 30 (some 99) rfl rfl (by kernel_rfl) (by kernel_rfl) (by kernel_rfl) (by decide) (fun _ _ _ h => h) (by rfl) ?_ (by assumption) ?_
      rotate_left
      · intro w'
        go_simp
        try with_reducible rfl
      try simp only [Act.put, List.setIfInBounds_toArray, List.set_cons_zero, List.set_cons_succ]
      refine pickA (v := ?_) 31 (some 6) rfl rfl (by kernel_rfl) (by kernel_rfl) (by kernel_rfl) (by decide) (fun _ _ _ h => h) (by rfl) ?_ (by assumption) ?_
      rotate_left
      · intro w'
        go_simp
        try with_reducible rfl
      try simp only [Act.put, List.setIfInBounds_toArray, List.set_cons_zero, List.set_cons_succ]
      refine doneL (by kernel_rfl) ?_ _
      clear hHeld
      go_wp2
      go_ret
      exact ⟨rfl, B.out⟩

end Go.Proofs.Ytfnpapaibgbjpaa
