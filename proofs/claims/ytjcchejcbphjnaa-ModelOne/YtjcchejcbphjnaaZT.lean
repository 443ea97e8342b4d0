/- The law ModelOne. -/
import Derived.Test.YtjcchejcbphjnaaZS
namespace Go.Proofs.Ytjcchejcbphjnaa
open Go.RowKit Go.Maps

set_option maxHeartbeats 4000000 in
set_option maxRecDepth 100000 in
theorem one_any (v : Value) (l0 : List It) (kd key high : Int) (ca : Option Addr) (cc : Nat) (cb : List UInt8) (k : Int) (w : World) (h : Sl w v l0) (hrd : RdC w (⟨kd, key, high, ca, cc, cb⟩ : Ca)) :
    Calls Try.prog 6 #[v, .agg #[.int .i64 kd, .int .u64 key, .int .u64 high, .slice ca cb.length cc], .int .u64 k] w fun e w' => e = .returned (.bool true) ∧ Below w.heap.size w w' := by
  obtain ⟨cn, hcn⟩ : ∃ z, cb.length = z := ⟨_, rfl⟩
  rw [hcn]
  replace hcn := hide hcn
  have b1 := (Below.refl w.heap.size w).alloc (Nat.le_refl _) (.cells #[.int .i64 kd, .int .u64 key, .int .u64 high, .slice ca cn cc] 27)
  have Vb := hide (IsB.new w #[.int .i64 kd, .int .u64 key, .int .u64 high, .slice ca cn cc] 27)
  have SL := hide (h.below b1)
  have HRd := hide (hrd.below b1)
  have B := hide b1
  clear h hrd b1
  go_enter Try.func6, Try.ntmps6
  go_wp2_with fail
  generalize w.alloc (.cells #[.int .i64 kd, .int .u64 key, .int .u64 high, .slice ca cn cc] 27) = W1 at *
  generalize hH : w.heap.size = H at Vb ⊢
  replace hH := hide hH
  refine (awake_any W1).mono ?_
  rintro e w2 ⟨rfl, hb⟩
  replace Vb := hide (Vb.out.below hb)
  replace SL := hide (SL.out.below hb)
  replace HRd := hide (HRd.out.below hb)
  replace B := hide (B.out.trans (hb.mono B.out.size))
  clear hb
  go_wp2_with fail
  refine (few_any v l0 w2 SL.out).mono ?_
  intro e w3 hE
  obtain ⟨v1, rfl, hS, hw3⟩ := hE
  subst hw3
  replace SL := hide hS
  clear hS
  have hl : (l0.take 200).length ≤ 200 := by rw [List.length_take]; omega
  generalize l0.take 200 = l at *
  have LC := hide (load_call Vb.out rfl)
  have DO := do_any v1 l (by omega) kd key high ca cc cb w3 SL.out HRd.out
  rw [hcn.out] at DO
  replace DO := hide DO
  go_wp2_with ((with_reducible refine wpList_load_w ?hw 27 (.tmp 4) ?ho ?hx LC.out ?h); (case ho => rfl); (case hw => rfl); (case hx => rfl))
  refine DO.out.mono ?_
  rintro e w4 ⟨vm, m, r, E, rfl, hO, hro, he, hnw, hb⟩
  replace Vb := hide (Vb.out.below hb)
  replace SL := hide (SL.out.below hb)
  replace HRd := hide (HRd.out.below hb)
  replace B := hide (B.out.trans (hb.mono B.out.size))
  have OM := hide hO.sl
  have HE := hide he
  have hml : Hid (m.length ≤ 1000 ∨ True) := Or.inr trivial
  clear hO hro hnw hb DO LC hml
  obtain ⟨re, rk, rva, rvc, rvb, ria, ric, ril, rf⟩ := r
  simp only [Rs.cells]
  generalize hrvn : rvb.length = rvn
  generalize hrin : ril.length = rin
  clear hrvn hrin
  have b5 := (Below.refl w4.heap.size w4).alloc (Nat.le_refl _) (.cells #[.int .i64 re, .int .u64 rk, .slice rva rvn rvc, .slice ria rin ric, .int .i64 0, .int .i64 0, .int .u64 0, .int .i64 0, .int .u64 0, .int .i64 0, .int .i64 0, .int .u64 0, .int .i64 0, .int .u64 0, .bool rf] 46)
  have Rb := hide (IsB.new w4 #[.int .i64 re, .int .u64 rk, .slice rva rvn rvc, .slice ria rin ric, .int .i64 0, .int .i64 0, .int .u64 0, .int .i64 0, .int .u64 0, .int .i64 0, .int .i64 0, .int .u64 0, .int .i64 0, .int .u64 0, .bool rf] 46)
  replace Vb := hide (Vb.out.below b5)
  replace SL := hide (SL.out.below b5)
  replace HRd := hide (HRd.out.below b5)
  replace OM := hide (OM.out.below b5)
  replace B := hide (B.out.trans (b5.mono B.out.size))
  clear b5
  by_cases hE0 : E = 0
  rotate_left
  · have hEb : (E == 0) = false := by simpa using hE0
    have HB : Hid (¬(ckE l = 0 ∧ clE kd high cn = 0)) := fun hh => by
      have ho : okM l := by
        apply Classical.byContradiction
        intro hn
        rw [ckE_no hn] at hh
        exact absurd hh.1 (by decide)
      have hk : Ca.ok (⟨kd, key, high, ca, cc, cb⟩ : Ca) = true := by
        cases hq : Ca.ok (⟨kd, key, high, ca, cc, cb⟩ : Ca) with
        | true => rfl
        | false =>
          have hq2 : okC kd high cb.length = false := hq
          rw [hcn.out] at hq2
          rw [clE_no hq2] at hh
          exact absurd hh.2 (by decide)
      have h9 := HE.out
      rw [doE_yes ho hk] at h9
      injection h9 with _ h9
      injection h9 with _ h9
      exact hE0 h9
    clear hE0 HE
    go_wp2_with fail
    generalize w4.alloc (.cells #[.int .i64 re, .int .u64 rk, .slice rva rvn rvc, .slice ria rin ric, .int .i64 0, .int .i64 0, .int .u64 0, .int .i64 0, .int .u64 0, .int .i64 0, .int .i64 0, .int .u64 0, .int .i64 0, .int .u64 0, .bool rf] 46) = W5 at *
    generalize w4.heap.size = R at Rb ⊢
    refine (rcheck_any v1 l (by omega) W5 SL.out).mono ?_
    rintro e w6 ⟨rfl, hb⟩
    replace Vb := hide (Vb.out.below hb)
    replace B := hide (B.out.trans (hb.mono B.out.size))
    clear hb
    by_cases hck : ckE l = 0
    rotate_left
    · have hckb : (ckE l == 0) = false := by simpa using hck
      generalize ckE l = CE at *
      go_wp2
      go_ret
      exact ⟨rfl, B.out⟩
    have hcl : ¬clE kd high cn = 0 := fun hh => HB.out ⟨hck, hh⟩
    have hclb : (clE kd high cn == 0) = false := by simpa using hcl
    have hclc : (clE kd high cn != 0) = true := by simpa using hcl
    rw [hck]
    have LC := hide (load_call Vb.out rfl)
    clear hck hcl HB
    go_wp2_with ((with_reducible refine wpList_load_w ?hw 27 (.tmp 4) ?ho ?hx LC.out ?h); (case ho => rfl); (case hw => rfl); (case hx => rfl))
    refine (rcall_any kd key high ca cn cc w6).mono ?_
    rintro e w7 ⟨rfl, hb⟩
    replace B := hide (B.out.trans (hb.mono B.out.size))
    clear hb LC
    generalize clE kd high cn = CE at *
    go_wp2
    go_ret
    exact ⟨rfl, B.out⟩
  subst hE0
  have HD : Hid (okM l ∧ Ca.ok (⟨kd, key, high, ca, cc, cb⟩ : Ca) = true ∧ m.map It.val = Ca.wrote (⟨kd, key, high, ca, cc, cb⟩ : Ca) l ∧ re = (Ca.told (⟨kd, key, high, ca, cc, cb⟩ : Ca) l).1) := by
    have ho : okM l := by
      apply Classical.byContradiction
      intro hn
      have h9 := HE.out
      unfold doE at h9
      rw [if_neg hn] at h9
      injection h9 with _ h9
      injection h9 with _ h9
      cases h9
    have hk : Ca.ok (⟨kd, key, high, ca, cc, cb⟩ : Ca) = true := by
      cases hq : Ca.ok (⟨kd, key, high, ca, cc, cb⟩ : Ca) with
      | true => rfl
      | false =>
        have h9 := HE.out
        unfold doE at h9
        rw [if_pos ho, hq] at h9
        injection h9 with _ h9
        injection h9 with _ h9
        cases h9
    have h9 := HE.out
    rw [doE_yes ho hk] at h9
    injection h9 with h8 h9
    injection h9 with h9 _
    exact ⟨ho, hk, h8, by rw [← h9]; rfl⟩
  clear HE
  have hml : m.length ≤ 100000 := by
    have h1 := congrArg List.length HD.out.2.2.1
    rw [List.length_map] at h1
    have := wrote_len (⟨kd, key, high, ca, cc, cb⟩ : Ca) l
    omega
  have hom : Hid (ckE m = 0) := ckE_yes (by rw [okM_iff, HD.out.2.2.1]; exact wrote_ok HD.out.1 HD.out.2.1)
  go_wp2_with fail
  generalize w4.alloc (.cells #[.int .i64 re, .int .u64 rk, .slice rva rvn rvc, .slice ria rin ric, .int .i64 0, .int .i64 0, .int .u64 0, .int .i64 0, .int .u64 0, .int .i64 0, .int .i64 0, .int .u64 0, .int .i64 0, .int .u64 0, .bool rf] 46) = W5 at *
  generalize w4.heap.size = R at Rb ⊢
  refine (rkey_any v1 l (by omega) k W5 SL.out).mono ?_
  intro e w6 hE
  obtain ⟨rfl, hw6⟩ := hE
  subst hw6
  obtain ⟨ka, kc, hkv, kr, kn⟩ := kV_form SL.out k
  obtain ⟨S1, e1, t1⟩ := conv_S kr kn
  rw [hkv]
  generalize (kS k l).length = n1 at *
  go_wp2_with fail
  refine (rkey_any vm m hml k _ OM.out).mono ?_
  intro e w7 hE
  obtain ⟨rfl, hw7⟩ := hE
  subst hw7
  obtain ⟨ka2, kc2, hkv2, kr2, kn2⟩ := kV_form OM.out k
  obtain ⟨S2, e2, t2⟩ := conv_S kr2 kn2
  rw [hkv2]
  generalize (kS k m).length = n2 at *
  have HK : Hid (k ≠ key → kB k l = kB k m ∧ (S1.toList == S2.toList) = true) := fun hne => by
    refine ⟨(wrote_kB HD.out.2.2.1 hne).symm, ?_⟩
    rw [e1, e2, wrote_kS HD.out.2.2.1 hne]
    simp
  replace t1 := hide t1
  replace t2 := hide t2
  clear hkv hkv2 kr kr2 kn kn2 e1 e2
  generalize hB1 : kB k l = B1 at *
  generalize hB2 : kB k m = B2 at *
  clear hB1 hB2
  go_wp2_with fail
  refine (rcheck_any vm m hml _ OM.out).mono ?_
  rintro e w8 ⟨rfl, hb⟩
  have T1 := t1.out w8 hb
  have T2 := t2.out w8 hb
  replace Vb := hide (Vb.out.below hb)
  replace SL := hide (SL.out.below hb)
  replace OM := hide (OM.out.below hb)
  replace Rb := hide (Rb.out.below hb)
  replace B := hide (B.out.trans (hb.mono B.out.size))
  clear hb t1 t2
  rw [hom.out]
  have LC := hide (load_call Vb.out rfl)
  have z0 := Vb.out.cell 0
  have z1 := Vb.out.cell 1
  have z2 := Vb.out.cell 2
  have z3 := Vb.out.cell 3
  simp at z0 z1 z2 z3
  have y0 := Rb.out.cell 0
  simp at y0
  by_cases hk : k = key
  · replace hk := hk.symm
    subst hk
    clear HK T1 T2
    go_wp2_with ((with_reducible refine wpList_load_w ?hw 27 (.tmp 4) ?ho ?hx LC.out ?h); (case ho => rfl); (case hw => rfl); (case hx => rfl))
    refine (rwrites_any kd key high ca cn cc w8).mono ?_
    rintro e w9 ⟨rfl, hb⟩
    replace Vb := hide (Vb.out.below hb)
    replace SL := hide (SL.out.below hb)
    replace OM := hide (OM.out.below hb)
    replace Rb := hide (Rb.out.below hb)
    replace B := hide (B.out.trans (hb.mono B.out.size))
    clear hb LC z0 z1 z2 z3 y0
    cases hwr : wrB kd with
    | false =>
      have z0 := Vb.out.cell 0
      have z1 := Vb.out.cell 1
      have z2 := Vb.out.cell 2
      have z3 := Vb.out.cell 3
      simp at z0 z1 z2 z3
      have y0 := Rb.out.cell 0
      simp at y0
      have hsm : Hid (sameL l m = true) := wrote_same HD.out.2.2.1 (Or.inl hwr)
      have hk1 : ¬kd = 1 := fun hq => by simp [wrB, hq] at hwr
      have hk1b : (kd == 1) = false := by simpa using hk1
      clear hwr
      go_wp2_with fail
      refine (rsame_any v1 vm l m (by omega) w9 SL.out OM.out).mono ?_
      rintro e w10 ⟨rfl, hb⟩
      replace Vb := hide (Vb.out.below hb)
      replace SL := hide (SL.out.below hb)
      replace OM := hide (OM.out.below hb)
      replace Rb := hide (Rb.out.below hb)
      replace B := hide (B.out.trans (hb.mono B.out.size))
      clear hb z0 z1 z2 z3 y0
      rw [hsm.out]
      have z0 := Vb.out.cell 0
      have z1 := Vb.out.cell 1
      have z2 := Vb.out.cell 2
      have z3 := Vb.out.cell 3
      simp at z0 z1 z2 z3
      have y0 := Rb.out.cell 0
      simp at y0
      by_cases hre : re = 0
      · subst hre
        go_wp2
        go_ret
        exact ⟨rfl, B.out⟩
      have hreb : (re == 0) = false := by simpa using hre
      go_wp2_with fail
      refine (rsame_any v1 vm l m (by omega) w10 SL.out OM.out).mono ?_
      rintro e w11 ⟨rfl, hb⟩
      replace Vb := hide (Vb.out.below hb)
      replace SL := hide (SL.out.below hb)
      replace OM := hide (OM.out.below hb)
      replace Rb := hide (Rb.out.below hb)
      replace B := hide (B.out.trans (hb.mono B.out.size))
      clear hb z0 z1 z2 z3 y0
      rw [hsm.out]
      have z0 := Vb.out.cell 0
      have z1 := Vb.out.cell 1
      have z2 := Vb.out.cell 2
      have z3 := Vb.out.cell 3
      simp at z0 z1 z2 z3
      have y0 := Rb.out.cell 0
      simp at y0
      go_wp2
      go_ret
      exact ⟨rfl, B.out⟩
    | true =>
      have z0 := Vb.out.cell 0
      have z1 := Vb.out.cell 1
      have z2 := Vb.out.cell 2
      have z3 := Vb.out.cell 3
      simp at z0 z1 z2 z3
      have y0 := Rb.out.cell 0
      simp at y0
      by_cases hre : re = 0
      rotate_left
      · have hsm : Hid (sameL l m = true) := wrote_same HD.out.2.2.1 (Or.inr (by rw [← HD.out.2.2.2]; exact hre))
        have hreb : (re == 0) = false := by simpa using hre
        clear hwr
        go_wp2_with fail
        refine (rsame_any v1 vm l m (by omega) w9 SL.out OM.out).mono ?_
        rintro e w10 ⟨rfl, hb⟩
        replace Vb := hide (Vb.out.below hb)
        replace SL := hide (SL.out.below hb)
        replace OM := hide (OM.out.below hb)
        replace Rb := hide (Rb.out.below hb)
        replace B := hide (B.out.trans (hb.mono B.out.size))
        clear hb z0 z1 z2 z3 y0
        rw [hsm.out]
        have z0 := Vb.out.cell 0
        have z1 := Vb.out.cell 1
        have z2 := Vb.out.cell 2
        have z3 := Vb.out.cell 3
        simp at z0 z1 z2 z3
        have y0 := Rb.out.cell 0
        simp at y0
        by_cases hk1 : kd = 1
        · subst hk1
          go_wp2
          go_ret
          exact ⟨rfl, B.out⟩
        have hk1b : (kd == 1) = false := by simpa using hk1
        go_wp2
        go_ret
        exact ⟨rfl, B.out⟩
      subst hre
      by_cases hk1 : kd = 1
      rotate_left
      · have hk1b : (kd == 1) = false := by simpa using hk1
        go_wp2
        go_ret
        exact ⟨rfl, B.out⟩
      subst hk1
      have HID := hide (ins_del HD.out.1 HD.out.2.1 rfl HD.out.2.2.2.symm HD.out.2.2.1)
      have D2 := hide (do_any vm m (by have h1 := congrArg List.length HD.out.2.2.1; rw [List.length_map] at h1; have := wrote_len (⟨1, key, high, ca, cc, cb⟩ : Ca) l; omega) 2 key 0 none 0 [] w9 OM.out ⟨Or.inl ⟨rfl, rfl⟩, fun _ => rfl⟩)
      go_wp2_with fail
      refine D2.out.mono ?_
      rintro e w10 ⟨vb, mb, r2, E2, rfl, hO, hro, he2, hnw, hb⟩
      replace SL := hide (SL.out.below hb)
      replace B := hide (B.out.trans (hb.mono B.out.size))
      have OB := hide hO.sl
      have HD2 : Hid (mb.map It.val = l.map It.val ∧ r2.e = 0 ∧ E2 = 0) := by
        have hok2 : Ca.ok (⟨2, key, 0, none, 0, []⟩ : Ca) = true := by rfl
        rw [doE_yes HID.out.1 hok2] at he2
        injection he2 with h8 h9
        injection h9 with h9 h10
        have ht : (Ca.told (⟨2, key, 0, none, 0, []⟩ : Ca) m).1 = 0 := by
          show (tl m 2 key 0).1 = 0
          have h11 : th m key = true := HID.out.2.1
          simp [tl, h11]
        refine ⟨?_, by rw [← ht, ← h9]; rfl, h10⟩
        rw [h8]
        show wv m 2 key [] (Ca.told (⟨2, key, 0, none, 0, []⟩ : Ca) m).1 = _
        rw [ht]
        exact HID.out.2.2
      clear hO hro he2 hnw hb D2 z0 z1 z2 z3 y0
      obtain ⟨re2, rk2, rva2, rvc2, rvb2, ria2, ric2, ril2, rf2⟩ := r2
      obtain ⟨hv2, hr2, hE2⟩ := HD2.out
      simp only [] at hr2
      subst hr2 hE2
      simp only [Rs.cells]
      generalize hrvn2 : rvb2.length = rvn2
      generalize hrin2 : ril2.length = rin2
      clear hrvn2 hrin2 HD2
      have hsm2 : Hid (sameL mb l = true) := by show _ = _; unfold sameL; rw [beq_iff_eq]; exact hv2
      have hlb : mb.length ≤ 100000 := by have := congrArg List.length hv2; simp at this; omega
      clear hv2
      have b11 := (Below.refl w10.heap.size w10).alloc (Nat.le_refl _) (.cells #[.int .i64 0, .int .u64 rk2, .slice rva2 rvn2 rvc2, .slice ria2 rin2 ric2, .int .i64 0, .int .i64 0, .int .u64 0, .int .i64 0, .int .u64 0, .int .i64 0, .int .i64 0, .int .u64 0, .int .i64 0, .int .u64 0, .bool rf2] 46)
      replace SL := hide (SL.out.below b11)
      replace OB := hide (OB.out.below b11)
      replace B := hide (B.out.trans (b11.mono B.out.size))
      clear b11
      go_wp2_with fail
      generalize w10.alloc (.cells #[.int .i64 0, .int .u64 rk2, .slice rva2 rvn2 rvc2, .slice ria2 rin2 ric2, .int .i64 0, .int .i64 0, .int .u64 0, .int .i64 0, .int .u64 0, .int .i64 0, .int .i64 0, .int .u64 0, .int .i64 0, .int .u64 0, .bool rf2] 46) = W11 at *
      refine (rsame_any vb v1 mb l hlb W11 OB.out SL.out).mono ?_
      rintro e w12 ⟨rfl, hb⟩
      replace B := hide (B.out.trans (hb.mono B.out.size))
      clear hb
      rw [hsm2.out]
      go_wp2
      go_ret
      exact ⟨rfl, B.out⟩
  · have hkb : (k == key) = false := by simpa using hk
    obtain ⟨hBB, hSS⟩ := HK.out hk
    subst hBB
    have hSE : S1.toList = S2.toList := by simpa using hSS
    clear HK
    go_wp2_with ((with_reducible refine wpList_load_w ?hw 27 (.tmp 4) ?ho ?hx LC.out ?h); (case ho => rfl); (case hw => rfl); (case hx => rfl))
    refine (rwrites_any kd key high ca cn cc w8).mono ?_
    rintro e w9 ⟨rfl, hb⟩
    replace Vb := hide (Vb.out.below hb)
    replace SL := hide (SL.out.below hb)
    replace OM := hide (OM.out.below hb)
    replace Rb := hide (Rb.out.below hb)
    replace B := hide (B.out.trans (hb.mono B.out.size))
    clear hb LC z0 z1 z2 z3 y0
    clear T1 T2
    cases hwr : wrB kd with
    | false =>
      have z0 := Vb.out.cell 0
      have z1 := Vb.out.cell 1
      have z2 := Vb.out.cell 2
      have z3 := Vb.out.cell 3
      simp at z0 z1 z2 z3
      have y0 := Rb.out.cell 0
      simp at y0
      have hsm : Hid (sameL l m = true) := wrote_same HD.out.2.2.1 (Or.inl hwr)
      have hk1 : ¬kd = 1 := fun hq => by simp [wrB, hq] at hwr
      have hk1b : (kd == 1) = false := by simpa using hk1
      clear hwr
      go_wp2_with fail
      refine (rsame_any v1 vm l m (by omega) w9 SL.out OM.out).mono ?_
      rintro e w10 ⟨rfl, hb⟩
      replace Vb := hide (Vb.out.below hb)
      replace SL := hide (SL.out.below hb)
      replace OM := hide (OM.out.below hb)
      replace Rb := hide (Rb.out.below hb)
      replace B := hide (B.out.trans (hb.mono B.out.size))
      clear hb z0 z1 z2 z3 y0
      rw [hsm.out]
      have z0 := Vb.out.cell 0
      have z1 := Vb.out.cell 1
      have z2 := Vb.out.cell 2
      have z3 := Vb.out.cell 3
      simp at z0 z1 z2 z3
      have y0 := Rb.out.cell 0
      simp at y0
      by_cases hre : re = 0
      · subst hre
        go_wp2
        go_ret
        exact ⟨rfl, B.out⟩
      have hreb : (re == 0) = false := by simpa using hre
      go_wp2_with fail
      refine (rsame_any v1 vm l m (by omega) w10 SL.out OM.out).mono ?_
      rintro e w11 ⟨rfl, hb⟩
      replace Vb := hide (Vb.out.below hb)
      replace SL := hide (SL.out.below hb)
      replace OM := hide (OM.out.below hb)
      replace Rb := hide (Rb.out.below hb)
      replace B := hide (B.out.trans (hb.mono B.out.size))
      clear hb z0 z1 z2 z3 y0
      rw [hsm.out]
      have z0 := Vb.out.cell 0
      have z1 := Vb.out.cell 1
      have z2 := Vb.out.cell 2
      have z3 := Vb.out.cell 3
      simp at z0 z1 z2 z3
      have y0 := Rb.out.cell 0
      simp at y0
      go_wp2
      go_ret
      exact ⟨rfl, B.out⟩
    | true =>
      have z0 := Vb.out.cell 0
      have z1 := Vb.out.cell 1
      have z2 := Vb.out.cell 2
      have z3 := Vb.out.cell 3
      simp at z0 z1 z2 z3
      have y0 := Rb.out.cell 0
      simp at y0
      by_cases hre : re = 0
      rotate_left
      · have hsm : Hid (sameL l m = true) := wrote_same HD.out.2.2.1 (Or.inr (by rw [← HD.out.2.2.2]; exact hre))
        have hreb : (re == 0) = false := by simpa using hre
        clear hwr
        go_wp2_with fail
        refine (rsame_any v1 vm l m (by omega) w9 SL.out OM.out).mono ?_
        rintro e w10 ⟨rfl, hb⟩
        replace Vb := hide (Vb.out.below hb)
        replace SL := hide (SL.out.below hb)
        replace OM := hide (OM.out.below hb)
        replace Rb := hide (Rb.out.below hb)
        replace B := hide (B.out.trans (hb.mono B.out.size))
        clear hb z0 z1 z2 z3 y0
        rw [hsm.out]
        have z0 := Vb.out.cell 0
        have z1 := Vb.out.cell 1
        have z2 := Vb.out.cell 2
        have z3 := Vb.out.cell 3
        simp at z0 z1 z2 z3
        have y0 := Rb.out.cell 0
        simp at y0
        by_cases hk1 : kd = 1
        · subst hk1
          go_wp2
          go_ret
          exact ⟨rfl, B.out⟩
        have hk1b : (kd == 1) = false := by simpa using hk1
        go_wp2
        go_ret
        exact ⟨rfl, B.out⟩
      subst hre
      by_cases hk1 : kd = 1
      rotate_left
      · have hk1b : (kd == 1) = false := by simpa using hk1
        go_wp2
        go_ret
        exact ⟨rfl, B.out⟩
      subst hk1
      have HID := hide (ins_del HD.out.1 HD.out.2.1 rfl HD.out.2.2.2.symm HD.out.2.2.1)
      have D2 := hide (do_any vm m (by have h1 := congrArg List.length HD.out.2.2.1; rw [List.length_map] at h1; have := wrote_len (⟨1, key, high, ca, cc, cb⟩ : Ca) l; omega) 2 key 0 none 0 [] w9 OM.out ⟨Or.inl ⟨rfl, rfl⟩, fun _ => rfl⟩)
      go_wp2_with fail
      refine D2.out.mono ?_
      rintro e w10 ⟨vb, mb, r2, E2, rfl, hO, hro, he2, hnw, hb⟩
      replace SL := hide (SL.out.below hb)
      replace B := hide (B.out.trans (hb.mono B.out.size))
      have OB := hide hO.sl
      have HD2 : Hid (mb.map It.val = l.map It.val ∧ r2.e = 0 ∧ E2 = 0) := by
        have hok2 : Ca.ok (⟨2, key, 0, none, 0, []⟩ : Ca) = true := by rfl
        rw [doE_yes HID.out.1 hok2] at he2
        injection he2 with h8 h9
        injection h9 with h9 h10
        have ht : (Ca.told (⟨2, key, 0, none, 0, []⟩ : Ca) m).1 = 0 := by
          show (tl m 2 key 0).1 = 0
          have h11 : th m key = true := HID.out.2.1
          simp [tl, h11]
        refine ⟨?_, by rw [← ht, ← h9]; rfl, h10⟩
        rw [h8]
        show wv m 2 key [] (Ca.told (⟨2, key, 0, none, 0, []⟩ : Ca) m).1 = _
        rw [ht]
        exact HID.out.2.2
      clear hO hro he2 hnw hb D2 z0 z1 z2 z3 y0
      obtain ⟨re2, rk2, rva2, rvc2, rvb2, ria2, ric2, ril2, rf2⟩ := r2
      obtain ⟨hv2, hr2, hE2⟩ := HD2.out
      simp only [] at hr2
      subst hr2 hE2
      simp only [Rs.cells]
      generalize hrvn2 : rvb2.length = rvn2
      generalize hrin2 : ril2.length = rin2
      clear hrvn2 hrin2 HD2
      have hsm2 : Hid (sameL mb l = true) := by show _ = _; unfold sameL; rw [beq_iff_eq]; exact hv2
      have hlb : mb.length ≤ 100000 := by have := congrArg List.length hv2; simp at this; omega
      clear hv2
      have b11 := (Below.refl w10.heap.size w10).alloc (Nat.le_refl _) (.cells #[.int .i64 0, .int .u64 rk2, .slice rva2 rvn2 rvc2, .slice ria2 rin2 ric2, .int .i64 0, .int .i64 0, .int .u64 0, .int .i64 0, .int .u64 0, .int .i64 0, .int .i64 0, .int .u64 0, .int .i64 0, .int .u64 0, .bool rf2] 46)
      replace SL := hide (SL.out.below b11)
      replace OB := hide (OB.out.below b11)
      replace B := hide (B.out.trans (b11.mono B.out.size))
      clear b11
      go_wp2_with fail
      generalize w10.alloc (.cells #[.int .i64 0, .int .u64 rk2, .slice rva2 rvn2 rvc2, .slice ria2 rin2 ric2, .int .i64 0, .int .i64 0, .int .u64 0, .int .i64 0, .int .u64 0, .int .i64 0, .int .i64 0, .int .u64 0, .int .i64 0, .int .u64 0, .bool rf2] 46) = W11 at *
      refine (rsame_any vb v1 mb l hlb W11 OB.out SL.out).mono ?_
      rintro e w12 ⟨rfl, hb⟩
      replace B := hide (B.out.trans (hb.mono B.out.size))
      clear hb
      rw [hsm2.out]
      go_wp2
      go_ret
      exact ⟨rfl, B.out⟩

end Go.Proofs.Ytjcchejcbphjnaa
