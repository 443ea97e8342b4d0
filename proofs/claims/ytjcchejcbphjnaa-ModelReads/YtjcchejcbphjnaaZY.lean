/- The law ModelReads. -/
import Derived.Test.YtjcchejcbphjnaaZX
namespace Go.Proofs.Ytjcchejcbphjnaa
open Go.RowKit Go.Maps

set_option maxHeartbeats 1600000 in
set_option maxRecDepth 100000 in
theorem reads_any (v : Value) (l0 : List It) (low high : Int) (w : World) (h : Sl w v l0) :
    Calls Try.prog 7 #[v, .int .u64 low, .int .u64 high] w fun e w' => e = .returned (.bool true) ∧ Below w.heap.size w w' := by
  have mixed : Try.prog.follows .mixedOrders = true := by kernel_rfl
  have SL := hide h
  have B : Hid (Below w.heap.size w w) := Below.refl _ _
  clear h
  go_enter Try.func7, Try.ntmps7
  go_wp2_with fail
  refine (awake_any w).mono ?_
  rintro e w2 ⟨rfl, hb⟩
  replace SL := hide (SL.out.below hb)
  replace B := hide (B.out.trans (hb.mono B.out.size))
  clear hb
  go_wp2_with fail
  refine (few_any v l0 w2 SL.out).mono ?_
  intro e w3 hE
  obtain ⟨v1, rfl, hS, hw3⟩ := hE
  subst hw3
  replace SL := hide hS
  clear hS
  have hl : (l0.take 200).length ≤ 200 := by rw [List.length_take]; omega
  generalize l0.take 200 = l at *
  go_wp2_with fail
  refine (rcheck_any v1 l (by omega) w3 SL.out).mono ?_
  rintro e w4 ⟨rfl, hb⟩
  replace SL := hide (SL.out.below hb)
  replace B := hide (B.out.trans (hb.mono B.out.size))
  clear hb
  by_cases hok : okM l
  rotate_left
  · rw [ckE_no hok]
    go_wp2
    go_ret
    exact ⟨rfl, B.out⟩
  rw [ckE_yes hok]
  have HOK := hide hok
  clear hok
  have DO1 := hide (do_any v1 l (by omega) 4 low 0 none 0 [] _ SL.out ⟨Or.inl ⟨rfl, rfl⟩, fun _ => rfl⟩)
  go_wp2_with fail
  refine DO1.out.mono ?_
  rintro e w5 ⟨vm1, m1, r1, E1, rfl, hO1, hro1, he1, hnw1, hb⟩
  replace SL := hide (SL.out.below hb)
  replace B := hide (B.out.trans (hb.mono B.out.size))
  rw [doE_yes HOK.out (show Ca.ok (⟨4, low, 0, none, 0, []⟩ : Ca) = true from by rfl)] at he1
  injection he1 with _ he1
  injection he1 with hv1 hE1
  subst hE1
  obtain ⟨re, rk, rva, rvc, rvb, ria, ric, ril, rf⟩ := r1
  have BY1 := hide hro1.by_
  have BN1 := hide hro1.vn
  have IL1 := hide hro1.it.sl
  simp only [] at BY1 BN1 IL1
  replace hv1 : Hid ((re, rk, rvb, ril.map It.val, rf) = tl l 4 low 0) := hv1
  clear hO1 hro1 hnw1 hb DO1
  simp only [Rs.cells]
  generalize hrvn : rvb.length = rvn at IL1 ⊢
  generalize hrin : ril.length = rin at IL1 ⊢
  replace hrvn := hide hrvn
  replace hrin := hide hrin
  have b1 := (Below.refl w5.heap.size w5).alloc (Nat.le_refl _) (.cells #[.int .i64 re, .int .u64 rk, .slice rva rvn rvc, .slice ria rin ric, .int .i64 0, .int .i64 0, .int .u64 0, .int .i64 0, .int .u64 0, .int .i64 0, .int .i64 0, .int .u64 0, .int .i64 0, .int .u64 0, .bool rf] 46)
  have Rb := hide (IsB.new w5 #[.int .i64 re, .int .u64 rk, .slice rva rvn rvc, .slice ria rin ric, .int .i64 0, .int .i64 0, .int .u64 0, .int .i64 0, .int .u64 0, .int .i64 0, .int .i64 0, .int .u64 0, .int .i64 0, .int .u64 0, .bool rf] 46)
  replace SL := hide (SL.out.below b1)
  replace B := hide (B.out.trans (b1.mono B.out.size))
  replace BY1 := hide (BY1.out.below b1)
  replace IL1 := hide (IL1.out.below b1)
  clear b1
  have DO2 := hide (do_any v1 l (by omega) 5 low high none 0 [] _ SL.out ⟨Or.inl ⟨rfl, rfl⟩, fun _ => rfl⟩)
  go_wp2_with fail
  generalize w5.alloc (.cells #[.int .i64 re, .int .u64 rk, .slice rva rvn rvc, .slice ria rin ric, .int .i64 0, .int .i64 0, .int .u64 0, .int .i64 0, .int .u64 0, .int .i64 0, .int .i64 0, .int .u64 0, .int .i64 0, .int .u64 0, .bool rf] 46) = W5 at *
  generalize hRn : w5.heap.size = R at Rb ⊢
  clear hRn
  refine DO2.out.mono ?_
  rintro e w6 ⟨vm2, m2, r2, E2, rfl, hO2, hro2, he2, hnw2, hb⟩
  replace SL := hide (SL.out.below hb)
  replace B := hide (B.out.trans (hb.mono B.out.size))
  replace BY1 := hide (BY1.out.below hb)
  replace IL1 := hide (IL1.out.below hb)
  replace Rb := hide (Rb.out.below hb)
  rw [doE_yes HOK.out (show Ca.ok (⟨5, low, high, none, 0, []⟩ : Ca) = true from by rfl)] at he2
  injection he2 with _ he2
  injection he2 with hv2 hE2
  subst hE2
  obtain ⟨se, sk, sva, svc, svb, sia, sic, sil, sf⟩ := r2
  have BY2 := hide hro2.by_
  have BN2 := hide hro2.vn
  have IL2 := hide hro2.it.sl
  simp only [] at BY2 BN2 IL2
  replace hv2 : Hid ((se, sk, svb, sil.map It.val, sf) = tl l 5 low high) := hv2
  clear hO2 hro2 hnw2 hb DO2
  simp only [Rs.cells]
  generalize hsvn : svb.length = svn at IL2 ⊢
  generalize hsin : sil.length = sin at IL2 ⊢
  replace hsvn := hide hsvn
  replace hsin := hide hsin
  have b2 := (Below.refl w6.heap.size w6).alloc (Nat.le_refl _) (.cells #[.int .i64 se, .int .u64 sk, .slice sva svn svc, .slice sia sin sic, .int .i64 0, .int .i64 0, .int .u64 0, .int .i64 0, .int .u64 0, .int .i64 0, .int .i64 0, .int .u64 0, .int .i64 0, .int .u64 0, .bool sf] 46)
  have Sb := hide (IsB.new w6 #[.int .i64 se, .int .u64 sk, .slice sva svn svc, .slice sia sin sic, .int .i64 0, .int .i64 0, .int .u64 0, .int .i64 0, .int .u64 0, .int .i64 0, .int .i64 0, .int .u64 0, .int .i64 0, .int .u64 0, .bool sf] 46)
  replace SL := hide (SL.out.below b2)
  replace B := hide (B.out.trans (b2.mono B.out.size))
  replace BY1 := hide (BY1.out.below b2)
  replace IL1 := hide (IL1.out.below b2)
  replace Rb := hide (Rb.out.below b2)
  replace BY2 := hide (BY2.out.below b2)
  replace IL2 := hide (IL2.out.below b2)
  clear b2
  have HP := pl_le low l
  have HCL := cnt_le l low high
  have FC : Hid (∀ j (hj : j < l.length), pl low l ≤ j → re = 0 ∧ rk ≤ l[j].k) := fun j hj hp => by
    have h1 : pl low l < l.length := by omega
    have h2 := hv1.out
    rw [ceil_yes h1] at h2
    injection h2 with h3 h4
    injection h4 with h4 _
    refine ⟨h3, ?_⟩
    rw [h4]
    exact okM_le HOK.out hp hj
  have FR : Hid ((64 < cnt l low high ∧ se = 102) ∨ (¬64 < cnt l low high ∧ se = 0 ∧ sil.map It.val = ((l.drop (pl low l)).take (cnt l low high)).map It.val)) := by
    by_cases hc : 64 < cnt l low high
    · have h2 := hv2.out
      rw [range_large hc] at h2
      injection h2 with h3 _
      exact Or.inl ⟨hc, h3⟩
    · have h2 := hv2.out
      rw [range_all hc] at h2
      injection h2 with h3 h4
      injection h4 with _ h4
      injection h4 with _ h4
      injection h4 with h4 _
      exact Or.inr ⟨hc, h3, h4⟩
  go_wp2
  generalize w6.alloc (.cells #[.int .i64 se, .int .u64 sk, .slice sva svn svc, .slice sia sin sic, .int .i64 0, .int .i64 0, .int .u64 0, .int .i64 0, .int .u64 0, .int .i64 0, .int .i64 0, .int .u64 0, .int .i64 0, .int .u64 0, .bool sf] 46) = W at *
  generalize hSn : w6.heap.size = Q at Sb ⊢
  clear hSn
  obtain ⟨va, vc, rfl, -, -⟩ := SL.out.shape
  generalize hn : l.length = n at SL HP HCL hl ⊢
  replace hn := hide hn
  generalize hP : pl low l = P at *
  replace hP := hide hP
  generalize hC : cnt l low high = c at *
  replace hC := hide hC
  replace HP := hide HP
  replace HCL := hide HCL
  go_loopw [13, 14] (fun cn i wr => ∃ j N : Nat, j ≤ n ∧ i = .int .i64 (j : Int) ∧ cn = .int .i64 (N : Int) ∧ N ≤ 1000 ∧ Hid (N = min (j - P) c) ∧ Hid (Below W.heap.size W wr)) (fun _ i _ => n - (intOf i).toNat)
  case atStart => exact ⟨0, 0, by omega, rfl, rfl, by omega, by simp [Hid], Below.refl _ _⟩
  case round =>
    obtain ⟨j, N, hj, rfl, rfl, hN1, HN, BW⟩ := hrel
    have hNn : N ≤ n := by have := HN.out; omega
    have y0 := (Rb.out.below BW.out).cell 0
    have y1 := (Rb.out.below BW.out).cell 1
    have z0 := (Sb.out.below BW.out).cell 0
    have z3 := (Sb.out.below BW.out).cell 3
    simp at y0 y1 z0 z3
    by_cases hlt : j < n
    · have hjl : j < l.length := by rw [hn.out]; exact hlt
      obtain ⟨g, o, cc, ev, -, -, h2, h3⟩ := (SL.out.below BW.out).cells j hjl
      injection ev with ev el ec
      clear el
      subst ev ec
      have hlow : Hid (low ≤ l[j].k ↔ P ≤ j) := by have := low_iff HOK.out low j hjl; rwa [hP.out] at this
      have hhigh : Hid (P ≤ j → (l[j].k ≤ high ↔ j < P + c)) := fun hp => by have := high_iff HOK.out low high j hjl (by rw [hP.out]; exact hp); rwa [hP.out, hC.out] at this
      have FC2 : Hid (P ≤ j → re = 0 ∧ rk ≤ l[j].k) := fun hp => FC.out j hjl hp
      have RL := hide ((SL.out.below BW.out).2 _ (List.getElem_mem hjl))
      have FI : Hid (P ≤ j → j < P + c → ¬64 < c → N < sil.length ∧ ∀ h : N < sil.length, sil[N].k = l[j].k ∧ sil[N].bs = l[j].bs) := fun h1 h2 h3 => by
        rcases FR.out with ⟨h4, -⟩ | ⟨-, -, h4⟩
        · exact absurd h4 h3
        have h5 := range_at (l := l) (il := sil) (low := low) (high := high) (by rw [hP.out, hC.out]; exact h4)
        rw [hP.out, hC.out] at h5
        have hNe : N = j - P := by have := HN.out; omega
        subst hNe
        exact ⟨by omega, fun h => h5.2 j hjl h1 h2 h⟩
      generalize hx : l[j].k = x at *
      replace hx := hide hx
      by_cases ha : P ≤ j
      rotate_left
      · have hxl : x < low := Int.lt_of_not_ge (fun h => ha (hlow.out.1 h))
        have hd : decide (low ≤ x) = false := by simp; omega
        have hd2 : decide (x < low) = true := by simp; omega
        go_wp2
        exact ⟨⟨j + 1, N, by omega, by simp, rfl, hN1, by have := HN.out; show _ = _; omega, BW.out⟩, by simp [intOf]; omega⟩
      obtain ⟨hre, hrk⟩ := FC2.out ha
      have hxl : low ≤ x := hlow.out.2 ha
      have hd : decide (low ≤ x) = true := by simp; omega
      have hd2 : decide (x < low) = false := by simp; omega
      have hd3 : decide (x < rk) = false := by simp; omega
      subst hre
      by_cases hb : j < P + c
      rotate_left
      · have hxh : high < x := Int.lt_of_not_ge (fun h => hb ((hhigh.out ha).1 h))
        have hd4 : decide (high < x) = true := by simp; omega
        go_wp2
        exact ⟨⟨j + 1, N, by omega, by simp, rfl, hN1, by have := HN.out; show _ = _; omega, BW.out⟩, by simp [intOf]; omega⟩
      have hxh : x ≤ high := (hhigh.out ha).2 hb
      have hd4 : decide (high < x) = false := by simp; omega
      have HN2 : Hid (N + 1 = min (j + 1 - P) c) := by have := HN.out; show _ = _; omega
      by_cases hc : 64 < c
      · have hse : se = 102 := by
          rcases FR.out with ⟨-, h⟩ | ⟨h, -, -⟩
          · exact h
          · exact absurd hc h
        subst hse
        go_wp2
        refine regionL 36 (fun w' => w'.cell? ⟨Q, 0, none⟩ = some (.int .i64 102)) mixed z0 (fun hHeld => ?_)
        refine pickA (v := ?_) 0 (some 81) rfl rfl (by kernel_rfl) (by kernel_rfl) (by kernel_rfl) (by decide) (fun _ _ _ h => h) (by rfl) ?_ (by assumption) ?_
        rotate_left
        · intro w'
          go_simp
          try with_reducible rfl
        try simp only [Act.put, List.setIfInBounds_toArray, List.set_cons_zero, List.set_cons_succ]
        refine pickL (v := ?_) 1 (some 82) rfl rfl (by kernel_rfl) (by kernel_rfl) (by kernel_rfl) (by decide) (by kernel_rfl) (by kernel_rfl) (fun _ _ _ h => h) (by rfl) ?_ (by assumption) ?_
        rotate_left
        · intro w' hSw
          have q0 := hSw
          go_simp
          try with_reducible rfl
        try simp only [Act.put, List.setIfInBounds_toArray, List.set_cons_zero, List.set_cons_succ]
        refine pickA (v := .bool false) 2 (some 83) rfl rfl (by kernel_rfl) (by kernel_rfl) (by kernel_rfl) (by decide) (fun _ _ _ h => h) (by rfl) ?_ (by assumption) ?_
        · intro w'
          go_simp
        try simp only [Act.put, List.setIfInBounds_toArray, List.set_cons_zero, List.set_cons_succ]
        refine pickA (v := ?_) 3 (some 84) rfl rfl (by kernel_rfl) (by kernel_rfl) (by kernel_rfl) (by decide) (fun _ _ _ h => h) (by rfl) ?_ (by assumption) ?_
        rotate_left
        · intro w'
          go_simp
          try with_reducible rfl
        try simp only [Act.put, List.setIfInBounds_toArray, List.set_cons_zero, List.set_cons_succ]
        refine pickN 4 (some 85) rfl rfl (by kernel_rfl) (by kernel_rfl) (by kernel_rfl) (by decide) (fun _ _ _ h => h) (by rfl) (by assumption) ?_
        try simp only [Act.put, List.setIfInBounds_toArray, List.set_cons_zero, List.set_cons_succ]
        refine pickN 5 (some 86) rfl rfl (by kernel_rfl) (by kernel_rfl) (by kernel_rfl) (by decide) (fun _ _ _ h => h) (by rfl) (by assumption) ?_
        try simp only [Act.put, List.setIfInBounds_toArray, List.set_cons_zero, List.set_cons_succ]
        refine pickN 6 (some 87) rfl rfl (by kernel_rfl) (by kernel_rfl) (by kernel_rfl) (by decide) (fun _ _ _ h => h) (by rfl) (by assumption) ?_
        try simp only [Act.put, List.setIfInBounds_toArray, List.set_cons_zero, List.set_cons_succ]
        refine pickN 7 (some 88) rfl rfl (by kernel_rfl) (by kernel_rfl) (by kernel_rfl) (by decide) (fun _ _ _ h => h) (by rfl) (by assumption) ?_
        try simp only [Act.put, List.setIfInBounds_toArray, List.set_cons_zero, List.set_cons_succ]
        refine pickN 8 (some 89) rfl rfl (by kernel_rfl) (by kernel_rfl) (by kernel_rfl) (by decide) (fun _ _ _ h => h) (by rfl) (by assumption) ?_
        try simp only [Act.put, List.setIfInBounds_toArray, List.set_cons_zero, List.set_cons_succ]
        refine pickN 9 (some 90) rfl rfl (by kernel_rfl) (by kernel_rfl) (by kernel_rfl) (by decide) (fun _ _ _ h => h) (by rfl) (by assumption) ?_
        try simp only [Act.put, List.setIfInBounds_toArray, List.set_cons_zero, List.set_cons_succ]
        refine pickN 10 (some 91) rfl rfl (by kernel_rfl) (by kernel_rfl) (by kernel_rfl) (by decide) (fun _ _ _ h => h) (by rfl) (by assumption) ?_
        try simp only [Act.put, List.setIfInBounds_toArray, List.set_cons_zero, List.set_cons_succ]
        refine pickN 11 (some 92) rfl rfl (by kernel_rfl) (by kernel_rfl) (by kernel_rfl) (by decide) (fun _ _ _ h => h) (by rfl) (by assumption) ?_
        try simp only [Act.put, List.setIfInBounds_toArray, List.set_cons_zero, List.set_cons_succ]
        refine pickN 12 (some 93) rfl rfl (by kernel_rfl) (by kernel_rfl) (by kernel_rfl) (by decide) (fun _ _ _ h => h) (by rfl) (by assumption) ?_
        try simp only [Act.put, List.setIfInBounds_toArray, List.set_cons_zero, List.set_cons_succ]
        refine pickN 13 (some 94) rfl rfl (by kernel_rfl) (by kernel_rfl) (by kernel_rfl) (by decide) (fun _ _ _ h => h) (by rfl) (by assumption) ?_
        try simp only [Act.put, List.setIfInBounds_toArray, List.set_cons_zero, List.set_cons_succ]
        refine pickN 14 (some 95) rfl rfl (by kernel_rfl) (by kernel_rfl) (by kernel_rfl) (by decide) (fun _ _ _ h => h) (by rfl) (by assumption) ?_
        try simp only [Act.put, List.setIfInBounds_toArray, List.set_cons_zero, List.set_cons_succ]
        refine pickN 15 (some 96) rfl rfl (by kernel_rfl) (by kernel_rfl) (by kernel_rfl) (by decide) (fun _ _ _ h => h) (by rfl) (by assumption) ?_
        try simp only [Act.put, List.setIfInBounds_toArray, List.set_cons_zero, List.set_cons_succ]
        refine pickN 16 (some 97) rfl rfl (by kernel_rfl) (by kernel_rfl) (by kernel_rfl) (by decide) (fun _ _ _ h => h) (by rfl) (by assumption) ?_
        try simp only [Act.put, List.setIfInBounds_toArray, List.set_cons_zero, List.set_cons_succ]
        refine pickN 17 (some 98) rfl rfl (by kernel_rfl) (by kernel_rfl) (by kernel_rfl) (by decide) (fun _ _ _ h => h) (by rfl) (by assumption) ?_
        try simp only [Act.put, List.setIfInBounds_toArray, List.set_cons_zero, List.set_cons_succ]
        refine pickN 18 (some 99) rfl rfl (by kernel_rfl) (by kernel_rfl) (by kernel_rfl) (by decide) (fun _ _ _ h => h) (by rfl) (by assumption) ?_
        try simp only [Act.put, List.setIfInBounds_toArray, List.set_cons_zero, List.set_cons_succ]
        refine pickN 19 (some 100) rfl rfl (by kernel_rfl) (by kernel_rfl) (by kernel_rfl) (by decide) (fun _ _ _ h => h) (by rfl) (by assumption) ?_
        try simp only [Act.put, List.setIfInBounds_toArray, List.set_cons_zero, List.set_cons_succ]
        refine pickN 20 (some 101) rfl rfl (by kernel_rfl) (by kernel_rfl) (by kernel_rfl) (by decide) (fun _ _ _ h => h) (by rfl) (by assumption) ?_
        try simp only [Act.put, List.setIfInBounds_toArray, List.set_cons_zero, List.set_cons_succ]
        refine pickN 21 (some 102) rfl rfl (by kernel_rfl) (by kernel_rfl) (by kernel_rfl) (by decide) (fun _ _ _ h => h) (by rfl) (by assumption) ?_
        try simp only [Act.put, List.setIfInBounds_toArray, List.set_cons_zero, List.set_cons_succ]
        refine pickN 22 (some 103) rfl rfl (by kernel_rfl) (by kernel_rfl) (by kernel_rfl) (by decide) (fun _ _ _ h => h) (by rfl) (by assumption) ?_
        try simp only [Act.put, List.setIfInBounds_toArray, List.set_cons_zero, List.set_cons_succ]
        refine pickN 23 (some 104) rfl rfl (by kernel_rfl) (by kernel_rfl) (by kernel_rfl) (by decide) (fun _ _ _ h => h) (by rfl) (by assumption) ?_
        try simp only [Act.put, List.setIfInBounds_toArray, List.set_cons_zero, List.set_cons_succ]
        refine pickN 24 (some 105) rfl rfl (by kernel_rfl) (by kernel_rfl) (by kernel_rfl) (by decide) (fun _ _ _ h => h) (by rfl) (by assumption) ?_
        try simp only [Act.put, List.setIfInBounds_toArray, List.set_cons_zero, List.set_cons_succ]
        refine pickN 25 (some 106) rfl rfl (by kernel_rfl) (by kernel_rfl) (by kernel_rfl) (by decide) (fun _ _ _ h => h) (by rfl) (by assumption) ?_
        try simp only [Act.put, List.setIfInBounds_toArray, List.set_cons_zero, List.set_cons_succ]
        refine pickN 26 (some 107) rfl rfl (by kernel_rfl) (by kernel_rfl) (by kernel_rfl) (by decide) (fun _ _ _ h => h) (by rfl) (by assumption) ?_
        try simp only [Act.put, List.setIfInBounds_toArray, List.set_cons_zero, List.set_cons_succ]
        refine pickN 27 (some 108) rfl rfl (by kernel_rfl) (by kernel_rfl) (by kernel_rfl) (by decide) (fun _ _ _ h => h) (by rfl) (by assumption) ?_
        try simp only [Act.put, List.setIfInBounds_toArray, List.set_cons_zero, List.set_cons_succ]
        refine pickN 28 (some 109) rfl rfl (by kernel_rfl) (by kernel_rfl) (by kernel_rfl) (by decide) (fun _ _ _ h => h) (by rfl) (by assumption) ?_
        try simp only [Act.put, List.setIfInBounds_toArray, List.set_cons_zero, List.set_cons_succ]
        refine pickN 29 (some 110) rfl rfl (by kernel_rfl) (by kernel_rfl) (by kernel_rfl) (by decide) (fun _ _ _ h => h) (by rfl) (by assumption) ?_
        try simp only [Act.put, List.setIfInBounds_toArray, List.set_cons_zero, List.set_cons_succ]
        refine pickN 30 (some 111) rfl rfl (by kernel_rfl) (by kernel_rfl) (by kernel_rfl) (by decide) (fun _ _ _ h => h) (by rfl) (by assumption) ?_
        try simp only [Act.put, List.setIfInBounds_toArray, List.set_cons_zero, List.set_cons_succ]
        refine pickN 31 (some 112) rfl rfl (by kernel_rfl) (by kernel_rfl) (by kernel_rfl) (by decide) (fun _ _ _ h => h) (by rfl) (by assumption) ?_
        try simp only [Act.put, List.setIfInBounds_toArray, List.set_cons_zero, List.set_cons_succ]
        refine pickN 32 (some 113) rfl rfl (by kernel_rfl) (by kernel_rfl) (by kernel_rfl) (by decide) (fun _ _ _ h => h) (by rfl) (by assumption) ?_
        try simp only [Act.put, List.setIfInBounds_toArray, List.set_cons_zero, List.set_cons_succ]
        refine pickN 33 (some 114) rfl rfl (by kernel_rfl) (by kernel_rfl) (by kernel_rfl) (by decide) (fun _ _ _ h => h) (by rfl) (by assumption) ?_
        try simp only [Act.put, List.setIfInBounds_toArray, List.set_cons_zero, List.set_cons_succ]
        refine pickN 34 (some 115) rfl rfl (by kernel_rfl) (by kernel_rfl) (by kernel_rfl) (by decide) (fun _ _ _ h => h) (by rfl) (by assumption) ?_
        try simp only [Act.put, List.setIfInBounds_toArray, List.set_cons_zero, List.set_cons_succ]
        refine pickA (v := ?_) 35 (some 116) rfl rfl (by kernel_rfl) (by kernel_rfl) (by kernel_rfl) (by decide) (fun _ _ _ h => h) (by rfl) ?_ (by assumption) ?_
        rotate_left
        · intro w'
          go_simp
          try with_reducible rfl
        try simp only [Act.put, List.setIfInBounds_toArray, List.set_cons_zero, List.set_cons_succ]
        refine doneL (by kernel_rfl) ?_ _
        clear hHeld
        go_wp2
        exact ⟨⟨j + 1, N + 1, by omega, by simp, by simp, by omega, HN2, BW.out.trans (((Below.refl _ wr).drew).mono BW.out.size)⟩, by simp [intOf]; omega⟩
      · have hse : se = 0 := by
          rcases FR.out with ⟨h, -⟩ | ⟨-, h, -⟩
          · exact absurd h hc
          · exact h
        subst hse
        obtain ⟨hNl, hNe⟩ := FI.out ha hb hc
        obtain ⟨hk2, hb2⟩ := hNe hNl
        obtain ⟨g2, o2, c2, ev2, -, -, k2, k3⟩ := (IL2.out.below BW.out).cells N hNl
        injection ev2 with ev2 el2 ec2
        clear el2
        subst ev2 ec2
        rw [hk2] at k2
        have hsn : N < sin := by rw [← hsin.out]; exact hNl
        have r2 := (IL2.out.below BW.out).2 _ (List.getElem_mem hNl)
        obtain ⟨T1, e1, t1⟩ := conv_S r2.1 r2.2
        obtain ⟨T2, e2, t2⟩ := conv_S RL.out.1 RL.out.2
        replace t1 := t1 wr.drew ((Below.refl _ wr).drew)
        replace t2 := t2 wr.drew ((Below.refl _ wr).drew)
        have hTe : Hid (T1.toList = T2.toList) := by show _ = _; rw [e1, e2, hb2]
        clear e1 e2 r2 hk2 hb2 hNe RL FI
        generalize sil[N].a = ia2 at *
        generalize sil[N].bs.length = in2 at *
        generalize sil[N].c = ic2 at *
        generalize l[j].a = xa at *
        generalize l[j].bs.length = xn at *
        generalize l[j].c = xc at *
        go_wp2
        refine regionL 36 (fun w' => w'.cell? ⟨Q, 0, none⟩ = some (.int .i64 0) ∧ w'.cell? ⟨Q, 3, none⟩ = some (.slice (some ⟨g2, o2, none⟩) sin sic) ∧ w'.cell? ⟨g2, o2 + N * 2, none⟩ = some (.int .u64 x) ∧ w'.cell? ⟨g2, o2 + N * 2 + 1, none⟩ = some (.slice ia2 in2 ic2) ∧ w'.cell? ⟨g, o + j * 2 + 1, none⟩ = some (.slice xa xn xc) ∧ (convert 25 9 (.slice ia2 in2 ic2)).run Try.prog w' = .ok (.string T1) w' ∧ (convert 25 9 (.slice xa xn xc)).run Try.prog w' = .ok (.string T2) w') mixed ⟨z0, z3, k2, k3, h3, t1, t2⟩ (fun hHeld => ?_)
        refine pickA (v := ?_) 0 (some 81) rfl rfl (by kernel_rfl) (by kernel_rfl) (by kernel_rfl) (by decide) (fun _ _ _ h => h) (by rfl) ?_ (by assumption) ?_
        rotate_left
        · intro w'
          go_simp
          try with_reducible rfl
        try simp only [Act.put, List.setIfInBounds_toArray, List.set_cons_zero, List.set_cons_succ]
        refine pickL (v := ?_) 1 (some 82) rfl rfl (by kernel_rfl) (by kernel_rfl) (by kernel_rfl) (by decide) (by kernel_rfl) (by kernel_rfl) (fun _ _ _ h => h) (by rfl) ?_ (by assumption) ?_
        rotate_left
        · intro w' hSw
          obtain ⟨q0, q1, q2, q3, q4, q5, q6⟩ := hSw
          go_simp
          try with_reducible rfl
        try simp only [Act.put, List.setIfInBounds_toArray, List.set_cons_zero, List.set_cons_succ]
        refine pickA (v := .bool true) 2 (some 83) rfl rfl (by kernel_rfl) (by kernel_rfl) (by kernel_rfl) (by decide) (fun _ _ _ h => h) (by rfl) ?_ (by assumption) ?_
        · intro w'
          go_simp
        try simp only [Act.put, List.setIfInBounds_toArray, List.set_cons_zero, List.set_cons_succ]
        refine pickA (v := ?_) 3 (some 84) rfl rfl (by kernel_rfl) (by kernel_rfl) (by kernel_rfl) (by decide) (fun _ _ _ h => h) (by rfl) ?_ (by assumption) ?_
        rotate_left
        · intro w'
          go_simp
          try with_reducible rfl
        try simp only [Act.put, List.setIfInBounds_toArray, List.set_cons_zero, List.set_cons_succ]
        refine pickA (v := ?_) 4 (some 85) rfl rfl (by kernel_rfl) (by kernel_rfl) (by kernel_rfl) (by decide) (fun _ _ _ h => h) (by rfl) ?_ (by assumption) ?_
        rotate_left
        · intro w'
          go_simp
          try with_reducible rfl
        try simp only [Act.put, List.setIfInBounds_toArray, List.set_cons_zero, List.set_cons_succ]
        refine pickA (v := ?_) 5 (some 86) rfl rfl (by kernel_rfl) (by kernel_rfl) (by kernel_rfl) (by decide) (fun _ _ _ h => h) (by rfl) ?_ (by assumption) ?_
        rotate_left
        · intro w'
          go_simp
          try with_reducible rfl
        try simp only [Act.put, List.setIfInBounds_toArray, List.set_cons_zero, List.set_cons_succ]
        refine pickL (v := ?_) 6 (some 87) rfl rfl (by kernel_rfl) (by kernel_rfl) (by kernel_rfl) (by decide) (by kernel_rfl) (by kernel_rfl) (fun _ _ _ h => h) (by rfl) ?_ (by assumption) ?_
        rotate_left
        · intro w' hSw
          obtain ⟨q0, q1, q2, q3, q4, q5, q6⟩ := hSw
          go_simp
          try with_reducible rfl
        try simp only [Act.put, List.setIfInBounds_toArray, List.set_cons_zero, List.set_cons_succ]
        refine pickA (v := ?_) 7 (some 88) rfl rfl (by kernel_rfl) (by kernel_rfl) (by kernel_rfl) (by decide) (fun _ _ _ h => h) (by rfl) ?_ (by assumption) ?_
        rotate_left
        · intro w'
          go_simp
          try with_reducible rfl
        try simp only [Act.put, List.setIfInBounds_toArray, List.set_cons_zero, List.set_cons_succ]
        refine pickA (v := .bool false) 8 (some 89) rfl rfl (by kernel_rfl) (by kernel_rfl) (by kernel_rfl) (by decide) (fun _ _ _ h => h) (by rfl) ?_ (by assumption) ?_
        · intro w'
          go_simp
          all_goals (simp; omega)
        try simp only [Act.put, List.setIfInBounds_toArray, List.set_cons_zero, List.set_cons_succ]
        refine pickA (v := ?_) 9 (some 90) rfl rfl (by kernel_rfl) (by kernel_rfl) (by kernel_rfl) (by decide) (fun _ _ _ h => h) (by rfl) ?_ (by assumption) ?_
        rotate_left
        · intro w'
          go_simp
          try with_reducible rfl
        try simp only [Act.put, List.setIfInBounds_toArray, List.set_cons_zero, List.set_cons_succ]
        refine pickA (v := ?_) 10 (some 91) rfl rfl (by kernel_rfl) (by kernel_rfl) (by kernel_rfl) (by decide) (fun _ _ _ h => h) (by rfl) ?_ (by assumption) ?_
        rotate_left
        · intro w'
          go_simp
          try with_reducible rfl
        try simp only [Act.put, List.setIfInBounds_toArray, List.set_cons_zero, List.set_cons_succ]
        refine pickL (v := ?_) 11 (some 92) rfl rfl (by kernel_rfl) (by kernel_rfl) (by kernel_rfl) (by decide) (by kernel_rfl) (by kernel_rfl) (fun _ _ _ h => h) (by rfl) ?_ (by assumption) ?_
        rotate_left
        · intro w' hSw
          obtain ⟨q0, q1, q2, q3, q4, q5, q6⟩ := hSw
          go_simp
          try with_reducible rfl
        try simp only [Act.put, List.setIfInBounds_toArray, List.set_cons_zero, List.set_cons_succ]
        refine pickA (v := ?_) 12 (some 93) rfl rfl (by kernel_rfl) (by kernel_rfl) (by kernel_rfl) (by decide) (fun _ _ _ h => h) (by rfl) ?_ (by assumption) ?_
        rotate_left
        · intro w'
          go_simp
          try with_reducible rfl
        try simp only [Act.put, List.setIfInBounds_toArray, List.set_cons_zero, List.set_cons_succ]
        refine pickA (v := ?_) 13 (some 94) rfl rfl (by kernel_rfl) (by kernel_rfl) (by kernel_rfl) (by decide) (fun _ _ _ h => h) (by rfl) ?_ (by assumption) ?_
        rotate_left
        · intro w'
          go_simp
          try with_reducible rfl
        try simp only [Act.put, List.setIfInBounds_toArray, List.set_cons_zero, List.set_cons_succ]
        refine pickA (v := ?_) 14 (some 95) rfl rfl (by kernel_rfl) (by kernel_rfl) (by kernel_rfl) (by decide) (fun _ _ _ h => h) (by rfl) ?_ (by assumption) ?_
        rotate_left
        · intro w'
          go_simp
          try with_reducible rfl
        try simp only [Act.put, List.setIfInBounds_toArray, List.set_cons_zero, List.set_cons_succ]
        refine pickL (v := ?_) 15 (some 96) rfl rfl (by kernel_rfl) (by kernel_rfl) (by kernel_rfl) (by decide) (by kernel_rfl) (by kernel_rfl) (fun _ _ _ h => h) (by rfl) ?_ (by assumption) ?_
        rotate_left
        · intro w' hSw
          obtain ⟨q0, q1, q2, q3, q4, q5, q6⟩ := hSw
          go_simp
          try with_reducible rfl
        try simp only [Act.put, List.setIfInBounds_toArray, List.set_cons_zero, List.set_cons_succ]
        refine pickA (v := ?_) 16 (some 97) rfl rfl (by kernel_rfl) (by kernel_rfl) (by kernel_rfl) (by decide) (fun _ _ _ h => h) (by rfl) ?_ (by assumption) ?_
        rotate_left
        · intro w'
          go_simp
          try with_reducible rfl
        try simp only [Act.put, List.setIfInBounds_toArray, List.set_cons_zero, List.set_cons_succ]
        refine pickA (v := .bool false) 17 (some 98) rfl rfl (by kernel_rfl) (by kernel_rfl) (by kernel_rfl) (by decide) (fun _ _ _ h => h) (by rfl) ?_ (by assumption) ?_
        · intro w'
          go_simp
          all_goals simp
        try simp only [Act.put, List.setIfInBounds_toArray, List.set_cons_zero, List.set_cons_succ]
        refine pickA (v := ?_) 18 (some 99) rfl rfl (by kernel_rfl) (by kernel_rfl) (by kernel_rfl) (by decide) (fun _ _ _ h => h) (by rfl) ?_ (by assumption) ?_
        rotate_left
        · intro w'
          go_simp
          try with_reducible rfl
        try simp only [Act.put, List.setIfInBounds_toArray, List.set_cons_zero, List.set_cons_succ]
        refine pickA (v := ?_) 19 (some 100) rfl rfl (by kernel_rfl) (by kernel_rfl) (by kernel_rfl) (by decide) (fun _ _ _ h => h) (by rfl) ?_ (by assumption) ?_
        rotate_left
        · intro w'
          go_simp
          try with_reducible rfl
        try simp only [Act.put, List.setIfInBounds_toArray, List.set_cons_zero, List.set_cons_succ]
        refine pickA (v := ?_) 20 (some 101) rfl rfl (by kernel_rfl) (by kernel_rfl) (by kernel_rfl) (by decide) (fun _ _ _ h => h) (by rfl) ?_ (by assumption) ?_
        rotate_left
        · intro w'
          go_simp
          try with_reducible rfl
        try simp only [Act.put, List.setIfInBounds_toArray, List.set_cons_zero, List.set_cons_succ]
        refine pickL (v := ?_) 21 (some 102) rfl rfl (by kernel_rfl) (by kernel_rfl) (by kernel_rfl) (by decide) (by kernel_rfl) (by kernel_rfl) (fun _ _ _ h => h) (by rfl) ?_ (by assumption) ?_
        rotate_left
        · intro w' hSw
          obtain ⟨q0, q1, q2, q3, q4, q5, q6⟩ := hSw
          go_simp
          try with_reducible rfl
        try simp only [Act.put, List.setIfInBounds_toArray, List.set_cons_zero, List.set_cons_succ]
        refine pickA (v := ?_) 22 (some 103) rfl rfl (by kernel_rfl) (by kernel_rfl) (by kernel_rfl) (by decide) (fun _ _ _ h => h) (by rfl) ?_ (by assumption) ?_
        rotate_left
        · intro w'
          go_simp
          try with_reducible rfl
        try simp only [Act.put, List.setIfInBounds_toArray, List.set_cons_zero, List.set_cons_succ]
        refine pickA (v := ?_) 23 (some 104) rfl rfl (by kernel_rfl) (by kernel_rfl) (by kernel_rfl) (by decide) (fun _ _ _ h => h) (by rfl) ?_ (by assumption) ?_
        rotate_left
        · intro w'
          go_simp
          try with_reducible rfl
        try simp only [Act.put, List.setIfInBounds_toArray, List.set_cons_zero, List.set_cons_succ]
        refine pickA (v := ?_) 24 (some 105) rfl rfl (by kernel_rfl) (by kernel_rfl) (by kernel_rfl) (by decide) (fun _ _ _ h => h) (by rfl) ?_ (by assumption) ?_
        rotate_left
        · intro w'
          go_simp
          try with_reducible rfl
        try simp only [Act.put, List.setIfInBounds_toArray, List.set_cons_zero, List.set_cons_succ]
        refine pickL (v := ?_) 25 (some 106) rfl rfl (by kernel_rfl) (by kernel_rfl) (by kernel_rfl) (by decide) (by kernel_rfl) (by kernel_rfl) (fun _ _ _ h => h) (by rfl) ?_ (by assumption) ?_
        rotate_left
        · intro w' hSw
          obtain ⟨q0, q1, q2, q3, q4, q5, q6⟩ := hSw
          go_simp
          try with_reducible rfl
        try simp only [Act.put, List.setIfInBounds_toArray, List.set_cons_zero, List.set_cons_succ]
        refine pickL (v := ?_) 26 (some 107) rfl rfl (by kernel_rfl) (by kernel_rfl) (by kernel_rfl) (by decide) (by kernel_rfl) (by kernel_rfl) (fun _ _ _ h => h) (by rfl) ?_ (by assumption) ?_
        rotate_left
        · intro w' hSw
          obtain ⟨q0, q1, q2, q3, q4, q5, q6⟩ := hSw
          go_simp
          try with_reducible rfl
        try simp only [Act.put, List.setIfInBounds_toArray, List.set_cons_zero, List.set_cons_succ]
        refine pickA (v := ?_) 27 (some 108) rfl rfl (by kernel_rfl) (by kernel_rfl) (by kernel_rfl) (by decide) (fun _ _ _ h => h) (by rfl) ?_ (by assumption) ?_
        rotate_left
        · intro w'
          go_simp
          try with_reducible rfl
        try simp only [Act.put, List.setIfInBounds_toArray, List.set_cons_zero, List.set_cons_succ]
        refine pickA (v := ?_) 28 (some 109) rfl rfl (by kernel_rfl) (by kernel_rfl) (by kernel_rfl) (by decide) (fun _ _ _ h => h) (by rfl) ?_ (by assumption) ?_
        rotate_left
        · intro w'
          go_simp
          try with_reducible rfl
        try simp only [Act.put, List.setIfInBounds_toArray, List.set_cons_zero, List.set_cons_succ]
        refine pickA (v := ?_) 29 (some 110) rfl rfl (by kernel_rfl) (by kernel_rfl) (by kernel_rfl) (by decide) (fun _ _ _ h => h) (by rfl) ?_ (by assumption) ?_
        rotate_left
        · intro w'
          go_simp
          try with_reducible rfl
        try simp only [Act.put, List.setIfInBounds_toArray, List.set_cons_zero, List.set_cons_succ]
        refine pickA (v := ?_) 30 (some 111) rfl rfl (by kernel_rfl) (by kernel_rfl) (by kernel_rfl) (by decide) (fun _ _ _ h => h) (by rfl) ?_ (by assumption) ?_
        rotate_left
        · intro w'
          go_simp
          try with_reducible rfl
        try simp only [Act.put, List.setIfInBounds_toArray, List.set_cons_zero, List.set_cons_succ]
        refine pickL (v := ?_) 31 (some 112) rfl rfl (by kernel_rfl) (by kernel_rfl) (by kernel_rfl) (by decide) (by kernel_rfl) (by kernel_rfl) (fun _ _ _ h => h) (by rfl) ?_ (by assumption) ?_
        rotate_left
        · intro w' hSw
          obtain ⟨q0, q1, q2, q3, q4, q5, q6⟩ := hSw
          go_simp
          try with_reducible rfl
        try simp only [Act.put, List.setIfInBounds_toArray, List.set_cons_zero, List.set_cons_succ]
        refine pickL (v := ?_) 32 (some 113) rfl rfl (by kernel_rfl) (by kernel_rfl) (by kernel_rfl) (by decide) (by kernel_rfl) (by kernel_rfl) (fun _ _ _ h => h) (by rfl) ?_ (by assumption) ?_
        rotate_left
        · intro w' hSw
          obtain ⟨q0, q1, q2, q3, q4, q5, q6⟩ := hSw
          go_simp
          try with_reducible rfl
        try simp only [Act.put, List.setIfInBounds_toArray, List.set_cons_zero, List.set_cons_succ]
        refine pickA (v := .bool false) 33 (some 114) rfl rfl (by kernel_rfl) (by kernel_rfl) (by kernel_rfl) (by decide) (fun _ _ _ h => h) (by rfl) ?_ (by assumption) ?_
        · intro w'
          go_simp
          all_goals (have hz := hTe.out; first | exact hz | simp [hz])
        try simp only [Act.put, List.setIfInBounds_toArray, List.set_cons_zero, List.set_cons_succ]
        refine pickA (v := ?_) 34 (some 115) rfl rfl (by kernel_rfl) (by kernel_rfl) (by kernel_rfl) (by decide) (fun _ _ _ h => h) (by rfl) ?_ (by assumption) ?_
        rotate_left
        · intro w'
          go_simp
          try with_reducible rfl
        try simp only [Act.put, List.setIfInBounds_toArray, List.set_cons_zero, List.set_cons_succ]
        refine pickA (v := ?_) 35 (some 116) rfl rfl (by kernel_rfl) (by kernel_rfl) (by kernel_rfl) (by decide) (fun _ _ _ h => h) (by rfl) ?_ (by assumption) ?_
        rotate_left
        · intro w'
          go_simp
          try with_reducible rfl
        try simp only [Act.put, List.setIfInBounds_toArray, List.set_cons_zero, List.set_cons_succ]
        refine doneL (by kernel_rfl) ?_ _
        clear hHeld
        go_wp2
        exact ⟨⟨j + 1, N + 1, by omega, by simp, by simp, by omega, HN2, BW.out.trans (((Below.refl _ wr).drew).mono BW.out.size)⟩, by simp [intOf]; omega⟩
    · obtain rfl : j = n := by omega
      have hNc : N = c := by have h1 := HN.out; have h2 := HCL.out; have h3 := HP.out; omega
      clear HN
      subst hNc
      have SLr := hide (SL.out.below BW.out)
      have ILr := hide (IL2.out.below BW.out)
      have B9 := hide (B.out.trans (BW.out.mono B.out.size))
      have y2 := (Rb.out.below BW.out).cell 2
      have y14 := (Rb.out.below BW.out).cell 14
      simp at y2 y14
      have RK := hide (rkey_any _ l (by rw [hn.out]; omega) rk wr SLr.out)
      obtain ⟨ka, kc, hkv, kr, kn⟩ := kV_form SLr.out rk
      obtain ⟨T1, e1, t1⟩ := conv_S kr kn
      rw [hkv] at RK
      obtain ⟨T2, e2, t2⟩ := conv_S ((BY1.out.rd).below BW.out) BN1.out
      replace t1 := t1 wr (Below.refl _ _)
      replace t2 := t2 wr (Below.refl _ _)
      rw [hrvn.out] at t2
      have FK : Hid ((re = 0 ∧ kB rk l = true ∧ T1.toList = T2.toList ∧ rf = true ∧ low ≤ rk) ∨ re = 101) := by
        by_cases hq : P < j
        · left
          have h1 : pl low l < l.length := by rw [hP.out, hn.out]; exact hq
          have h2 := hv1.out
          rw [ceil_yes h1] at h2
          injection h2 with h3 h4
          injection h4 with h4 h5
          injection h5 with h5 h6
          injection h6 with _ h6
          have hkf := kfind_pl HOK.out low h1
          rw [← h4] at hkf
          refine ⟨h3, by unfold kB; rw [hkf]; rfl, ?_, h6, ?_⟩
          · rw [e1, e2, h5]
            unfold kS
            rw [hkf]
          · rw [h4]
            exact (low_iff HOK.out low _ h1).2 (Nat.le_refl _)
        · right
          have h1 : ¬pl low l < l.length := by rw [hP.out, hn.out]; exact hq
          have h2 := hv1.out
          rw [ceil_no h1] at h2
          injection h2 with h3 _
      have FL : Hid ((64 < N ∧ se = 102) ∨ (¬64 < N ∧ se = 0 ∧ sin = N)) := by
        rcases FR.out with ⟨h1, h2⟩ | ⟨h1, h2, h3⟩
        · exact Or.inl ⟨h1, h2⟩
        · have h5 := range_at (l := l) (il := sil) (low := low) (high := high) (by rw [hP.out, hC.out]; exact h3)
          rw [hC.out] at h5
          exact Or.inr ⟨h1, h2, by rw [← hsin.out]; exact h5.1⟩
      generalize kB rk l = Bk at *
      generalize (kS rk l).length = kln at *
      clear hkv kr kn e1 e2
      rcases FK.out with hk | hk
      · rcases FL.out with hf | hf
        · obtain ⟨rfl, rfl, hTe, rfl, hrl⟩ := hk
          have hd : decide (rk < low) = false := by simp; omega
          obtain ⟨h64, rfl⟩ := hf
          have hd5 : decide ((64 : Int) < (N : Int)) = true := by simp; omega
          go_wp2_with fail
          refine RK.out.mono ?_
          intro e w9 hE
          obtain ⟨rfl, hw9⟩ := hE
          subst hw9
          go_wp2
          go_ret
          exact ⟨rfl, B9.out⟩
        · obtain ⟨rfl, rfl, hTe, rfl, hrl⟩ := hk
          have hd : decide (rk < low) = false := by simp; omega
          obtain ⟨h64, rfl, rfl⟩ := hf
          have hd5 : decide ((64 : Int) < (sin : Int)) = false := by simp; omega
          go_wp2_with fail
          refine RK.out.mono ?_
          intro e w9 hE
          obtain ⟨rfl, hw9⟩ := hE
          subst hw9
          go_wp2
          go_ret
          exact ⟨rfl, B9.out⟩
      · rcases FL.out with hf | hf
        · subst hk
          obtain ⟨h64, rfl⟩ := hf
          have hd5 : decide ((64 : Int) < (N : Int)) = true := by simp; omega
          go_wp2_with fail
          refine RK.out.mono ?_
          intro e w9 hE
          obtain ⟨rfl, hw9⟩ := hE
          subst hw9
          go_wp2
          go_ret
          exact ⟨rfl, B9.out⟩
        · subst hk
          obtain ⟨h64, rfl, rfl⟩ := hf
          have hd5 : decide ((64 : Int) < (sin : Int)) = false := by simp; omega
          go_wp2_with fail
          refine RK.out.mono ?_
          intro e w9 hE
          obtain ⟨rfl, hw9⟩ := hE
          subst hw9
          go_wp2
          go_ret
          exact ⟨rfl, B9.out⟩

end Go.Proofs.Ytjcchejcbphjnaa
