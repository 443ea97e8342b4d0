/- Package net: Put. -/
import Derived.Test.YtoinjmddmahpkaaNK
namespace Go.Proofs.Ytoinjmddmahpkaa
open Go.RowKit Go.Maps

set_option maxHeartbeats 2000000 in
set_option maxRecDepth 100000 in
theorem put_bad (b m : Nat) (v : Value) (ps : List Pc) (c : Cnt) (k : Nat) (w : World) (h : NS w b m v ps c k) (fa : Bool) (fn : Int) (ta : Bool) (tn : Int) (a : Option Addr) (len cap : Nat) (hp : okP fn tn len = false) :
    Calls Try.prog 17 #[.pointer (some ⟨b, 0, none⟩), .agg #[.bool fa, .int .i64 fn, .bool ta, .int .i64 tn, .slice a len cap]] w fun e w' => e = .returned (.int .i64 50) ∧ Below w.heap.size w w' := by
  have h2 := hide (h.below ((Below.refl _ w).alloc (Nat.le_refl _) (.cells #[.bool fa, .int .i64 fn, .bool ta, .int .i64 tn, .slice a len cap] 35)))
  clear h
  go_enter Try.func17, Try.ntmps17
  go_wp2_with fail
  refine (made_yes b m _ _ h2.out.blk).mono ?_; rintro e w1 ⟨rfl, rfl⟩
  go_wp2_with fail
  refine (mayBe_any fa fn ta tn a len cap _).mono ?_; rintro e w2 ⟨rfl, hb⟩
  rw [hp]
  have HB := hide (((Below.refl _ w).alloc (Nat.le_refl _) _).trans (hb.mono (by simp)))
  clear hb h2
  go_wp2
  go_ret
  exact ⟨rfl, HB.out⟩

set_option maxHeartbeats 2000000 in
set_option maxRecDepth 100000 in
theorem put_full (b m : Nat) (v : Value) (ps : List Pc) (c : Cnt) (k : Nat) (hk : k < 1000000) (w : World) (h : NS w b m v ps c k) (fa : Bool) (fn : Int) (ta : Bool) (tn : Int) (a : Option Addr) (len cap : Nat) (hp : okP fn tn len = true) (hl : ps.length = 4096) :
    Calls Try.prog 17 #[.pointer (some ⟨b, 0, none⟩), .agg #[.bool fa, .int .i64 fn, .bool ta, .int .i64 tn, .slice a len cap]] w fun e w' => e = .returned (.int .i64 3) ∧ Nx w w' b m v v ps { c with r := c.r + 1 } (k + 1) := by
  have h2 := hide (h.below ((Below.refl _ w).alloc (Nat.le_refl _) (.cells #[.bool fa, .int .i64 fn, .bool ta, .int .i64 tn, .slice a len cap] 35)))
  replace h := hide h
  have hl := hide hl
  obtain ⟨va, vc, rfl, -, -⟩ := h.out.row.row.shape
  go_enter Try.func17, Try.ntmps17
  go_wp2_with fail
  refine (made_yes b m _ _ h2.out.blk).mono ?_; rintro e w1 ⟨rfl, rfl⟩
  go_wp2_with fail
  refine (mayBe_any fa fn ta tn a len cap _).mono ?_; rintro e w2 ⟨rfl, hb⟩
  rw [hp]
  have HB := ((Below.refl _ w).alloc (Nat.le_refl _) (.cells #[.bool fa, .int .i64 fn, .bool ta, .int .i64 tn, .slice a len cap] 35)).trans (hb.mono (by simp))
  have N2 := h2.out.below hb
  have X2 := h.out.nx HB
  have hb0 := N2.blk.cell 0
  have hb1 := N2.blk.cell 1
  simp at hb0 hb1
  rw [hl.out] at hb0
  have hlk := N2.map.look.2.2.2
  have q0 := N2.c0.2.2.2
  have q1 := N2.c1.2.2.2
  obtain ⟨w4, hrun, hM4, hg4⟩ := N2.map.put3 (by omega) (c.r + 1) (by omega) (by omega)
  have X4 := hide (X2.trans (N2.counted hM4 hg4 ⟨N2.c0.1, N2.c0.2.1, N2.c0.2.2.1, by simp only []; omega⟩ ⟨by have := N2.c1.1; simp only []; omega, by have := N2.c1.2.1; simp only []; omega, by have := N2.c1.2.2.1; simp only []; omega, by simp only []; omega⟩))
  clear N2 X2 HB hb h2 hM4 hg4
  generalize hcr : c.r = cr at *
  replace hcr := hide hcr
  go_wp2
  go_ret
  rw [hcr.out]
  exact ⟨rfl, X4.out⟩

set_option maxHeartbeats 8000000 in
set_option maxRecDepth 100000 in
theorem put_ok (b m : Nat) (v : Value) (ps : List Pc) (c : Cnt) (k : Nat) (hk : k < 1000000) (w : World) (h : NS w b m v ps c k) (fa : Bool) (fn : Int) (ta : Bool) (tn : Int) (a : Option Addr) (cap : Nat) (bs : List Int) (hp : okP fn tn bs.length = true) (hl : ps.length < 4096) (hnil : a = none → cap = 0) (hrd : Rd8 w a bs) :
    Calls Try.prog 17 #[.pointer (some ⟨b, 0, none⟩), .agg #[.bool fa, .int .i64 fn, .bool ta, .int .i64 tn, .slice a bs.length cap]] w fun e w' => e = .returned (.int .i64 0) ∧ ∃ v' a' c', Nx w w' b m v v' (ps ++ [⟨fa, fn, ta, tn, a', c', bs⟩]) { c with p := c.p + 1 } (k + 1) ∧ (∀ ad, a' = some ad → w.heap.size ≤ ad.block) := by
  have mixed : Try.prog.follows .mixedOrders = true := by kernel_rfl
  have hbs : bs.length ≤ 262144 := by
    unfold okP at hp
    simp at hp
    omega
  have h2 := hide (h.below ((Below.refl _ w).alloc (Nat.le_refl _) (.cells #[.bool fa, .int .i64 fn, .bool ta, .int .i64 tn, .slice a bs.length cap] 35)))
  have I2 := hide (IsB.new w #[.bool fa, .int .i64 fn, .bool ta, .int .i64 tn, .slice a bs.length cap] 35)
  replace h := hide h
  replace hnil := hide hnil
  replace hrd := hide hrd
  obtain ⟨va, vc, rfl, -, -⟩ := h.out.row.row.shape
  generalize hn : ps.length = n at *
  replace hn := hide hn
  go_enter Try.func17, Try.ntmps17
  go_wp2_with fail
  refine (made_yes b m _ _ h2.out.blk).mono ?_; rintro e w1 ⟨rfl, rfl⟩
  go_wp2_with fail
  refine (mayBe_any fa fn ta tn a bs.length cap _).mono ?_; rintro e w2 ⟨rfl, hb⟩
  rw [hp]
  have HB := hide (((Below.refl _ w).alloc (Nat.le_refl _) (.cells #[.bool fa, .int .i64 fn, .bool ta, .int .i64 tn, .slice a bs.length cap] 35)).trans (hb.mono (by simp)))
  have H2 := hide (h2.out.below hb)
  have J2 := hide (I2.out.below hb)
  have hrd2 : Hid (Rd8 w2.drew a bs) := ((hrd.out.below ((Below.refl _ w).alloc (Nat.le_refl _) (.cells #[.bool fa, .int .i64 fn, .bool ta, .int .i64 tn, .slice a bs.length cap] 35))).below hb).below ((Below.refl _ w2).drew)
  have hb0 := H2.out.blk.cell 0
  simp at hb0
  clear h2 hb I2
  go_wp2
  generalize hH : w.heap.size = H at *
  have hKeep : Hid (∀ W, Kp [] w2.drew W → (fun w' => w'.cell? ⟨b, 0, none⟩ = some (.slice va n vc) ∧ w'.cell? ⟨H, 0, none⟩ = some (.bool fa) ∧ w'.cell? ⟨H, 1, none⟩ = some (.int .i64 fn) ∧ w'.cell? ⟨H, 2, none⟩ = some (.bool ta) ∧ w'.cell? ⟨H, 3, none⟩ = some (.int .i64 tn) ∧ w'.cell? ⟨H, 4, none⟩ = some (.slice a bs.length cap)) W) := fun W hkW => by
    have hB := H2.out.blk.kp (((Kp.refl [] w2).drew).trans hkW (by simp)) (by simp)
    have hJ := J2.out.kp (((Kp.refl [] w2).drew).trans hkW (by simp)) (by simp)
    exact ⟨hB.cell 0, hJ.cells5⟩
  have hKeep5 : Hid (∀ W4 w5, NS W4 b m (.slice va n vc) ps c k → Kp [] w2.drew W4 → W4.grownBy w5 (Value.slice va n vc).ownBlock → (fun w' => w'.cell? ⟨b, 0, none⟩ = some (.slice va n vc) ∧ w'.cell? ⟨H, 0, none⟩ = some (.bool fa) ∧ w'.cell? ⟨H, 1, none⟩ = some (.int .i64 fn) ∧ w'.cell? ⟨H, 2, none⟩ = some (.bool ta) ∧ w'.cell? ⟨H, 3, none⟩ = some (.int .i64 tn) ∧ w'.cell? ⟨H, 4, none⟩ = some (.slice a bs.length cap)) w5) := fun W4 w5 hN hkW hg => by
    have hB := H2.out.blk.kp (((Kp.refl [] w2).drew).trans hkW (by simp)) (by simp)
    have hJ := J2.out.kp (((Kp.refl [] w2).drew).trans hkW (by simp)) (by simp)
    have hbv : some b ≠ (Value.slice va n vc).ownBlock := fun e => by
      obtain ⟨-, cur, hc⟩ := hN.row.row.lt b e.symm
      have := hN.blk
      unfold IsB at this
      rw [hc] at this
      injection this with this
      injection this with _ this
      cases this
    have hHv : some H ≠ (Value.slice va n vc).ownBlock := fun e => by
      have h1 := (h.out.row.row.lt H e.symm).1
      omega
    exact ⟨(hB.grown hg hbv).cell 0, (hJ.grown hg hHv).cells5⟩
  have HS0 := hide (hKeep.out w2.drew (Kp.refl _ _))
  clear hb0
  refine regionL 11 (fun w' => w'.cell? ⟨b, 0, none⟩ = some (.slice va n vc) ∧ w'.cell? ⟨H, 0, none⟩ = some (.bool fa) ∧ w'.cell? ⟨H, 1, none⟩ = some (.int .i64 fn) ∧ w'.cell? ⟨H, 2, none⟩ = some (.bool ta) ∧ w'.cell? ⟨H, 3, none⟩ = some (.int .i64 tn) ∧ w'.cell? ⟨H, 4, none⟩ = some (.slice a bs.length cap)) mixed HS0.out (fun hHeld => ?_)
  refine pickA (v := ?_) 0 (some 23) rfl rfl (by kernel_rfl) (by kernel_rfl) (by kernel_rfl) (by decide) (fun _ _ _ h => h) (by rfl) ?_ (by assumption) ?_
  rotate_left
  · intro w'
    go_simp
    try with_reducible rfl
  try simp only [Act.put, List.setIfInBounds_toArray, List.set_cons_zero, List.set_cons_succ]
  refine pickA (v := ?_) 1 (some 24) rfl rfl (by kernel_rfl) (by kernel_rfl) (by kernel_rfl) (by decide) (fun _ _ _ h => h) (by rfl) ?_ (by assumption) ?_
  rotate_left
  · intro w'
    go_simp
    try with_reducible rfl
  try simp only [Act.put, List.setIfInBounds_toArray, List.set_cons_zero, List.set_cons_succ]
  refine pickA (v := ?_) 2 (some 25) rfl rfl (by kernel_rfl) (by kernel_rfl) (by kernel_rfl) (by decide) (fun _ _ _ h => h) (by rfl) ?_ (by assumption) ?_
  rotate_left
  · intro w'
    go_simp
    try with_reducible rfl
  try simp only [Act.put, List.setIfInBounds_toArray, List.set_cons_zero, List.set_cons_succ]
  refine pickA (v := ?_) 3 (some 26) rfl rfl (by kernel_rfl) (by kernel_rfl) (by kernel_rfl) (by decide) (fun _ _ _ h => h) (by rfl) ?_ (by assumption) ?_
  rotate_left
  · intro w'
    go_simp
    try with_reducible rfl
  try simp only [Act.put, List.setIfInBounds_toArray, List.set_cons_zero, List.set_cons_succ]
  refine pickL (v := ?_) 4 (some 27) rfl rfl (by kernel_rfl) (by kernel_rfl) (by kernel_rfl) (by decide) (by kernel_rfl) (by kernel_rfl) (fun _ _ _ h => h) (by rfl) ?_ (by assumption) ?_
  rotate_left
  · intro w' hSw
    obtain ⟨q0, q1, q2, q3, q4, q5⟩ := hSw
    go_simp
    try with_reducible rfl
  try simp only [Act.put, List.setIfInBounds_toArray, List.set_cons_zero, List.set_cons_succ]
  refine pickL (v := ?_) 5 (some 28) rfl rfl (by kernel_rfl) (by kernel_rfl) (by kernel_rfl) (by decide) (by kernel_rfl) (by kernel_rfl) (fun _ _ _ h => h) (by rfl) ?_ (by assumption) ?_
  rotate_left
  · intro w' hSw
    obtain ⟨q0, q1, q2, q3, q4, q5⟩ := hSw
    go_simp
    try with_reducible rfl
  try simp only [Act.put, List.setIfInBounds_toArray, List.set_cons_zero, List.set_cons_succ]
  refine oneL (i := 6) (by kernel_rfl) rfl (fun K hK => ?_)
  go_simp
  refine (own_any fa fn ta tn a cap bs hbs hnil.out w2.drew hrd2.out).mono ?_
  rintro e w3 ⟨a', c', rfl, hby, hfr, hnn, hb3⟩
  have hS3 := hide (hKeep.out w3 (Kp.of_below hb3))
  refine hK.out _ _ ?_ ?_
  · exact hS3.out
  clear hK K
  try simp only [Act.put, List.setIfInBounds_toArray, List.set_cons_zero, List.set_cons_succ]
  clear hHeld
  have hHeld := hS3.out
  refine oneL (i := 7) (by kernel_rfl) rfl (fun K hK => ?_)
  go_simp
  have bel4 := (Below.refl w3.heap.size w3).alloc (Nat.le_refl _) (.cells #[.bool fa, .int .i64 fn, .bool ta, .int .i64 tn, .slice a' bs.length c'] 35)
  have hS4 := hide (hKeep.out _ ((Kp.of_below (S := []) hb3).bel bel4))
  refine hK.out _ _ ?_ ?_
  · exact hS4.out
  clear hK K
  try simp only [Act.put, List.setIfInBounds_toArray, List.set_cons_zero, List.set_cons_succ]
  clear hHeld
  have hHeld := hS4.out
  have I4 := IsB.new w3 #[.bool fa, .int .i64 fn, .bool ta, .int .i64 tn, .slice a' bs.length c'] 35
  have N4 := hide ((((H2.out.below ((Below.refl _ w2).drew)).below hb3).below bel4))
  have hnews : ∀ j u, (pcs [(⟨fa, fn, ta, tn, a', c', bs⟩ : Pc)])[j]? = some u → (w3.alloc (.cells #[.bool fa, .int .i64 fn, .bool ta, .int .i64 tn, .slice a' bs.length c'] 35)).cell? ((⟨w3.heap.size, 0, none⟩ : Addr).add j) = some u := by
    intro j u hu
    rw [add_none, Nat.zero_add, I4.cell j]
    simp only [pcs, Pc.cs, List.flatMap_cons, List.flatMap_nil, List.append_nil] at hu
    simpa using hu
  obtain ⟨i0, hi0, hz0, hz1, hz2⟩ := info_parts Try.infoP
  obtain ⟨v', w5, hrun, hrw, hgr, hat, -⟩ := run_append_rw (P := Try.prog) (w3.alloc (.cells #[.bool fa, .int .i64 fn, .bool ta, .int .i64 tn, .slice a' bs.length c'] 35)) 26 26 35 i0 _ 5 56 Try.underlying26 hi0 hz0 hz1 hz2 rfl
    (.slice va n vc) n (pcs ps) (by have := N4.out.row.row; rw [hn.out] at this; exact this) (.slice (some ⟨w3.heap.size, 0, none⟩) 1 1) 1 (pcs [⟨fa, fn, ta, tn, a', c', bs⟩]) (by rfl) (Or.inl ⟨_, _, rfl, hnews⟩) (pcs_one _) (by unfold maxLen; omega) (by omega)
  obtain ⟨ua, uc, rfl, -, -⟩ := hrw.shape
  generalize hW4 : w3.alloc (.cells #[.bool fa, .int .i64 fn, .bool ta, .int .i64 tn, .slice a' bs.length c'] 35) = W4 at *
  have hbv : ∀ j, (Value.slice va n vc).ownBlock = some j → b ≠ j := by
    intro j hj e
    obtain ⟨-, cur, hc⟩ := N4.out.row.row.lt j hj
    have := N4.out.blk
    unfold IsB at this
    rw [e, hc] at this
    injection this with this
    injection this with _ this
    cases this
  have B5 := N4.out.blk.grown hgr (fun e => hbv b e.symm rfl)
  have c5 := B5.cell 0
  have f5 := B5.free 0
  have c51 := B5.cell 1
  simp at c5 c51
  have hS5 : Hid ((fun w' => w'.cell? ⟨b, 0, none⟩ = some (.slice va n vc) ∧ w'.cell? ⟨H, 0, none⟩ = some (.bool fa) ∧ w'.cell? ⟨H, 1, none⟩ = some (.int .i64 fn) ∧ w'.cell? ⟨H, 2, none⟩ = some (.bool ta) ∧ w'.cell? ⟨H, 3, none⟩ = some (.int .i64 tn) ∧ w'.cell? ⟨H, 4, none⟩ = some (.slice a bs.length cap)) w5) := hKeep5.out W4 w5 N4.out ((Kp.of_below (S := []) hb3).bel bel4) hgr
  have HR := hide hrun
  have HW := hide hrw
  have HG := hide hgr
  have HT := hide hat
  clear hrun hrw hgr hat hnews
  refine oneL (i := 8) (by kernel_rfl) rfl (fun K hK => ?_)
  refine step_append_eq rfl (.tmp 27) (.tmp 30) 26 rfl _ _ (.slice ua (n + 1) uc) w5 rfl rfl HR.out ?_
  refine hK.out _ _ ?_ ?_
  · exact hS5.out
  clear hK K
  try simp only [Act.put, List.setIfInBounds_toArray]
  clear hHeld
  have hHeld := hS5.out
  refine pickA (v := ?_) 9 (some 32) rfl rfl (by kernel_rfl) (by kernel_rfl) (by kernel_rfl) (by decide) (fun _ _ _ h => h) (by rfl) ?_ (by assumption) ?_
  rotate_left
  · intro w'
    go_simp
    try with_reducible rfl
  try simp only [Act.put]
  refine pickA (v := ?_) 10 (some 33) rfl rfl (by kernel_rfl) (by kernel_rfl) (by kernel_rfl) (by decide) (fun _ _ _ h => h) (by rfl) ?_ (by assumption) ?_
  rotate_left
  · intro w'
    go_simp
    try with_reducible rfl
  try simp only [Act.put]
  refine lateL (i := 11) (by kernel_rfl) rfl (by decide) (by kernel_rfl) (fun K hK => ?_)
  go_simp
  refine hK.out _ _ ?_
  clear hK K
  try simp only [Act.put]
  refine doneL (by kernel_rfl) ?_ _
  have hk6 : Kp (foot b m (.slice va n vc)) W4 (w5.setCell ⟨b, 0, none⟩ (.slice ua (n + 1) uc)) := by
    refine Kp.set (Kp.of_grown HG.out (fun q hq => Or.inl ?_)) _ _ (Or.inl (by simp [foot]))
    simp [foot, hq]
  have hKw : Kp (foot b m (.slice va n vc)) w (w5.setCell ⟨b, 0, none⟩ (.slice ua (n + 1) uc)) := by
    have h1 : Below w.heap.size w w2 := by rw [hH]; exact HB.out
    exact ((((Kp.of_below h1).drew).bel hb3).bel bel4).trans hk6 (fun j hj => Or.inl hj)
  have hvb : ∀ q, (Value.slice ua (n + 1) uc).ownBlock = some q → q ≠ b := by
    intro q hq e
    rcases HT.out with h1 | h1
    · exact hbv q (by rw [← h1]; exact hq) e.symm
    · rw [hq] at h1
      have := Option.some.inj h1
      have := N4.out.blk.lt
      omega
  have N6 : NS (w5.setCell ⟨b, 0, none⟩ (.slice ua (n + 1) uc)) b m (.slice ua (n + 1) uc) (ps ++ [⟨fa, fn, ta, tn, a', c', bs⟩]) c k := by
    refine ⟨?_, (N4.out.map.kept (HG.out.block m N4.out.map.lt ?_)).kept (Below.heap_setCell _ _ _ _ (Ne.symm (N4.out.map.ne N4.out.blk))), ⟨?_, ?_⟩, by rw [List.length_append, hn.out]; simp; omega, N4.out.c0, N4.out.c1⟩
    · have := B5.set 0 (.slice ua (n + 1) uc)
      simpa using this
    · intro e
      obtain ⟨-, cur, hc⟩ := N4.out.row.row.lt m e.symm
      obtain ⟨es, cl, h1⟩ := N4.out.map.heap
      rw [h1] at hc; cases hc
    · rw [List.length_append, hn.out, pcs_app]
      exact HW.out.kept fun q hq => Below.heap_setCell _ _ _ _ (hvb q hq)
    · intro p hp
      rcases List.mem_append.1 hp with hp | hp
      · exact (N4.out.row.by_ p hp).kp hk6 N4.out.noBy
      · simp at hp
        subst hp
        exact (hby.below bel4).kp hk6 N4.out.noBy
  have X6 : Nx w (w5.setCell ⟨b, 0, none⟩ (.slice ua (n + 1) uc)) b m (.slice va n vc) (.slice ua (n + 1) uc) (ps ++ [⟨fa, fn, ta, tn, a', c', bs⟩]) c k := by
    refine ⟨N6, hKw, fun q hq => ?_⟩
    rcases HT.out with h1 | h1
    · exact Or.inl (by rw [← h1]; exact hq)
    · rw [hq] at h1
      have := Option.some.inj h1
      have h3 := HB.out.size
      have h4 := hb3.size
      have h5 := bel4.size
      have h6 : w2.drew.heap.size = w2.heap.size := rfl
      exact Or.inr (by omega)
  have HFR : Hid (∀ ad, a' = some ad → w.heap.size ≤ ad.block) := fun ad had => by
    have h1 := hfr ad had
    have h3 := HB.out.size
    have h6 : w2.drew.heap.size = w2.heap.size := rfl
    omega
  have hb1 := N6.blk.cell 1
  simp at hb1
  have hlk := N6.map.look.1
  have q0 := N6.c0.1
  have q1 := N6.c1.1
  obtain ⟨w7, hrun, hM7, hg7⟩ := N6.map.put0 (by omega) (c.p + 1) (by omega) (by omega)
  have X7 := hide (X6.trans (N6.counted hM7 hg7 ⟨by simp only []; omega, N6.c0.2.1, N6.c0.2.2.1, N6.c0.2.2.2⟩ ⟨by simp only []; omega, by have := N6.c1.2.1; simp only []; omega, by have := N6.c1.2.2.1; simp only []; omega, by have := N6.c1.2.2.2; simp only []; omega⟩))
  generalize w5.setCell ⟨b, 0, none⟩ (.slice ua (n + 1) uc) = W6 at hb1 hlk hrun ⊢
  clear X6 N6 hM7 hg7 hvb hKw hk6 hHeld c5 c51 f5 B5 hbv bel4 hfr hby hb3 hnn I4
  generalize hcp : c.p = cp at *
  replace hcp := hide hcp
  go_wp2
  go_ret
  rw [hcp.out]
  exact ⟨rfl, _, a', ⟨c', X7.out⟩, fun ad h => by rw [← hH]; exact HFR.out ad h⟩

end Go.Proofs.Ytoinjmddmahpkaa
