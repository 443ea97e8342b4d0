/- The document's network: Put. -/
import Derived.Test.YtoinjmddmahpkaaZC
namespace Go.Proofs.Ytoinjmddmahpkaa
open Go.RowKit Go.Maps

set_option maxHeartbeats 4000000 in
set_option maxRecDepth 100000 in
theorem rput_bad (b : Nat) (fa : Bool) (fn : Int) (ta : Bool) (tn : Int) (a : Option Addr) (len cap : Nat) (hp : okP fn tn len = false) (w : World) :
    Calls Try.prog 25 #[.pointer (some ⟨b, 0, none⟩), .agg #[.bool fa, .int .i64 fn, .bool ta, .int .i64 tn, .slice a len cap]] w fun e w' => e = .returned (.int .i64 50) ∧ Below w.heap.size w w' := by
  have I0 := hide (IsB.new w #[.bool fa, .int .i64 fn, .bool ta, .int .i64 tn, .slice a len cap] 35)
  have B0 := hide ((Below.refl w.heap.size w).alloc (Nat.le_refl _) (.cells #[.bool fa, .int .i64 fn, .bool ta, .int .i64 tn, .slice a len cap] 35))
  by_cases hf' : okA fn = true
  · have hf := hf'
    by_cases ht' : okA tn = true
    · have ht := ht'
      have hl : ¬ len ≤ 262144 := by unfold okP at hp; rw [hf, ht] at hp; simp at hp; omega
      have hl' : 262144 < len := by omega
      clear hl
      go_enter Try.func25, Try.ntmps25
      go_wp2_with fail
      refine (isAddr_any fa fn _).mono ?_; rintro e w1 ⟨rfl, hb⟩
      rw [hf]
      have I1 := hide (I0.out.below hb)
      have B1 := hide (B0.out.trans (hb.mono B0.out.size))
      clear hb I0 B0
      obtain ⟨a0, a1, a2, a3, a4⟩ := I1.out.cells5
      go_wp2_with fail
      clear a0 a1 a2 a3 a4
      refine (isAddr_any ta tn _).mono ?_; rintro e w2 ⟨rfl, hb⟩
      rw [ht]
      have I2 := hide (I1.out.below hb)
      have B2 := hide (B1.out.trans (hb.mono B1.out.size))
      clear hb I1 B1
      obtain ⟨a0, a1, a2, a3, a4⟩ := I2.out.cells5
      go_wp2
      go_ret
      exact ⟨rfl, B2.out⟩
    · have ht : okA tn = false := by simpa using ht'
      go_enter Try.func25, Try.ntmps25
      go_wp2_with fail
      refine (isAddr_any fa fn _).mono ?_; rintro e w1 ⟨rfl, hb⟩
      rw [hf]
      have I1 := hide (I0.out.below hb)
      have B1 := hide (B0.out.trans (hb.mono B0.out.size))
      clear hb I0 B0
      obtain ⟨a0, a1, a2, a3, a4⟩ := I1.out.cells5
      go_wp2_with fail
      clear a0 a1 a2 a3 a4
      refine (isAddr_any ta tn _).mono ?_; rintro e w2 ⟨rfl, hb⟩
      rw [ht]
      have I2 := hide (I1.out.below hb)
      have B2 := hide (B1.out.trans (hb.mono B1.out.size))
      clear hb I1 B1
      obtain ⟨a0, a1, a2, a3, a4⟩ := I2.out.cells5
      go_wp2
      go_ret
      exact ⟨rfl, B2.out⟩
  · have hf : okA fn = false := by simpa using hf'
    go_enter Try.func25, Try.ntmps25
    go_wp2_with fail
    refine (isAddr_any fa fn _).mono ?_; rintro e w1 ⟨rfl, hb⟩
    rw [hf]
    have I1 := hide (I0.out.below hb)
    have B1 := hide (B0.out.trans (hb.mono B0.out.size))
    clear hb I0 B0
    go_wp2
    go_ret
    exact ⟨rfl, B1.out⟩

set_option maxHeartbeats 4000000 in
set_option maxRecDepth 100000 in
theorem rput_full (b : Nat) (v : Value) (ps : List Pc) (c : Cnt) (k : Nat) (hk : k < 1000000) (w : World) (h : RS w b v ps c k) (fa : Bool) (fn : Int) (ta : Bool) (tn : Int) (a : Option Addr) (len cap : Nat) (hp : okP fn tn len = true) (hl : ps.length = 4096) :
    Calls Try.prog 25 #[.pointer (some ⟨b, 0, none⟩), .agg #[.bool fa, .int .i64 fn, .bool ta, .int .i64 tn, .slice a len cap]] w fun e w' => e = .returned (.int .i64 3) ∧ Rx w w' b v v ps { c with r := c.r + 1 } (k + 1) := by
  have I0 := hide (IsB.new w #[.bool fa, .int .i64 fn, .bool ta, .int .i64 tn, .slice a len cap] 35)
  have B0 := hide ((Below.refl w.heap.size w).alloc (Nat.le_refl _) (.cells #[.bool fa, .int .i64 fn, .bool ta, .int .i64 tn, .slice a len cap] 35))
  have hpp := hp
  unfold okP at hpp
  simp at hpp
  obtain ⟨⟨hf, ht⟩, hl2⟩ := hpp
  obtain ⟨va, vc, rfl, -, -⟩ := h.row.row.shape
  have H := hide h
  have HL := hide hl
  clear hp hl h
  go_enter Try.func25, Try.ntmps25
  go_wp2_with fail
  refine (isAddr_any fa fn _).mono ?_; rintro e w1 ⟨rfl, hb⟩
  rw [hf]
  have I1 := hide (I0.out.below hb)
  have B1 := hide (B0.out.trans (hb.mono B0.out.size))
  clear hb I0 B0
  obtain ⟨a0, a1, a2, a3, a4⟩ := I1.out.cells5
  go_wp2_with fail
  clear a0 a1 a2 a3 a4
  refine (isAddr_any ta tn _).mono ?_; rintro e w2 ⟨rfl, hb⟩
  rw [ht]
  have I2 := hide (I1.out.below hb)
  have B2 := hide (B1.out.trans (hb.mono B1.out.size))
  clear hb I1 B1
  obtain ⟨a0, a1, a2, a3, a4⟩ := I2.out.cells5
  have R2 := H.out.rx B2.out
  have hb0 := R2.rs.blk.cell 0
  have hb4 := R2.rs.blk.cell 4
  have hf4 := R2.rs.blk.free 4
  simp at hb0 hb4
  rw [HL.out] at hb0
  have q0 := R2.rs.c0.2.2.2
  have q1 := R2.rs.c1.2.2.2
  have X4 := hide (R2.trans (R2.rs.count 4 (c.r + 1) { c with r := c.r + 1 } (by simp) ⟨R2.rs.c0.1, R2.rs.c0.2.1, R2.rs.c0.2.2.1, by simp only []; omega⟩ ⟨by have := R2.rs.c1.1; simp only []; omega, by have := R2.rs.c1.2.1; simp only []; omega, by have := R2.rs.c1.2.2.1; simp only []; omega, by simp only []; omega⟩))
  clear R2
  generalize hcr : c.r = cr at *
  replace hcr := hide hcr
  go_wp2
  go_ret
  rw [hcr.out]
  exact ⟨rfl, X4.out⟩

set_option maxHeartbeats 8000000 in
set_option maxRecDepth 100000 in
theorem rput_ok (b : Nat) (v : Value) (ps : List Pc) (c : Cnt) (k : Nat) (hk : k < 1000000) (w : World) (h : RS w b v ps c k) (fa : Bool) (fn : Int) (ta : Bool) (tn : Int) (a : Option Addr) (len cap : Nat) (bs : List Int) (hbl : bs.length = len) (hp : okP fn tn len = true) (hl : ps.length < 4096) (hnil : a = none → cap = 0) (hrd : Rd8 w a bs) :
    Calls Try.prog 25 #[.pointer (some ⟨b, 0, none⟩), .agg #[.bool fa, .int .i64 fn, .bool ta, .int .i64 tn, .slice a len cap]] w fun e w' => e = .returned (.int .i64 0) ∧ ∃ v' a' c', Rx w w' b v v' (ps ++ [⟨fa, fn, ta, tn, a', c', bs⟩]) { c with p := c.p + 1 } (k + 1) := by
  have mixed : Try.prog.follows .mixedOrders = true := by kernel_rfl
  have I0 := hide (IsB.new w #[.bool fa, .int .i64 fn, .bool ta, .int .i64 tn, .slice a len cap] 35)
  have B0 := hide ((Below.refl w.heap.size w).alloc (Nat.le_refl _) (.cells #[.bool fa, .int .i64 fn, .bool ta, .int .i64 tn, .slice a len cap] 35))
  have hpp := hp
  unfold okP at hpp
  simp at hpp
  obtain ⟨⟨hf, ht⟩, hl2⟩ := hpp
  obtain ⟨va, vc, rfl, -, -⟩ := h.row.row.shape
  have HH := hide h
  generalize hn : ps.length = n at *
  replace hn := hide hn
  replace hrd := hide hrd
  replace hbl := hide hbl
  replace hnil := hide hnil
  clear hp h
  go_enter Try.func25, Try.ntmps25
  go_wp2_with fail
  refine (isAddr_any fa fn _).mono ?_; rintro e w1 ⟨rfl, hb⟩
  rw [hf]
  have I1 := hide (I0.out.below hb)
  have B1 := hide (B0.out.trans (hb.mono B0.out.size))
  clear hb I0 B0
  obtain ⟨a0, a1, a2, a3, a4⟩ := I1.out.cells5
  go_wp2_with fail
  clear a0 a1 a2 a3 a4
  refine (isAddr_any ta tn _).mono ?_; rintro e w2 ⟨rfl, hb⟩
  rw [ht]
  have I2 := hide (I1.out.below hb)
  have B2 := hide (B1.out.trans (hb.mono B1.out.size))
  clear hb I1 B1
  obtain ⟨a0, a1, a2, a3, a4⟩ := I2.out.cells5
  have R2 := hide (HH.out.rx B2.out)
  have hb0 := R2.out.rs.blk.cell 0
  simp at hb0
  have f4 := I2.out.free 4
  -- the bytes
  have belA := (Below.refl w2.heap.size w2).alloc (Nat.le_refl _) (.cells #[] 5)
  have hrdA := (hrd.out.below B2.out).below belA
  have hnewsX : (∃ ad cc, Value.slice a len cap = .slice (some ad) len cc ∧ ∀ jj x, (u8s bs)[jj]? = some x → (w2.alloc (.cells #[] 5)).cell? (ad.add jj) = some x) ∨ (Value.slice a len cap = .slice none 0 0 ∧ len = 0) := by
    rcases hrdA with ⟨h1, h2⟩ | ⟨ad, h1, hc⟩
    · right
      have : len = 0 := by rw [← hbl.out, h2]; rfl
      rw [h1, hnil.out h1, this]
      exact ⟨rfl, rfl⟩
    · left
      subst h1
      exact ⟨ad, cap, rfl, fun jj x hu => by obtain ⟨hj, rfl⟩ := u8s_get hu; exact hc jj hj⟩
  have hown0 : Rw (w2.alloc (.cells #[] 5)) 5 1 (.slice (some ⟨w2.heap.size, 0, none⟩) 0 0) 0 [] := ⟨rfl, Or.inr ⟨_, 0, #[], rfl, heap_new w2 _, Nat.le_refl _, by unfold maxLen; omega, by simp, rfl⟩⟩
  obtain ⟨j0, hj0, hz0, hz1, hz2⟩ := info_parts Try.infoU8
  obtain ⟨vb, w3, hrun, hrw, hgr, hat, hnn⟩ := run_append_rw (P := Try.prog) (w2.alloc (.cells #[] 5)) 33 33 5 j0 (.int .u8 0) 1 1 Try.underlying33 hj0 hz0 hz1 hz2 rfl _ 0 [] hown0 (.slice a len cap) len (u8s bs) (by rw [u8s_len, hbl.out]; omega) hnewsX (u8s_one bs) (by unfold maxLen; omega) (by omega)
  rw [Nat.zero_add, List.nil_append] at hrw
  obtain ⟨q, cb, hvb⟩ : ∃ q cb, vb = .slice (some ⟨q, 0, none⟩) len cb := by
    rcases hrw.2 with ⟨h1, -⟩ | ⟨q, cb, cur, h1, -⟩
    · exact absurd h1 (hnn (by intro h; cases h))
    · exact ⟨q, cb, h1⟩
  subst hvb
  have bel3 : Below w2.heap.size w2 w3 := belA.grown hgr (by simp) (fun x hx => by simp [Value.ownBlock] at hx; omega)
  have HR3 := hide hrun
  have RB3 := hide hrw
  have I3 := I2.out.below bel3
  have e4 := I3.cell 4
  have g4 := I3.free 4
  simp at e4
  have R3 := hide (R2.out.bel bel3)
  have HI3 := hide I3
  have hHlt : Hid (w.heap.size < w3.heap.size) := I3.lt
  have hHlt2 : w.heap.size < w2.heap.size := I2.out.lt
  clear hrun hrw hgr hat hnn hown0 hnewsX hrdA belA hj0 hz0 hz1 hz2 I3 bel3
  go_wp2_with (at_builtin; refine wpList_append_eq rfl (.tmp 36) (.tmp 38) 33 rfl _ _ (.slice (some ⟨q, 0, none⟩) len cb) w3 rfl rfl HR3.out ?_)
  -- the parcel's bytes are its own
  have I4 := HI3.out.set 4 (.slice (some ⟨q, 0, none⟩) len cb)
  simp at I4
  have k4 : Kp [w.heap.size] w3 (w3.setCell ⟨w.heap.size, 4, none⟩ (.slice (some ⟨q, 0, none⟩) len cb)) := (Kp.refl _ w3).set _ _ (Or.inl (by simp))
  have nb4 : NoBy w3 [w.heap.size] := noBy_new HI3.out
  have hHf : w.heap.size ∉ rfoot b (.slice va n vc) := fun hm => by have := HH.out.lt _ hm; omega
  have R4 := R3.out.priv k4 (by simp) (fun x hx hm => by simp at hm; subst hm; exact hHf hx) nb4
  have BY4 : By (w3.setCell ⟨w.heap.size, 4, none⟩ (.slice (some ⟨q, 0, none⟩) len cb)) (some ⟨q, 0, none⟩) cb bs := by
    have h1 : By w3 (some ⟨q, 0, none⟩) cb bs := ⟨by rw [hbl.out]; exact RB3.out, by rw [hbl.out]; exact hl2⟩
    exact h1.kp k4 nb4
  have hHe : w.heap.size < (w3.setCell ⟨w.heap.size, 4, none⟩ (.slice (some ⟨q, 0, none⟩) len cb)).heap.size := I4.lt
  generalize w3.setCell ⟨w.heap.size, 4, none⟩ (.slice (some ⟨q, 0, none⟩) len cb) = W4 at *
  generalize hHx : w.heap.size = H at *
  generalize hbll : len = bl at *
  have bel6 := ((Below.refl W4.heap.size W4).drew).alloc (Nat.le_refl _) (.cells #[.bool fa, .int .i64 fn, .bool ta, .int .i64 tn, .slice (some ⟨q, 0, none⟩) bl cb] 35)
  have I6 := IsB.new W4.drew #[.bool fa, .int .i64 fn, .bool ta, .int .i64 tn, .slice (some ⟨q, 0, none⟩) bl cb] 35
  have N6 := R4.rs.below bel6
  have hnews : ∀ j u, (pcs [(⟨fa, fn, ta, tn, some ⟨q, 0, none⟩, cb, bs⟩ : Pc)])[j]? = some u → (W4.drew.alloc (.cells #[.bool fa, .int .i64 fn, .bool ta, .int .i64 tn, .slice (some ⟨q, 0, none⟩) bl cb] 35)).cell? ((⟨W4.drew.heap.size, 0, none⟩ : Addr).add j) = some u := by
    intro j u hu
    rw [add_none, Nat.zero_add, I6.cell j]
    simp only [pcs, Pc.cs, List.flatMap_cons, List.flatMap_nil, List.append_nil] at hu
    rw [hbl.out] at hu
    simpa using hu
  obtain ⟨i0, hi0, hz0, hz1, hz2⟩ := info_parts Try.infoP
  obtain ⟨v', w7, hrun, hrw, hgr, hat, -⟩ := run_append_rw (P := Try.prog) (W4.drew.alloc (.cells #[.bool fa, .int .i64 fn, .bool ta, .int .i64 tn, .slice (some ⟨q, 0, none⟩) bl cb] 35)) 26 26 35 i0 _ 5 56 Try.underlying26 hi0 hz0 hz1 hz2 rfl
    (.slice va n vc) n (pcs ps) (by have := N6.row.row; rw [hn.out] at this; exact this) (.slice (some ⟨W4.drew.heap.size, 0, none⟩) 1 1) 1 (pcs [⟨fa, fn, ta, tn, some ⟨q, 0, none⟩, cb, bs⟩]) (by rfl) (Or.inl ⟨_, _, rfl, hnews⟩) (pcs_one _) (by unfold maxLen; omega) (by omega)
  obtain ⟨ua, uc, rfl, -, -⟩ := hrw.shape
  have hbv : some b ≠ (Value.slice va n vc).ownBlock := fun e => by
    obtain ⟨-, cur, hc⟩ := N6.row.row.lt b e.symm
    have := N6.blk
    unfold IsB at this
    rw [hc] at this
    injection this with this
    injection this with _ this
    cases this
  have hHv : some H ≠ (Value.slice va n vc).ownBlock := fun e => by
    have h1 := (HH.out.row.row.lt H e.symm).1
    omega
  have B7 := N6.blk.grown hgr hbv
  have J7 := (I4.below bel6).grown hgr hHv
  have HS0 : Hid ((fun w' => w'.cell? ⟨b, 0, none⟩ = some (.slice va n vc) ∧ w'.cell? ⟨H, 0, none⟩ = some (.bool fa) ∧ w'.cell? ⟨H, 1, none⟩ = some (.int .i64 fn) ∧ w'.cell? ⟨H, 2, none⟩ = some (.bool ta) ∧ w'.cell? ⟨H, 3, none⟩ = some (.int .i64 tn) ∧ w'.cell? ⟨H, 4, none⟩ = some (.slice (some ⟨q, 0, none⟩) bl cb)) W4.drew) := ⟨R4.rs.blk.cell 0, I4.cells5⟩
  have hS6 : Hid ((fun w' => w'.cell? ⟨b, 0, none⟩ = some (.slice va n vc) ∧ w'.cell? ⟨H, 0, none⟩ = some (.bool fa) ∧ w'.cell? ⟨H, 1, none⟩ = some (.int .i64 fn) ∧ w'.cell? ⟨H, 2, none⟩ = some (.bool ta) ∧ w'.cell? ⟨H, 3, none⟩ = some (.int .i64 tn) ∧ w'.cell? ⟨H, 4, none⟩ = some (.slice (some ⟨q, 0, none⟩) bl cb)) (W4.drew.alloc (.cells #[.bool fa, .int .i64 fn, .bool ta, .int .i64 tn, .slice (some ⟨q, 0, none⟩) bl cb] 35))) := ⟨N6.blk.cell 0, (I4.below bel6).cells5⟩
  have hS7 : Hid ((fun w' => w'.cell? ⟨b, 0, none⟩ = some (.slice va n vc) ∧ w'.cell? ⟨H, 0, none⟩ = some (.bool fa) ∧ w'.cell? ⟨H, 1, none⟩ = some (.int .i64 fn) ∧ w'.cell? ⟨H, 2, none⟩ = some (.bool ta) ∧ w'.cell? ⟨H, 3, none⟩ = some (.int .i64 tn) ∧ w'.cell? ⟨H, 4, none⟩ = some (.slice (some ⟨q, 0, none⟩) bl cb)) w7) := ⟨B7.cell 0, J7.cells5⟩
  have c7 := B7.cell 0
  have f7 := B7.free 0
  simp at c7
  have HR7 := hide hrun
  have HW := hide hrw
  have HG := hide hgr
  have HT := hide hat
  have HN6 := hide N6
  have HB7 := hide B7
  have HR4 := hide R4
  have HBY := hide BY4
  have HBL6 := hide bel6
  clear hrun hrw hgr hat hnews hi0 hz0 hz1 hz2 I6 N6 B7 J7 R4 BY4 I4 k4 nb4 bel6 a0 a1 a2 a3 a4 e4 g4 hb0 f4
  refine regionL 10 (fun w' => w'.cell? ⟨b, 0, none⟩ = some (.slice va n vc) ∧ w'.cell? ⟨H, 0, none⟩ = some (.bool fa) ∧ w'.cell? ⟨H, 1, none⟩ = some (.int .i64 fn) ∧ w'.cell? ⟨H, 2, none⟩ = some (.bool ta) ∧ w'.cell? ⟨H, 3, none⟩ = some (.int .i64 tn) ∧ w'.cell? ⟨H, 4, none⟩ = some (.slice (some ⟨q, 0, none⟩) bl cb)) mixed HS0.out (fun hHeld => ?_)
  refine pickA (v := ?_) 0 (some 41) rfl rfl (by kernel_rfl) (by kernel_rfl) (by kernel_rfl) (by decide) (fun _ _ _ h => h) (by rfl) ?_ (by assumption) ?_
  rotate_left
  · intro w'
    go_simp
    try with_reducible rfl
  try simp only [Act.put, List.setIfInBounds_toArray, List.set_cons_zero, List.set_cons_succ]
  refine pickA (v := ?_) 1 (some 42) rfl rfl (by kernel_rfl) (by kernel_rfl) (by kernel_rfl) (by decide) (fun _ _ _ h => h) (by rfl) ?_ (by assumption) ?_
  rotate_left
  · intro w'
    go_simp
    try with_reducible rfl
  try simp only [Act.put, List.setIfInBounds_toArray, List.set_cons_zero, List.set_cons_succ]
  refine pickA (v := ?_) 2 (some 43) rfl rfl (by kernel_rfl) (by kernel_rfl) (by kernel_rfl) (by decide) (fun _ _ _ h => h) (by rfl) ?_ (by assumption) ?_
  rotate_left
  · intro w'
    go_simp
    try with_reducible rfl
  try simp only [Act.put, List.setIfInBounds_toArray, List.set_cons_zero, List.set_cons_succ]
  refine pickA (v := ?_) 3 (some 44) rfl rfl (by kernel_rfl) (by kernel_rfl) (by kernel_rfl) (by decide) (fun _ _ _ h => h) (by rfl) ?_ (by assumption) ?_
  rotate_left
  · intro w'
    go_simp
    try with_reducible rfl
  try simp only [Act.put, List.setIfInBounds_toArray, List.set_cons_zero, List.set_cons_succ]
  refine pickL (v := ?_) 4 (some 45) rfl rfl (by kernel_rfl) (by kernel_rfl) (by kernel_rfl) (by decide) (by kernel_rfl) (by kernel_rfl) (fun _ _ _ h => h) (by rfl) ?_ (by assumption) ?_
  rotate_left
  · intro w' hSw
    obtain ⟨q0, q1, q2, q3, q4, q5⟩ := hSw
    go_simp
    try with_reducible rfl
  try simp only [Act.put, List.setIfInBounds_toArray, List.set_cons_zero, List.set_cons_succ]
  refine pickL (v := ?_) 5 (some 46) rfl rfl (by kernel_rfl) (by kernel_rfl) (by kernel_rfl) (by decide) (by kernel_rfl) (by kernel_rfl) (fun _ _ _ h => h) (by rfl) ?_ (by assumption) ?_
  rotate_left
  · intro w' hSw
    obtain ⟨q0, q1, q2, q3, q4, q5⟩ := hSw
    go_simp
    try with_reducible rfl
  try simp only [Act.put, List.setIfInBounds_toArray, List.set_cons_zero, List.set_cons_succ]
  refine oneL (i := 6) (by kernel_rfl) rfl (fun K hK => ?_)
  go_simp
  refine hK.out _ _ ?_ ?_
  · exact hS6.out
  clear hK K
  try simp only [Act.put, List.setIfInBounds_toArray, List.set_cons_zero, List.set_cons_succ]
  clear hHeld
  have hHeld := hS6.out
  refine oneL (i := 7) (by kernel_rfl) rfl (fun K hK => ?_)
  refine step_append_eq rfl (.tmp 45) (.tmp 47) 26 rfl _ _ (.slice ua (n + 1) uc) w7 rfl rfl HR7.out ?_
  refine hK.out _ _ ?_ ?_
  · exact hS7.out
  clear hK K
  try simp only [Act.put, List.setIfInBounds_toArray]
  clear hHeld
  have hHeld := hS7.out
  refine pickA (v := ?_) 8 (some 49) rfl rfl (by kernel_rfl) (by kernel_rfl) (by kernel_rfl) (by decide) (fun _ _ _ h => h) (by rfl) ?_ (by assumption) ?_
  rotate_left
  · intro w'
    go_simp
    try with_reducible rfl
  try simp only [Act.put]
  refine pickA (v := ?_) 9 (some 50) rfl rfl (by kernel_rfl) (by kernel_rfl) (by kernel_rfl) (by decide) (fun _ _ _ h => h) (by rfl) ?_ (by assumption) ?_
  rotate_left
  · intro w'
    go_simp
    try with_reducible rfl
  try simp only [Act.put]
  refine lateL (i := 10) (by kernel_rfl) rfl (by decide) (by kernel_rfl) (fun K hK => ?_)
  go_simp
  refine hK.out _ _ ?_
  clear hK K
  try simp only [Act.put]
  refine doneL (by kernel_rfl) ?_ _
  have hk6 : Kp (rfoot b (.slice va n vc)) (W4.drew.alloc (.cells #[.bool fa, .int .i64 fn, .bool ta, .int .i64 tn, .slice (some ⟨q, 0, none⟩) bl cb] 35)) (w7.setCell ⟨b, 0, none⟩ (.slice ua (n + 1) uc)) := by
    refine Kp.set (Kp.of_grown HG.out (fun x hx => Or.inl ?_)) _ _ (Or.inl (by simp [rfoot]))
    simp [rfoot, hx]
  have hvb : ∀ x, (Value.slice ua (n + 1) uc).ownBlock = some x → x ≠ b := by
    intro x hx e
    rcases HT.out with h1 | h1
    · exact hbv (by rw [← h1, hx, e])
    · rw [hx] at h1
      have h2 := Option.some.inj h1
      have h3 := HN6.out.blk.lt
      omega
  have N8 : RS (w7.setCell ⟨b, 0, none⟩ (.slice ua (n + 1) uc)) b (.slice ua (n + 1) uc) (ps ++ [⟨fa, fn, ta, tn, some ⟨q, 0, none⟩, cb, bs⟩]) c k := by
    refine ⟨?_, ⟨?_, ?_⟩, by rw [List.length_append, hn.out]; simp; omega, HN6.out.c0, HN6.out.c1⟩
    · have := HB7.out.set 0 (.slice ua (n + 1) uc)
      simpa using this
    · rw [List.length_append, hn.out, pcs_app]
      exact HW.out.kept fun x hx => Below.heap_setCell _ _ _ _ (hvb x hx)
    · intro p hp
      rcases List.mem_append.1 hp with hp | hp
      · exact (HN6.out.row.by_ p hp).kp hk6 HN6.out.noBy
      · simp at hp
        subst hp
        exact (HBY.out.below HBL6.out).kp hk6 HN6.out.noBy
  have X8 : Rx w (w7.setCell ⟨b, 0, none⟩ (.slice ua (n + 1) uc)) b (.slice va n vc) (.slice ua (n + 1) uc) (ps ++ [⟨fa, fn, ta, tn, some ⟨q, 0, none⟩, cb, bs⟩]) c k := by
    refine (HR4.out.bel HBL6.out).trans ⟨N8, hk6, fun x hx => ?_⟩
    rcases HT.out with h1 | h1
    · exact Or.inl (by rw [← h1]; exact hx)
    · rw [hx] at h1
      have := Option.some.inj h1
      exact Or.inr (by omega)
  have hb1 := N8.blk.cell 1
  have hf1 := N8.blk.free 1
  simp at hb1
  have p0 := N8.c0.1
  have p1 := N8.c1.1
  have X9 := hide (X8.trans (N8.count 1 (c.p + 1) { c with p := c.p + 1 } (by simp) ⟨by simp only []; omega, N8.c0.2.1, N8.c0.2.2.1, N8.c0.2.2.2⟩ ⟨by simp only []; omega, by have := N8.c1.2.1; simp only []; omega, by have := N8.c1.2.2.1; simp only []; omega, by have := N8.c1.2.2.2; simp only []; omega⟩))
  generalize w7.setCell ⟨b, 0, none⟩ (.slice ua (n + 1) uc) = W8 at hb1 hf1 X9 ⊢
  clear X8 N8 hk6 hvb hHeld c7 f7 hbv hHv
  generalize hcp : c.p = cp at *
  replace hcp := hide hcp
  go_wp2
  go_ret
  rw [hcp.out]
  exact ⟨rfl, _, some ⟨q, 0, none⟩, cb, X9.out⟩

end Go.Proofs.Ytoinjmddmahpkaa
