/- NetNobody: the law walked. -/
import Derived.Test.YtjfjogoojfibiaaNN
import Derived.Test.YtjfjogoojfibiaaNE
namespace Go.Proofs.Ytjfjogoojfibiaa
open Go.RowKit Go.Maps

theorem stat_ne (w : World) : (binOp .neq 28 (.agg #[.int .i64 0, .int .i64 0, .int .i64 0, .int .i64 0]) (.agg #[.int .i64 0, .int .i64 0, .int .i64 0, .int .i64 0])).run Try.prog w = .ok (.bool false) w := by kernel_rfl

set_option maxHeartbeats 16000000 in
set_option maxRecDepth 100000 in
theorem netNobody_walk (kd : Int) (fa : Bool) (fn : Int) (ta : Bool) (tn : Int) (a : Option Addr) (len cap : Nat) (I KK : Int) (w : World) :
    Calls Try.prog 7 #[.agg #[.int .i64 kd, .bool fa, .int .i64 fn, .bool ta, .int .i64 tn, .slice a len cap, .int .i64 I, .int .i64 KK]] w fun e w' => e = .returned (.bool true) ∧ Below w.heap.size w w' := by
  have mixed : Try.prog.follows .mixedOrders = true := by kernel_rfl
  have hse := stat_ne
  have hO0 := IsB.new w #[.int .i64 kd, .bool fa, .int .i64 fn, .bool ta, .int .i64 tn, .slice a len cap, .int .i64 I, .int .i64 KK] 37
  have hZ0 := IsB.new (w.alloc (.cells #[.int .i64 kd, .bool fa, .int .i64 fn, .bool ta, .int .i64 tn, .slice a len cap, .int .i64 I, .int .i64 KK] 37)) #[.slice none 0 0, .map none] 58
  have hL0 := IsB.new ((w.alloc (.cells #[.int .i64 kd, .bool fa, .int .i64 fn, .bool ta, .int .i64 tn, .slice a len cap, .int .i64 I, .int .i64 KK] 37)).alloc (.cells #[.slice none 0 0, .map none] 58)) #[.pointer none, .pointer (some ⟨w.heap.size + 1, 0, none⟩)] 23
  have b1 := (Below.refl (w.alloc (.cells #[.int .i64 kd, .bool fa, .int .i64 fn, .bool ta, .int .i64 tn, .slice a len cap, .int .i64 I, .int .i64 KK] 37)).heap.size (w.alloc (.cells #[.int .i64 kd, .bool fa, .int .i64 fn, .bool ta, .int .i64 tn, .slice a len cap, .int .i64 I, .int .i64 KK] 37))).alloc (Nat.le_refl _) (.cells #[.slice none 0 0, .map none] 58)
  have b2 := (Below.refl ((w.alloc (.cells #[.int .i64 kd, .bool fa, .int .i64 fn, .bool ta, .int .i64 tn, .slice a len cap, .int .i64 I, .int .i64 KK] 37)).alloc (.cells #[.slice none 0 0, .map none] 58)).heap.size ((w.alloc (.cells #[.int .i64 kd, .bool fa, .int .i64 fn, .bool ta, .int .i64 tn, .slice a len cap, .int .i64 I, .int .i64 KK] 37)).alloc (.cells #[.slice none 0 0, .map none] 58))).alloc (Nat.le_refl _) (.cells #[.pointer none, .pointer (some ⟨w.heap.size + 1, 0, none⟩)] 23)
  have hO := hide ((hO0.below b1).below b2)
  have hZ := hide (hZ0.below b2)
  have hL := hide hL0
  have hW0 := hide ((((Below.refl w.heap.size w).alloc (Nat.le_refl _) (.cells #[.int .i64 kd, .bool fa, .int .i64 fn, .bool ta, .int .i64 tn, .slice a len cap, .int .i64 I, .int .i64 KK] 37)).alloc (by simp) (.cells #[.slice none 0 0, .map none] 58)).alloc (by simp; omega) (.cells #[.pointer none, .pointer (some ⟨w.heap.size + 1, 0, none⟩)] 23))
  clear hO0 hZ0 hL0 b1 b2
  go_enter Try.func7, Try.ntmps7
  go_wp2
  simp only [World.size_alloc] at hO hZ hL
  generalize ((w.alloc (.cells #[.int .i64 kd, .bool fa, .int .i64 fn, .bool ta, .int .i64 tn, .slice a len cap, .int .i64 I, .int .i64 KK] 37)).alloc (.cells #[.slice none 0 0, .map none] 58)).alloc (.cells #[.pointer none, .pointer (some ⟨w.heap.size + 1, 0, none⟩)] 23) = W0 at hO hZ hL hW0 ⊢
  generalize hOe : w.heap.size = O at hO hZ hL ⊢
  generalize hZe : O + 1 = Z at hZ hL ⊢
  replace hOe := hide hOe
  replace hZe := hide hZe
  go_loopw [21] (fun i wr => ∃ j : Nat, j ≤ 2 ∧ i = .int .i64 (j : Int) ∧ Below W0.heap.size W0 wr) (fun i _ => 2 - (intOf i).toNat)
  case atStart => exact ⟨0, by omega, rfl, Below.refl _ _⟩
  case round =>
    obtain ⟨j, hj, rfl, hb⟩ := hrel
    have HB0 := hide hb
    clear hb
    by_cases hlt : j < 2
    · obtain ⟨p, hp, hNo⟩ : ∃ p, wr.cell? ⟨Z + 1, j, none⟩ = some p ∧ NoNet wr p := by
        have hL1 := hL.out.below HB0.out
        have : j = 0 ∨ j = 1 := by omega
        rcases this with rfl | rfl
        · exact ⟨_, hL1.cell 0, Or.inl rfl⟩
        · exact ⟨_, hL1.cell 1, Or.inr ⟨Z, rfl, hZ.out.below HB0.out⟩⟩
      replace hNo := hide hNo
      have o6 : wr.cell? ⟨O, 6, none⟩ = some (.int .i64 I) := (hO.out.below HB0.out).cell 6
      go_wp2_with fail
      clear o6 hp
      -- Take
      refine (take_no p I wr hNo.out).mono ?_; rintro e w1 ⟨rfl, hb⟩
      unfold zeroE
      have HB1 := hide (HB0.out.trans (hb.mono HB0.out.size))
      have N1 := hide ((hNo.out.below hb).alloc (.cells #[.bool false, .int .i64 0, .bool false, .int .i64 0, .slice none 0 0] 35))
      have J1 := hide (IsB.new w1 #[.bool false, .int .i64 0, .bool false, .int .i64 0, .slice none 0 0] 35)
      have B1 := hide (HB1.out.alloc HB1.out.size (.cells #[.bool false, .int .i64 0, .bool false, .int .i64 0, .slice none 0 0] 35))
      have o6 : w1.cell? ⟨O, 6, none⟩ = some (.int .i64 I) := (hO.out.below HB1.out).cell 6
      have olt : O < w1.heap.size := (hO.out.below HB1.out).lt
      clear hb HB1
      go_wp2_with fail
      clear o6 olt
      -- Twin
      refine (twin_no p I _ N1.out).mono ?_; rintro e w2 ⟨rfl, hb⟩
      unfold zeroE
      have HB2 := hide (B1.out.trans (hb.mono B1.out.size))
      have N2 := hide ((N1.out.below hb).alloc (.cells #[.bool false, .int .i64 0, .bool false, .int .i64 0, .slice none 0 0] 35))
      have bel2 := (Below.refl w2.heap.size w2).alloc (Nat.le_refl _) (.cells #[.bool false, .int .i64 0, .bool false, .int .i64 0, .slice none 0 0] 35)
      have J12 := hide ((J1.out.below hb).below bel2)
      have J2 := hide (IsB.new w2 #[.bool false, .int .i64 0, .bool false, .int .i64 0, .slice none 0 0] 35)
      have B2 := hide (HB2.out.alloc HB2.out.size (.cells #[.bool false, .int .i64 0, .bool false, .int .i64 0, .slice none 0 0] 35))
      have o6 : w2.cell? ⟨O, 6, none⟩ = some (.int .i64 I) := (hO.out.below HB2.out).cell 6
      have olt : O < w2.heap.size := (hO.out.below HB2.out).lt
      clear hb HB2 N1 J1 B1 bel2
      go_wp2_with fail
      clear o6 olt
      -- At
      refine (at_no p I _ N2.out).mono ?_; rintro e w3 ⟨rfl, hb⟩
      unfold zeroE
      have HB3 := hide (B2.out.trans (hb.mono B2.out.size))
      have N3 := hide ((N2.out.below hb).alloc (.cells #[.bool false, .int .i64 0, .bool false, .int .i64 0, .slice none 0 0] 35))
      have bel3 := (Below.refl w3.heap.size w3).alloc (Nat.le_refl _) (.cells #[.bool false, .int .i64 0, .bool false, .int .i64 0, .slice none 0 0] 35)
      have J13 := hide ((J12.out.below hb).below bel3)
      have J23 := hide ((J2.out.below hb).below bel3)
      have J3 := hide (IsB.new w3 #[.bool false, .int .i64 0, .bool false, .int .i64 0, .slice none 0 0] 35)
      have B3 := hide (HB3.out.alloc HB3.out.size (.cells #[.bool false, .int .i64 0, .bool false, .int .i64 0, .slice none 0 0] 35))
      have o1 : w3.cell? ⟨O, 1, none⟩ = some (.bool fa) := (hO.out.below HB3.out).cell 1
      have o2 : w3.cell? ⟨O, 2, none⟩ = some (.int .i64 fn) := (hO.out.below HB3.out).cell 2
      have olt : O < w3.heap.size := (hO.out.below HB3.out).lt
      clear hb HB3 N2 J12 J2 B2 bel3
      go_wp2_with fail
      clear o1 o2 olt
      -- Cut
      refine (cut_no p fa fn _ N3.out).mono ?_; rintro e w4 ⟨rfl, hb⟩
      have HBw4 := hide (B3.out.trans (hb.mono B3.out.size))
      have N4 := hide (N3.out.below hb)
      have A14 := hide (J13.out.below hb)
      have A24 := hide (J23.out.below hb)
      have A34 := hide (J3.out.below hb)
      clear hb N3 J13 J23 J3 B3
      generalize w1.heap.size = A1 at *
      generalize w2.heap.size = A2 at *
      generalize w3.heap.size = A3 at *
      go_wp2
      have hK9 : Hid (∀ W, Below W0.heap.size W0 W → (fun w' => w'.cell? ⟨O, 1, none⟩ = some (.bool fa) ∧ w'.cell? ⟨O, 2, none⟩ = some (.int .i64 fn) ∧ w'.cell? ⟨O, 3, none⟩ = some (.bool ta) ∧ w'.cell? ⟨O, 4, none⟩ = some (.int .i64 tn) ∧ w'.cell? ⟨O, 5, none⟩ = some (.slice a len cap) ∧ w'.cell? ⟨O, 6, none⟩ = some (.int .i64 I) ∧ w'.cell? ⟨O, 7, none⟩ = some (.int .i64 KK)) W) := fun W hW => by
        have := hO.out.below hW
        exact ⟨this.cell 1, this.cell 2, this.cell 3, this.cell 4, this.cell 5, this.cell 6, this.cell 7⟩
      have HS9 := hide (hK9.out w4.drew HBw4.out.drew)
      have HBd4 := hide (HBw4.out.drew)
      have N4d : Hid (NoNet w4.drew p) := N4.out.below ((Below.refl _ w4).drew)
      refine regionL 21 (fun w' => w'.cell? ⟨O, 1, none⟩ = some (.bool fa) ∧ w'.cell? ⟨O, 2, none⟩ = some (.int .i64 fn) ∧ w'.cell? ⟨O, 3, none⟩ = some (.bool ta) ∧ w'.cell? ⟨O, 4, none⟩ = some (.int .i64 tn) ∧ w'.cell? ⟨O, 5, none⟩ = some (.slice a len cap) ∧ w'.cell? ⟨O, 6, none⟩ = some (.int .i64 I) ∧ w'.cell? ⟨O, 7, none⟩ = some (.int .i64 KK)) mixed HS9.out (fun hHeld => ?_)
      refine pickA (v := ?_) 0 (some 54) rfl rfl (by kernel_rfl) (by kernel_rfl) (by kernel_rfl) (by decide) (fun _ _ _ h => h) (by rfl) ?_ (by assumption) ?_
      rotate_left
      · intro w'
        go_simp
        try with_reducible rfl
      try simp only [Act.put, List.setIfInBounds_toArray, List.set_cons_zero, List.set_cons_succ]
      refine pickA (v := ?_) 1 (some 55) rfl rfl (by kernel_rfl) (by kernel_rfl) (by kernel_rfl) (by decide) (fun _ _ _ h => h) (by rfl) ?_ (by assumption) ?_
      rotate_left
      · intro w'
        go_simp
        try with_reducible rfl
      try simp only [Act.put, List.setIfInBounds_toArray, List.set_cons_zero, List.set_cons_succ]
      refine pickA (v := ?_) 2 (some 56) rfl rfl (by kernel_rfl) (by kernel_rfl) (by kernel_rfl) (by decide) (fun _ _ _ h => h) (by rfl) ?_ (by assumption) ?_
      rotate_left
      · intro w'
        go_simp
        try with_reducible rfl
      try simp only [Act.put, List.setIfInBounds_toArray, List.set_cons_zero, List.set_cons_succ]
      refine pickA (v := ?_) 3 (some 57) rfl rfl (by kernel_rfl) (by kernel_rfl) (by kernel_rfl) (by decide) (fun _ _ _ h => h) (by rfl) ?_ (by assumption) ?_
      rotate_left
      · intro w'
        go_simp
        try with_reducible rfl
      try simp only [Act.put, List.setIfInBounds_toArray, List.set_cons_zero, List.set_cons_succ]
      refine pickA (v := ?_) 4 (some 58) rfl rfl (by kernel_rfl) (by kernel_rfl) (by kernel_rfl) (by decide) (fun _ _ _ h => h) (by rfl) ?_ (by assumption) ?_
      rotate_left
      · intro w'
        go_simp
        try with_reducible rfl
      try simp only [Act.put, List.setIfInBounds_toArray, List.set_cons_zero, List.set_cons_succ]
      refine pickA (v := ?_) 5 (some 59) rfl rfl (by kernel_rfl) (by kernel_rfl) (by kernel_rfl) (by decide) (fun _ _ _ h => h) (by rfl) ?_ (by assumption) ?_
      rotate_left
      · intro w'
        go_simp
        try with_reducible rfl
      try simp only [Act.put, List.setIfInBounds_toArray, List.set_cons_zero, List.set_cons_succ]
      refine pickL (v := ?_) 6 (some 60) rfl rfl (by kernel_rfl) (by kernel_rfl) (by kernel_rfl) (by decide) (by kernel_rfl) (by kernel_rfl) (fun _ _ _ h => h) (by rfl) ?_ (by assumption) ?_
      rotate_left
      · intro w' hSw
        obtain ⟨q1, q2, q3, q4, q5, q6, q7⟩ := hSw
        go_simp
        try with_reducible rfl
      try simp only [Act.put, List.setIfInBounds_toArray, List.set_cons_zero, List.set_cons_succ]
      refine pickA (v := ?_) 8 (some 62) rfl rfl (by kernel_rfl) (by kernel_rfl) (by kernel_rfl) (by decide) (fun _ _ _ h => h) (by rfl) ?_ (by assumption) ?_
      rotate_left
      · intro w'
        go_simp
        try with_reducible rfl
      try simp only [Act.put, List.setIfInBounds_toArray, List.set_cons_zero, List.set_cons_succ]
      refine pickA (v := ?_) 9 (some 63) rfl rfl (by kernel_rfl) (by kernel_rfl) (by kernel_rfl) (by decide) (fun _ _ _ h => h) (by rfl) ?_ (by assumption) ?_
      rotate_left
      · intro w'
        go_simp
        try with_reducible rfl
      try simp only [Act.put, List.setIfInBounds_toArray, List.set_cons_zero, List.set_cons_succ]
      refine pickL (v := ?_) 10 (some 64) rfl rfl (by kernel_rfl) (by kernel_rfl) (by kernel_rfl) (by decide) (by kernel_rfl) (by kernel_rfl) (fun _ _ _ h => h) (by rfl) ?_ (by assumption) ?_
      rotate_left
      · intro w' hSw
        obtain ⟨q1, q2, q3, q4, q5, q6, q7⟩ := hSw
        go_simp
        try with_reducible rfl
      try simp only [Act.put, List.setIfInBounds_toArray, List.set_cons_zero, List.set_cons_succ]
      refine pickA (v := ?_) 12 (some 66) rfl rfl (by kernel_rfl) (by kernel_rfl) (by kernel_rfl) (by decide) (fun _ _ _ h => h) (by rfl) ?_ (by assumption) ?_
      rotate_left
      · intro w'
        go_simp
        try with_reducible rfl
      try simp only [Act.put, List.setIfInBounds_toArray, List.set_cons_zero, List.set_cons_succ]
      refine pickA (v := ?_) 13 (some 67) rfl rfl (by kernel_rfl) (by kernel_rfl) (by kernel_rfl) (by decide) (fun _ _ _ h => h) (by rfl) ?_ (by assumption) ?_
      rotate_left
      · intro w'
        go_simp
        try with_reducible rfl
      try simp only [Act.put, List.setIfInBounds_toArray, List.set_cons_zero, List.set_cons_succ]
      refine pickL (v := ?_) 14 (some 68) rfl rfl (by kernel_rfl) (by kernel_rfl) (by kernel_rfl) (by decide) (by kernel_rfl) (by kernel_rfl) (fun _ _ _ h => h) (by rfl) ?_ (by assumption) ?_
      rotate_left
      · intro w' hSw
        obtain ⟨q1, q2, q3, q4, q5, q6, q7⟩ := hSw
        go_simp
        try with_reducible rfl
      try simp only [Act.put, List.setIfInBounds_toArray, List.set_cons_zero, List.set_cons_succ]
      refine pickA (v := ?_) 15 (some 69) rfl rfl (by kernel_rfl) (by kernel_rfl) (by kernel_rfl) (by decide) (fun _ _ _ h => h) (by rfl) ?_ (by assumption) ?_
      rotate_left
      · intro w'
        go_simp
        try with_reducible rfl
      try simp only [Act.put, List.setIfInBounds_toArray, List.set_cons_zero, List.set_cons_succ]
      refine pickL (v := ?_) 16 (some 70) rfl rfl (by kernel_rfl) (by kernel_rfl) (by kernel_rfl) (by decide) (by kernel_rfl) (by kernel_rfl) (fun _ _ _ h => h) (by rfl) ?_ (by assumption) ?_
      rotate_left
      · intro w' hSw
        obtain ⟨q1, q2, q3, q4, q5, q6, q7⟩ := hSw
        go_simp
        try with_reducible rfl
      try simp only [Act.put, List.setIfInBounds_toArray, List.set_cons_zero, List.set_cons_succ]
      refine pickA (v := ?_) 20 (some 74) rfl rfl (by kernel_rfl) (by kernel_rfl) (by kernel_rfl) (by decide) (fun _ _ _ h => h) (by rfl) ?_ (by assumption) ?_
      rotate_left
      · intro w'
        go_simp
        try with_reducible rfl
      try simp only [Act.put, List.setIfInBounds_toArray, List.set_cons_zero, List.set_cons_succ]
      refine oneL (i := 7) (by kernel_rfl) rfl (fun K hK => ?_)
      go_simp
      refine (put_no p fa fn ta tn a len cap _ N4d.out).mono ?_; rintro e w5 ⟨rfl, hb⟩
      have hb5 := hide hb
      have HBw5 := hide (HBd4.out.trans (hb.mono HBd4.out.size))
      have hSw5 := hide (hK9.out w5 HBw5.out)
      refine hK.out _ _ ?_ ?_
      · exact hSw5.out
      clear hK K
      try simp only [Act.put, List.setIfInBounds_toArray, List.set_cons_zero, List.set_cons_succ]
      clear hHeld hb
      have hHeld := hSw5.out
      have N5 := hide (N4d.out.below hb5.out)
      refine oneL (i := 11) (by kernel_rfl) rfl (fun K hK => ?_)
      go_simp
      refine (drop_no p I _ N5.out).mono ?_; rintro e w6 ⟨rfl, hb⟩
      have hb6 := hide hb
      have HBw6 := hide (HBw5.out.trans (hb.mono HBw5.out.size))
      have hSw6 := hide (hK9.out w6 HBw6.out)
      refine hK.out _ _ ?_ ?_
      · exact hSw6.out
      clear hK K
      try simp only [Act.put, List.setIfInBounds_toArray, List.set_cons_zero, List.set_cons_succ]
      clear hHeld hb
      have hHeld := hSw6.out
      have N6 := hide (N5.out.below hb6.out)
      refine oneL (i := 17) (by kernel_rfl) rfl (fun K hK => ?_)
      go_simp
      refine (swap_no p I KK _ N6.out).mono ?_; rintro e w7 ⟨rfl, hb⟩
      have hb7 := hide hb
      have HBw7 := hide (HBw6.out.trans (hb.mono HBw6.out.size))
      have hSw7 := hide (hK9.out w7 HBw7.out)
      refine hK.out _ _ ?_ ?_
      · exact hSw7.out
      clear hK K
      try simp only [Act.put, List.setIfInBounds_toArray, List.set_cons_zero, List.set_cons_succ]
      clear hHeld hb
      have hHeld := hSw7.out
      have N7 := hide (N6.out.below hb7.out)
      have bel8 := (Below.refl w7.heap.size w7).alloc (Nat.le_refl _) (.cells #[.int .i64 4, .int .i64 4, .int .i64 4, .int .i64 4, .int .i64 4, .int .i64 4, .int .i64 4] 41)
      have hS8 := hide (hK9.out _ (HBw7.out.trans (bel8.mono HBw7.out.size)))
      refine oneL (i := 18) (by kernel_rfl) rfl (fun K hK => ?_)
      go_simp
      refine hK.out _ _ ?_ ?_
      · exact hS8.out
      clear hK K
      try simp only [Act.put, List.setIfInBounds_toArray, List.set_cons_zero, List.set_cons_succ]
      clear hHeld
      have hHeld := hS8.out
      refine pickA (v := ?_) 19 (some 73) rfl rfl (by kernel_rfl) (by kernel_rfl) (by kernel_rfl) (by decide) (fun _ _ _ h => h) (by rfl) ?_ (by assumption) ?_
      rotate_left
      · intro w'
        go_simp
        try with_reducible rfl
      try simp only [Act.put, List.setIfInBounds_toArray, List.set_cons_zero, List.set_cons_succ]
      refine doneL (by kernel_rfl) ?_ _
      have I7 := IsB.new w7 #[.int .i64 4, .int .i64 4, .int .i64 4, .int .i64 4, .int .i64 4, .int .i64 4, .int .i64 4] 41
      have b57 := (((Below.refl _ w4).drew.trans (hb5.out)).trans (hb6.out.mono hb5.out.size)).trans (hb7.out.mono (Nat.le_trans hb5.out.size hb6.out.size))
      have A18 := hide ((A14.out.below b57).below bel8)
      have A28 := hide ((A24.out.below b57).below bel8)
      have A38 := hide ((A34.out.below b57).below bel8)
      have N8 := hide (N7.out.below bel8)
      have B8 := hide (HBw7.out.trans (bel8.mono HBw7.out.size))
      clear hHeld hS8 bel8 b57 N7 N6 N5 N4d hb5 hb6 hb7 A14 A24 A34 hSw5 hSw6 hSw7 HBw5 HBw6 HBw4 HBd4 HS9 N4
      generalize hW8 : w7.alloc (.cells #[.int .i64 4, .int .i64 4, .int .i64 4, .int .i64 4, .int .i64 4, .int .i64 4, .int .i64 4] 41) = W8 at *
      generalize w7.heap.size = B7 at *
      have H7 : Hid (∀ q, q < 7 → W8.cell? ⟨B7, q, none⟩ = some (.int .i64 4)) := fun q hq => by
        rw [I7.cell q]
        have : q = 0 ∨ q = 1 ∨ q = 2 ∨ q = 3 ∨ q = 4 ∨ q = 5 ∨ q = 6 := by omega
        rcases this with rfl | rfl | rfl | rfl | rfl | rfl | rfl <;> rfl
      clear I7 hW8
      go_wp2
      go_loop [74] (fun i => ∃ q : Nat, q ≤ 7 ∧ i = .int .i64 (q : Int)) (fun i => 7 - (intOf i).toNat)
      case atStart => exact ⟨0, by omega, rfl⟩
      case round =>
        obtain ⟨q, hq, rfl⟩ := hrel
        by_cases hq7 : q < 7
        · have hc := H7.out q hq7
          go_wp2
          exact ⟨⟨q + 1, by omega, by simp⟩, by simp [intOf]; omega⟩
        · go_wp2
          have hK15 : Hid (∀ W, Below W8.heap.size W8 W → (fun w' => w'.cell? ⟨A1, 4, none⟩ = some (.slice none 0 0) ∧ w'.cell? ⟨A2, 4, none⟩ = some (.slice none 0 0) ∧ w'.cell? ⟨A3, 4, none⟩ = some (.slice none 0 0) ∧ w'.cell? ⟨O, 3, none⟩ = some (.bool ta) ∧ w'.cell? ⟨O, 4, none⟩ = some (.int .i64 tn)) W) := fun W hW => by
            have hOW := (hO.out.below B8.out).below hW
            exact ⟨(A18.out.below hW).cell 4, (A28.out.below hW).cell 4, (A38.out.below hW).cell 4, hOW.cell 3, hOW.cell 4⟩
          have HS15 := hide (hK15.out W8.drew ((Below.refl _ _).drew))
          have N8d : Hid (NoNet W8.drew p) := N8.out.below ((Below.refl _ W8).drew)
          have B8d := hide ((Below.refl W8.heap.size W8).drew)
          refine regionL 30 (fun w' => w'.cell? ⟨A1, 4, none⟩ = some (.slice none 0 0) ∧ w'.cell? ⟨A2, 4, none⟩ = some (.slice none 0 0) ∧ w'.cell? ⟨A3, 4, none⟩ = some (.slice none 0 0) ∧ w'.cell? ⟨O, 3, none⟩ = some (.bool ta) ∧ w'.cell? ⟨O, 4, none⟩ = some (.int .i64 tn)) mixed HS15.out (fun hHeld => ?_)
          refine pickA (v := ?_) 0 (some 81) rfl rfl (by kernel_rfl) (by kernel_rfl) (by kernel_rfl) (by decide) (fun _ _ _ h => h) (by rfl) ?_ (by assumption) ?_
          rotate_left
          · intro w'
            go_simp
            try with_reducible rfl
          try simp only [Act.put, List.setIfInBounds_toArray, List.set_cons_zero, List.set_cons_succ]
          refine pickL (v := ?_) 1 (some 82) rfl rfl (by kernel_rfl) (by kernel_rfl) (by kernel_rfl) (by decide) (by kernel_rfl) (by kernel_rfl) (fun _ _ _ h => h) (by rfl) ?_ (by assumption) ?_
          rotate_left
          · intro w' hSw
            obtain ⟨q1, q2, q3, q4, q5⟩ := hSw
            go_simp
            try with_reducible rfl
          try simp only [Act.put, List.setIfInBounds_toArray, List.set_cons_zero, List.set_cons_succ]
          refine pickA (v := ?_) 2 (some 83) rfl rfl (by kernel_rfl) (by kernel_rfl) (by kernel_rfl) (by decide) (fun _ _ _ h => h) (by rfl) ?_ (by assumption) ?_
          rotate_left
          · intro w'
            go_simp
            try with_reducible rfl
          try simp only [Act.put, List.setIfInBounds_toArray, List.set_cons_zero, List.set_cons_succ]
          refine pickA (v := ?_) 3 (some 84) rfl rfl (by kernel_rfl) (by kernel_rfl) (by kernel_rfl) (by decide) (fun _ _ _ h => h) (by rfl) ?_ (by assumption) ?_
          rotate_left
          · intro w'
            go_simp
            try with_reducible rfl
          try simp only [Act.put, List.setIfInBounds_toArray, List.set_cons_zero, List.set_cons_succ]
          refine pickL (v := ?_) 4 (some 85) rfl rfl (by kernel_rfl) (by kernel_rfl) (by kernel_rfl) (by decide) (by kernel_rfl) (by kernel_rfl) (fun _ _ _ h => h) (by rfl) ?_ (by assumption) ?_
          rotate_left
          · intro w' hSw
            obtain ⟨q1, q2, q3, q4, q5⟩ := hSw
            go_simp
            try with_reducible rfl
          try simp only [Act.put, List.setIfInBounds_toArray, List.set_cons_zero, List.set_cons_succ]
          refine pickA (v := ?_) 5 (some 86) rfl rfl (by kernel_rfl) (by kernel_rfl) (by kernel_rfl) (by decide) (fun _ _ _ h => h) (by rfl) ?_ (by assumption) ?_
          rotate_left
          · intro w'
            go_simp
            try with_reducible rfl
          try simp only [Act.put, List.setIfInBounds_toArray, List.set_cons_zero, List.set_cons_succ]
          refine pickA (v := ?_) 6 (some 87) rfl rfl (by kernel_rfl) (by kernel_rfl) (by kernel_rfl) (by decide) (fun _ _ _ h => h) (by rfl) ?_ (by assumption) ?_
          rotate_left
          · intro w'
            go_simp
            try with_reducible rfl
          try simp only [Act.put, List.setIfInBounds_toArray, List.set_cons_zero, List.set_cons_succ]
          refine pickA (v := ?_) 7 (some 88) rfl rfl (by kernel_rfl) (by kernel_rfl) (by kernel_rfl) (by decide) (fun _ _ _ h => h) (by rfl) ?_ (by assumption) ?_
          rotate_left
          · intro w'
            go_simp
            try with_reducible rfl
          try simp only [Act.put, List.setIfInBounds_toArray, List.set_cons_zero, List.set_cons_succ]
          refine pickL (v := ?_) 8 (some 89) rfl rfl (by kernel_rfl) (by kernel_rfl) (by kernel_rfl) (by decide) (by kernel_rfl) (by kernel_rfl) (fun _ _ _ h => h) (by rfl) ?_ (by assumption) ?_
          rotate_left
          · intro w' hSw
            obtain ⟨q1, q2, q3, q4, q5⟩ := hSw
            go_simp
            try with_reducible rfl
          try simp only [Act.put, List.setIfInBounds_toArray, List.set_cons_zero, List.set_cons_succ]
          refine pickA (v := ?_) 9 (some 90) rfl rfl (by kernel_rfl) (by kernel_rfl) (by kernel_rfl) (by decide) (fun _ _ _ h => h) (by rfl) ?_ (by assumption) ?_
          rotate_left
          · intro w'
            go_simp
            try with_reducible rfl
          try simp only [Act.put, List.setIfInBounds_toArray, List.set_cons_zero, List.set_cons_succ]
          refine pickA (v := ?_) 10 (some 91) rfl rfl (by kernel_rfl) (by kernel_rfl) (by kernel_rfl) (by decide) (fun _ _ _ h => h) (by rfl) ?_ (by assumption) ?_
          rotate_left
          · intro w'
            go_simp
            try with_reducible rfl
          try simp only [Act.put, List.setIfInBounds_toArray, List.set_cons_zero, List.set_cons_succ]
          refine pickA (v := ?_) 11 (some 92) rfl rfl (by kernel_rfl) (by kernel_rfl) (by kernel_rfl) (by decide) (fun _ _ _ h => h) (by rfl) ?_ (by assumption) ?_
          rotate_left
          · intro w'
            go_simp
            try with_reducible rfl
          try simp only [Act.put, List.setIfInBounds_toArray, List.set_cons_zero, List.set_cons_succ]
          refine pickA (v := ?_) 12 (some 93) rfl rfl (by kernel_rfl) (by kernel_rfl) (by kernel_rfl) (by decide) (fun _ _ _ h => h) (by rfl) ?_ (by assumption) ?_
          rotate_left
          · intro w'
            go_simp
            try with_reducible rfl
          try simp only [Act.put, List.setIfInBounds_toArray, List.set_cons_zero, List.set_cons_succ]
          refine pickA (v := ?_) 13 (some 94) rfl rfl (by kernel_rfl) (by kernel_rfl) (by kernel_rfl) (by decide) (fun _ _ _ h => h) (by rfl) ?_ (by assumption) ?_
          rotate_left
          · intro w'
            go_simp
            try with_reducible rfl
          try simp only [Act.put, List.setIfInBounds_toArray, List.set_cons_zero, List.set_cons_succ]
          refine pickA (v := ?_) 16 (some 97) rfl rfl (by kernel_rfl) (by kernel_rfl) (by kernel_rfl) (by decide) (fun _ _ _ h => h) (by rfl) ?_ (by assumption) ?_
          rotate_left
          · intro w'
            go_simp
            try with_reducible rfl
          try simp only [Act.put, List.setIfInBounds_toArray, List.set_cons_zero, List.set_cons_succ]
          refine pickA (v := ?_) 17 (some 98) rfl rfl (by kernel_rfl) (by kernel_rfl) (by kernel_rfl) (by decide) (fun _ _ _ h => h) (by rfl) ?_ (by assumption) ?_
          rotate_left
          · intro w'
            go_simp
            try with_reducible rfl
          try simp only [Act.put, List.setIfInBounds_toArray, List.set_cons_zero, List.set_cons_succ]
          refine pickA (v := ?_) 18 (some 99) rfl rfl (by kernel_rfl) (by kernel_rfl) (by kernel_rfl) (by decide) (fun _ _ _ h => h) (by rfl) ?_ (by assumption) ?_
          rotate_left
          · intro w'
            go_simp
            try with_reducible rfl
          try simp only [Act.put, List.setIfInBounds_toArray, List.set_cons_zero, List.set_cons_succ]
          refine pickL (v := ?_) 19 (some 100) rfl rfl (by kernel_rfl) (by kernel_rfl) (by kernel_rfl) (by decide) (by kernel_rfl) (by kernel_rfl) (fun _ _ _ h => h) (by rfl) ?_ (by assumption) ?_
          rotate_left
          · intro w' hSw
            obtain ⟨q1, q2, q3, q4, q5⟩ := hSw
            go_simp
            try with_reducible rfl
          try simp only [Act.put, List.setIfInBounds_toArray, List.set_cons_zero, List.set_cons_succ]
          refine oneL (i := 14) (by kernel_rfl) rfl (fun K hK => ?_)
          go_simp
          refine (len_no p _ N8d.out).mono ?_; rintro e w9 ⟨rfl, rfl⟩
          refine hK.out _ _ ?_ ?_
          · exact HS15.out
          clear hK K
          try simp only [Act.put, List.setIfInBounds_toArray, List.set_cons_zero, List.set_cons_succ]
          refine pickA (v := ?_) 15 (some 96) rfl rfl (by kernel_rfl) (by kernel_rfl) (by kernel_rfl) (by decide) (fun _ _ _ h => h) (by rfl) ?_ (by assumption) ?_
          rotate_left
          · intro w'
            go_simp
            try with_reducible rfl
          try simp only [Act.put, List.setIfInBounds_toArray, List.set_cons_zero, List.set_cons_succ]
          refine oneL (i := 20) (by kernel_rfl) rfl (fun K hK => ?_)
          go_simp
          refine (to_no p ta tn _ N8d.out).mono ?_; rintro e w9 ⟨rfl, hb⟩
          have B9 := hide (B8d.out.trans (hb.mono (by simp)))
          have N9 := hide (N8d.out.below hb)
          have hS9' := hide (hK15.out w9 B9.out)
          clear hb
          refine hK.out _ _ ?_ ?_
          · exact hS9'.out
          clear hK K
          try simp only [Act.put, List.setIfInBounds_toArray, List.set_cons_zero, List.set_cons_succ]
          clear hHeld
          have hHeld := hS9'.out
          refine pickA (v := ?_) 21 (some 102) rfl rfl (by kernel_rfl) (by kernel_rfl) (by kernel_rfl) (by decide) (fun _ _ _ h => h) (by rfl) ?_ (by assumption) ?_
          rotate_left
          · intro w'
            go_simp
            try with_reducible rfl
          try simp only [Act.put, List.setIfInBounds_toArray, List.set_cons_zero, List.set_cons_succ]
          refine pickA (v := ?_) 22 (some 103) rfl rfl (by kernel_rfl) (by kernel_rfl) (by kernel_rfl) (by decide) (fun _ _ _ h => h) (by rfl) ?_ (by assumption) ?_
          rotate_left
          · intro w'
            go_simp
            try with_reducible rfl
          try simp only [Act.put, List.setIfInBounds_toArray, List.set_cons_zero, List.set_cons_succ]
          refine pickA (v := ?_) 23 (some 104) rfl rfl (by kernel_rfl) (by kernel_rfl) (by kernel_rfl) (by decide) (fun _ _ _ h => h) (by rfl) ?_ (by assumption) ?_
          rotate_left
          · intro w'
            go_simp
            try with_reducible rfl
          try simp only [Act.put, List.setIfInBounds_toArray, List.set_cons_zero, List.set_cons_succ]
          refine pickA (v := ?_) 24 (some 105) rfl rfl (by kernel_rfl) (by kernel_rfl) (by kernel_rfl) (by decide) (fun _ _ _ h => h) (by rfl) ?_ (by assumption) ?_
          rotate_left
          · intro w'
            go_simp
            try with_reducible rfl
          try simp only [Act.put, List.setIfInBounds_toArray, List.set_cons_zero, List.set_cons_succ]
          refine pickA (v := ?_) 25 (some 106) rfl rfl (by kernel_rfl) (by kernel_rfl) (by kernel_rfl) (by decide) (fun _ _ _ h => h) (by rfl) ?_ (by assumption) ?_
          rotate_left
          · intro w'
            go_simp
            try with_reducible rfl
          try simp only [Act.put, List.setIfInBounds_toArray, List.set_cons_zero, List.set_cons_succ]
          refine pickA (v := ?_) 27 (some 108) rfl rfl (by kernel_rfl) (by kernel_rfl) (by kernel_rfl) (by decide) (fun _ _ _ h => h) (by rfl) ?_ (by assumption) ?_
          rotate_left
          · intro w'
            go_simp
            try with_reducible rfl
          try simp only [Act.put, List.setIfInBounds_toArray, List.set_cons_zero, List.set_cons_succ]
          refine oneL (i := 26) (by kernel_rfl) rfl (fun K hK => ?_)
          go_simp
          refine (stats_no p _ N9.out).mono ?_; rintro e w10 ⟨rfl, hb⟩
          unfold statV
          have B10 := hide (B9.out.trans (hb.mono B9.out.size))
          have hS10 := hide (hK15.out w10 B10.out)
          clear hb
          refine hK.out _ _ ?_ ?_
          · exact hS10.out
          clear hK K
          try simp only [Act.put, List.setIfInBounds_toArray, List.set_cons_zero, List.set_cons_succ]
          clear hHeld
          have hHeld := hS10.out
          refine pickA (v := ?_) 28 (some 109) rfl rfl (by kernel_rfl) (by kernel_rfl) (by kernel_rfl) (by decide) (fun _ _ _ h => h) (by rfl) ?_ (by assumption) ?_
          rotate_left
          · intro w'
            go_simp
            try with_reducible rfl
          try simp only [Act.put, List.setIfInBounds_toArray, List.set_cons_zero, List.set_cons_succ]
          refine pickA (v := ?_) 29 (some 110) rfl rfl (by kernel_rfl) (by kernel_rfl) (by kernel_rfl) (by decide) (fun _ _ _ h => h) (by rfl) ?_ (by assumption) ?_
          rotate_left
          · intro w'
            go_simp
            try with_reducible rfl
          try simp only [Act.put, List.setIfInBounds_toArray, List.set_cons_zero, List.set_cons_succ]
          refine doneL (by kernel_rfl) ?_ _
          clear hHeld
          go_wp2
          refine ⟨⟨j + 1, by omega, by simp, ?_⟩, by simp [intOf]; omega⟩
          exact B8.out.trans (B10.out.mono B8.out.size)
    · go_wp2_with fail
      refine (alive_any wr).mono ?_; rintro e w9 ⟨rfl, hb⟩
      have HB9 := hide (hW0.out.trans ((HB0.out.trans (hb.mono HB0.out.size)).mono hW0.out.size))
      clear hb
      go_wp2
      go_ret
      exact ⟨rfl, HB9.out⟩

end Go.Proofs.Ytjfjogoojfibiaa
