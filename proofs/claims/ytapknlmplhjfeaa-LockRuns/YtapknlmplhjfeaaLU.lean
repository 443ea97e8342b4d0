/- LockRuns: the law walked. -/
import Derived.Test.YtapknlmplhjfeaaLT
namespace Go.Proofs.Ytapknlmplhjfeaa
open Go.RowKit Go.Maps

theorem chE_eq (a o : Int) : (chE a o == 0) = okO a o := by
  unfold chE
  cases okO a o <;> rfl

set_option maxHeartbeats 8000000 in
set_option maxRecDepth 100000 in
theorem lockRuns_walk (sa : Option Addr) (len cap : Nat) (w : World) (hs : Scr w sa len) : Calls Try.prog 3 #[.slice sa len cap] w fun e w' => e = .returned (.bool true) ∧ Below w.heap.size w w' := by
  have mixed : Try.prog.follows .mixedOrders = true := by kernel_rfl
  have hpn := ptr_eq_nil
  have hce : Hid (∀ a o, (chE a o == 0) = okO a o) := chE_eq
  replace hs := hide hs
  go_enter Try.func3, Try.ntmps3
  go_wp2_with fail
  refine (new_any w).mono ?_; rintro e w1 ⟨b, rfl, hb, hN, hbl⟩
  have hbne : b < w1.heap.size := hN.blk.lt
  have bel1 := (Below.refl w1.heap.size w1).alloc (Nat.le_refl _) (.cells #[.bool false, .int .i64 0, .int .i64 0, .slice none 0 0] 30)
  have T1 : Hid (Two (w1.alloc (.cells #[.bool false, .int .i64 0, .int .i64 0, .slice none 0 0] 30)) b w1.heap.size (.slice none 0 0) (.slice none 0 0) []) := ⟨hN.below bel1, ⟨IsB.new w1 _ _, ⟨rfl, Or.inl ⟨rfl, rfl⟩⟩, by simp⟩, Good.nil⟩
  have B1 := hide (hbl.trans (bel1.mono hbl.size))
  have hrb : Hid (w.heap.size ≤ w1.heap.size) := hbl.size
  replace hb := hide hb
  clear hN hbl bel1 hbne
  go_wp2
  generalize w1.alloc (.cells #[.bool false, .int .i64 0, .int .i64 0, .slice none 0 0] 30) = W1 at *
  generalize w1.heap.size = rb at *
  go_loopw [5] (fun i wr => ∃ j : Nat, j ≤ len ∧ j ≤ 150 ∧ i = .int .i64 (j : Int) ∧ Hid (∃ v rv os, Two wr b rb v rv os ∧ Kp [b, rb] W1 wr)) (fun i _ => 150 - (intOf i).toNat)
  case atStart => exact ⟨0, by omega, by omega, rfl, _, _, _, T1.out, Kp.refl _ _⟩
  case round =>
    obtain ⟨j, hj, hj2, rfl, hX⟩ := hrel
    obtain ⟨v, rv, os, hT0, hK0⟩ := hX.out
    have T0 := hide hT0
    have K0 := hide hK0
    have HB0 : Hid (Below w.heap.size w wr) := B1.out.trans (hK0.to_below B1.out.size (by simp; exact ⟨hb.out, hrb.out⟩))
    clear hX hT0 hK0
    by_cases hlt : j < len
    · by_cases h150 : j < 150
      · obtain ⟨g, k, rfl, hel⟩ : ∃ g k, sa = some ⟨g, k, none⟩ ∧ ∀ j, j < len → ∃ kd x y, OpAt w g (k + j * 3) kd x y := by
          rcases hs.out with h | ⟨g, o, h1, h2⟩
          · omega
          · exact ⟨g, o, h1, h2⟩
        obtain ⟨kd, a, o, hop⟩ := hel j hlt
        have hcl : Hid ((chE a o == 0) = okO a o) := hce.out a o
        have hS : Hid (∀ W, Below w.heap.size w W → (fun w' => w'.cell? ⟨g, k + j * 3, none⟩ = some (.int .i64 kd) ∧ w'.cell? ⟨g, k + j * 3 + 1, none⟩ = some (.int .i64 a) ∧ w'.cell? ⟨g, k + j * 3 + 2, none⟩ = some (.int .i64 o)) W) := fun W hW => ⟨(hop.below hW).c0, (hop.below hW).c1, (hop.below hW).c2⟩
        clear hel hop
        have HBD : Hid (Below w.heap.size w wr.drew) := HB0.out.drew
        have TD := hide (T0.out.below ((Below.refl _ wr).drew))
        have KD := hide (K0.out.drew)
        have HS7 := hide (hS.out _ HBD.out)
        clear T0 K0 HB0
        have hwr3 : j * 3 ≤ 1000 := by omega
        go_wp2
        refine regionL 24 (fun w' => w'.cell? ⟨g, k + j * 3, none⟩ = some (.int .i64 kd) ∧ w'.cell? ⟨g, k + j * 3 + 1, none⟩ = some (.int .i64 a) ∧ w'.cell? ⟨g, k + j * 3 + 2, none⟩ = some (.int .i64 o)) mixed HS7.out (fun hHeld => ?_)
        refine pickA (v := ?_) 0 (some 23) rfl rfl (by kernel_rfl) (by kernel_rfl) (by kernel_rfl) (by decide) (fun _ _ _ h => h) (by rfl) ?_ (by assumption) ?_
        rotate_left
        · intro w'
          go_simp
          try with_reducible rfl
        try simp only [Act.put, List.setIfInBounds_toArray, List.set_cons_zero, List.set_cons_succ]
        refine pickA (v := ?_) 1 (some 24) rfl rfl (by kernel_rfl) (by kernel_rfl) (by kernel_rfl) (by decide) (fun _ _ _ h => h) (by rfl) ?_ (by assumption) ?_
        rotate_left
        · intro w'
          go_simp
          try with_reducible rfl
        try simp only [Act.put, List.setIfInBounds_toArray, List.set_cons_zero, List.set_cons_succ]
        refine pickA (v := ?_) 2 (some 25) rfl rfl (by kernel_rfl) (by kernel_rfl) (by kernel_rfl) (by decide) (fun _ _ _ h => h) (by rfl) ?_ (by assumption) ?_
        rotate_left
        · intro w'
          go_simp
          try with_reducible rfl
        try simp only [Act.put, List.setIfInBounds_toArray, List.set_cons_zero, List.set_cons_succ]
        refine pickA (v := ?_) 3 (some 26) rfl rfl (by kernel_rfl) (by kernel_rfl) (by kernel_rfl) (by decide) (fun _ _ _ h => h) (by rfl) ?_ (by assumption) ?_
        rotate_left
        · intro w'
          go_simp
          try with_reducible rfl
        try simp only [Act.put, List.setIfInBounds_toArray, List.set_cons_zero, List.set_cons_succ]
        refine pickA (v := ?_) 4 (some 27) rfl rfl (by kernel_rfl) (by kernel_rfl) (by kernel_rfl) (by decide) (fun _ _ _ h => h) (by rfl) ?_ (by assumption) ?_
        rotate_left
        · intro w'
          go_simp
          try with_reducible rfl
        try simp only [Act.put, List.setIfInBounds_toArray, List.set_cons_zero, List.set_cons_succ]
        refine pickL (v := ?_) 5 (some 28) rfl rfl (by kernel_rfl) (by kernel_rfl) (by kernel_rfl) (by decide) (by kernel_rfl) (by kernel_rfl) (fun _ _ _ h => h) (by rfl) ?_ (by assumption) ?_
        rotate_left
        · intro w' hSw
          obtain ⟨q0, q1, q2⟩ := hSw
          go_simp
          try with_reducible rfl
        try simp only [Act.put, List.setIfInBounds_toArray, List.set_cons_zero, List.set_cons_succ]
        refine oneL (i := 6) (by kernel_rfl) rfl (fun K hK => ?_)
        go_simp
        refine (step_any b rb v rv os _ TD.out kd a o).mono ?_; rintro e w2 ⟨rfl, v2, rv2, os2, hT, hk⟩
        have HB2 : Hid (Below w.heap.size w w2) := HBD.out.trans (hk.to_below HBD.out.size (by simp; exact ⟨hb.out, hrb.out⟩))
        have T2 := hide hT
        have K2 := hide (KD.out.trans hk (by simp))
        clear hT hk
        refine hK.out _ _ ?_ ?_
        · exact hS.out w2 HB2.out
        clear hK K
        try simp only [Act.put, List.setIfInBounds_toArray, List.set_cons_zero, List.set_cons_succ]
        clear hHeld
        have hHeld := hS.out w2 HB2.out
        refine pickA (v := ?_) 7 (some 30) rfl rfl (by kernel_rfl) (by kernel_rfl) (by kernel_rfl) (by decide) (fun _ _ _ h => h) (by rfl) ?_ (by assumption) ?_
        rotate_left
        · intro w'
          go_simp
          try with_reducible rfl
        try simp only [Act.put, List.setIfInBounds_toArray, List.set_cons_zero, List.set_cons_succ]
        refine pickA (v := ?_) 8 (some 31) rfl rfl (by kernel_rfl) (by kernel_rfl) (by kernel_rfl) (by decide) (fun _ _ _ h => h) (by rfl) ?_ (by assumption) ?_
        rotate_left
        · intro w'
          go_simp
          try with_reducible rfl
        try simp only [Act.put, List.setIfInBounds_toArray, List.set_cons_zero, List.set_cons_succ]
        refine pickA (v := ?_) 9 (some 32) rfl rfl (by kernel_rfl) (by kernel_rfl) (by kernel_rfl) (by decide) (fun _ _ _ h => h) (by rfl) ?_ (by assumption) ?_
        rotate_left
        · intro w'
          go_simp
          try with_reducible rfl
        try simp only [Act.put, List.setIfInBounds_toArray, List.set_cons_zero, List.set_cons_succ]
        refine pickA (v := ?_) 10 (some 33) rfl rfl (by kernel_rfl) (by kernel_rfl) (by kernel_rfl) (by decide) (fun _ _ _ h => h) (by rfl) ?_ (by assumption) ?_
        rotate_left
        · intro w'
          go_simp
          try with_reducible rfl
        try simp only [Act.put, List.setIfInBounds_toArray, List.set_cons_zero, List.set_cons_succ]
        refine pickA (v := ?_) 11 (some 34) rfl rfl (by kernel_rfl) (by kernel_rfl) (by kernel_rfl) (by decide) (fun _ _ _ h => h) (by rfl) ?_ (by assumption) ?_
        rotate_left
        · intro w'
          go_simp
          try with_reducible rfl
        try simp only [Act.put, List.setIfInBounds_toArray, List.set_cons_zero, List.set_cons_succ]
        refine pickA (v := ?_) 12 (some 35) rfl rfl (by kernel_rfl) (by kernel_rfl) (by kernel_rfl) (by decide) (fun _ _ _ h => h) (by rfl) ?_ (by assumption) ?_
        rotate_left
        · intro w'
          go_simp
          try with_reducible rfl
        try simp only [Act.put, List.setIfInBounds_toArray, List.set_cons_zero, List.set_cons_succ]
        refine pickL (v := ?_) 13 (some 36) rfl rfl (by kernel_rfl) (by kernel_rfl) (by kernel_rfl) (by decide) (by kernel_rfl) (by kernel_rfl) (fun _ _ _ h => h) (by rfl) ?_ (by assumption) ?_
        rotate_left
        · intro w' hSw
          obtain ⟨q0, q1, q2⟩ := hSw
          go_simp
          try with_reducible rfl
        try simp only [Act.put, List.setIfInBounds_toArray, List.set_cons_zero, List.set_cons_succ]
        refine pickA (v := ?_) 16 (some 39) rfl rfl (by kernel_rfl) (by kernel_rfl) (by kernel_rfl) (by decide) (fun _ _ _ h => h) (by rfl) ?_ (by assumption) ?_
        rotate_left
        · intro w'
          go_simp
          try with_reducible rfl
        try simp only [Act.put, List.setIfInBounds_toArray, List.set_cons_zero, List.set_cons_succ]
        refine pickA (v := ?_) 17 (some 40) rfl rfl (by kernel_rfl) (by kernel_rfl) (by kernel_rfl) (by decide) (fun _ _ _ h => h) (by rfl) ?_ (by assumption) ?_
        rotate_left
        · intro w'
          go_simp
          try with_reducible rfl
        try simp only [Act.put, List.setIfInBounds_toArray, List.set_cons_zero, List.set_cons_succ]
        refine pickA (v := ?_) 18 (some 41) rfl rfl (by kernel_rfl) (by kernel_rfl) (by kernel_rfl) (by decide) (fun _ _ _ h => h) (by rfl) ?_ (by assumption) ?_
        rotate_left
        · intro w'
          go_simp
          try with_reducible rfl
        try simp only [Act.put, List.setIfInBounds_toArray, List.set_cons_zero, List.set_cons_succ]
        refine pickA (v := ?_) 19 (some 42) rfl rfl (by kernel_rfl) (by kernel_rfl) (by kernel_rfl) (by decide) (fun _ _ _ h => h) (by rfl) ?_ (by assumption) ?_
        rotate_left
        · intro w'
          go_simp
          try with_reducible rfl
        try simp only [Act.put, List.setIfInBounds_toArray, List.set_cons_zero, List.set_cons_succ]
        refine pickL (v := ?_) 20 (some 43) rfl rfl (by kernel_rfl) (by kernel_rfl) (by kernel_rfl) (by decide) (by kernel_rfl) (by kernel_rfl) (fun _ _ _ h => h) (by rfl) ?_ (by assumption) ?_
        rotate_left
        · intro w' hSw
          obtain ⟨q0, q1, q2⟩ := hSw
          go_simp
          try with_reducible rfl
        try simp only [Act.put, List.setIfInBounds_toArray, List.set_cons_zero, List.set_cons_succ]
        refine oneL (i := 14) (by kernel_rfl) rfl (fun K hK => ?_)
        go_simp
        refine (check_any a o _).mono ?_; rintro e w3 ⟨rfl, hb3⟩
        have HB3 : Hid (Below w.heap.size w w3) := HB2.out.trans (hb3.mono HB2.out.size)
        have T3 := hide (T2.out.below hb3)
        have K3 := hide (K2.out.bel hb3)
        clear hb3
        refine hK.out _ _ ?_ ?_
        · exact hS.out w3 HB3.out
        clear hK K
        try simp only [Act.put, List.setIfInBounds_toArray, List.set_cons_zero, List.set_cons_succ]
        clear hHeld
        have hHeld := hS.out w3 HB3.out
        refine pickA (v := .bool (okO a o)) 15 (some 38) rfl rfl (by kernel_rfl) (by kernel_rfl) (by kernel_rfl) (by decide) (fun _ _ _ h => h) (by rfl) ?_ (by assumption) ?_
        · intro w'
          go_simp
          rw [hcl.out]
        try simp only [Act.put, List.setIfInBounds_toArray, List.set_cons_zero, List.set_cons_succ]
        refine oneL (i := 21) (by kernel_rfl) rfl (fun K hK => ?_)
        go_simp
        refine (isOwner_any a o _).mono ?_; rintro e w4 ⟨rfl, hb4⟩
        have HB4 : Hid (Below w.heap.size w w4) := HB3.out.trans (hb4.mono HB3.out.size)
        have T4 := hide (T3.out.below hb4)
        have K4 := hide (K3.out.bel hb4)
        clear hb4
        refine hK.out _ _ ?_ ?_
        · exact hS.out w4 HB4.out
        clear hK K
        try simp only [Act.put, List.setIfInBounds_toArray, List.set_cons_zero, List.set_cons_succ]
        clear hHeld
        have hHeld := hS.out w4 HB4.out
        refine pickA (v := .bool false) 22 (some 45) rfl rfl (by kernel_rfl) (by kernel_rfl) (by kernel_rfl) (by decide) (fun _ _ _ h => h) (by rfl) ?_ (by assumption) ?_
        · intro w'
          go_simp
        try simp only [Act.put, List.setIfInBounds_toArray, List.set_cons_zero, List.set_cons_succ]
        refine pickA (v := ?_) 23 (some 46) rfl rfl (by kernel_rfl) (by kernel_rfl) (by kernel_rfl) (by decide) (fun _ _ _ h => h) (by rfl) ?_ (by assumption) ?_
        rotate_left
        · intro w'
          go_simp
          try with_reducible rfl
        try simp only [Act.put, List.setIfInBounds_toArray, List.set_cons_zero, List.set_cons_succ]
        refine doneL (by kernel_rfl) ?_ _
        clear hHeld
        clear HB2 HB3 T2 T3 K2 K3 TD KD HBD HS7 hS hcl
        go_wp2_with fail
        refine (holder_any b _ _ _ T4.out.ls).mono ?_; rintro e w5 ⟨rfl, hb5⟩
        have bel6 := (Below.refl w5.heap.size w5).alloc (Nat.le_refl _) (.cells #[.int .i64 (hd os2).1, .int .i64 (hd os2).2] 27)
        have T6 := hide ((T4.out.below hb5).below bel6)
        have K6 := hide ((K4.out.bel hb5).bel bel6)
        have O6 := hide (IsB.new w5 #[.int .i64 (hd os2).1, .int .i64 (hd os2).2] 27)
        have R6 := hide T6.out.rs.blk
        have RW6 := hide T6.out.rs.row.sl
        have L6 := hide T6.out.ls
        clear hb5 bel6 T4 K4 HB4
        obtain ⟨ra, rc, rfl⟩ := T6.out.rs.nat
        go_wp2
        generalize w5.alloc (.cells #[.int .i64 (hd os2).1, .int .i64 (hd os2).2] 27) = W6 at *
        generalize w5.heap.size = F at *
        generalize hrn : os2.tail.length = rn at *
        replace hrn := hide hrn
        generalize (hd os2).1 = x at *
        generalize (hd os2).2 = y at *
        generalize decide (0 < os2.length) = hl at *
        have hK10 : Hid (∀ W, Below W6.drew.heap.size W6.drew W → (fun w' => w'.cell? ⟨rb, 0, none⟩ = some (.bool hl) ∧ w'.cell? ⟨rb, 1, none⟩ = some (.int .i64 x) ∧ w'.cell? ⟨rb, 2, none⟩ = some (.int .i64 y) ∧ w'.cell? ⟨rb, 3, none⟩ = some (.slice ra rn rc) ∧ w'.cell? ⟨F, 0, none⟩ = some (.int .i64 x) ∧ w'.cell? ⟨F, 1, none⟩ = some (.int .i64 y)) W) := fun W hW => by
          have h1 := (R6.out.below ((Below.refl _ _).drew)).below hW
          have h2 := (O6.out.below ((Below.refl _ _).drew)).below hW
          exact ⟨h1.cell 0, h1.cell 1, h1.cell 2, h1.cell 3, h2.cell 0, h2.cell 1⟩
        have HS10 := hide (hK10.out _ (Below.refl _ _))
        refine regionL 24 (fun w' => w'.cell? ⟨rb, 0, none⟩ = some (.bool hl) ∧ w'.cell? ⟨rb, 1, none⟩ = some (.int .i64 x) ∧ w'.cell? ⟨rb, 2, none⟩ = some (.int .i64 y) ∧ w'.cell? ⟨rb, 3, none⟩ = some (.slice ra rn rc) ∧ w'.cell? ⟨F, 0, none⟩ = some (.int .i64 x) ∧ w'.cell? ⟨F, 1, none⟩ = some (.int .i64 y)) mixed HS10.out (fun hHeld => ?_)
        refine pickA (v := ?_) 0 (some 52) rfl rfl (by kernel_rfl) (by kernel_rfl) (by kernel_rfl) (by decide) (fun _ _ _ h => h) (by rfl) ?_ (by assumption) ?_
        rotate_left
        · intro w'
          go_simp
          try with_reducible rfl
        try simp only [Act.put, List.setIfInBounds_toArray, List.set_cons_zero, List.set_cons_succ]
        refine pickA (v := ?_) 1 (some 53) rfl rfl (by kernel_rfl) (by kernel_rfl) (by kernel_rfl) (by decide) (fun _ _ _ h => h) (by rfl) ?_ (by assumption) ?_
        rotate_left
        · intro w'
          go_simp
          try with_reducible rfl
        try simp only [Act.put, List.setIfInBounds_toArray, List.set_cons_zero, List.set_cons_succ]
        refine pickA (v := ?_) 2 (some 54) rfl rfl (by kernel_rfl) (by kernel_rfl) (by kernel_rfl) (by decide) (fun _ _ _ h => h) (by rfl) ?_ (by assumption) ?_
        rotate_left
        · intro w'
          go_simp
          try with_reducible rfl
        try simp only [Act.put, List.setIfInBounds_toArray, List.set_cons_zero, List.set_cons_succ]
        refine pickA (v := ?_) 3 (some 55) rfl rfl (by kernel_rfl) (by kernel_rfl) (by kernel_rfl) (by decide) (fun _ _ _ h => h) (by rfl) ?_ (by assumption) ?_
        rotate_left
        · intro w'
          go_simp
          try with_reducible rfl
        try simp only [Act.put, List.setIfInBounds_toArray, List.set_cons_zero, List.set_cons_succ]
        refine pickL (v := ?_) 4 (some 56) rfl rfl (by kernel_rfl) (by kernel_rfl) (by kernel_rfl) (by decide) (by kernel_rfl) (by kernel_rfl) (fun _ _ _ h => h) (by rfl) ?_ (by assumption) ?_
        rotate_left
        · intro w' hSw
          obtain ⟨q0, q1, q2, q3, q4, q5⟩ := hSw
          go_simp
          try with_reducible rfl
        try simp only [Act.put, List.setIfInBounds_toArray, List.set_cons_zero, List.set_cons_succ]
        refine pickA (v := .bool false) 5 (some 57) rfl rfl (by kernel_rfl) (by kernel_rfl) (by kernel_rfl) (by decide) (fun _ _ _ h => h) (by rfl) ?_ (by assumption) ?_
        · intro w'
          go_simp
        try simp only [Act.put, List.setIfInBounds_toArray, List.set_cons_zero, List.set_cons_succ]
        refine pickA (v := ?_) 6 (some 58) rfl rfl (by kernel_rfl) (by kernel_rfl) (by kernel_rfl) (by decide) (fun _ _ _ h => h) (by rfl) ?_ (by assumption) ?_
        rotate_left
        · intro w'
          go_simp
          try with_reducible rfl
        try simp only [Act.put, List.setIfInBounds_toArray, List.set_cons_zero, List.set_cons_succ]
        refine pickL (v := ?_) 7 (some 59) rfl rfl (by kernel_rfl) (by kernel_rfl) (by kernel_rfl) (by decide) (by kernel_rfl) (by kernel_rfl) (fun _ _ _ h => h) (by rfl) ?_ (by assumption) ?_
        rotate_left
        · intro w' hSw
          obtain ⟨q0, q1, q2, q3, q4, q5⟩ := hSw
          go_simp
          try with_reducible rfl
        try simp only [Act.put, List.setIfInBounds_toArray, List.set_cons_zero, List.set_cons_succ]
        refine pickA (v := ?_) 8 (some 60) rfl rfl (by kernel_rfl) (by kernel_rfl) (by kernel_rfl) (by decide) (fun _ _ _ h => h) (by rfl) ?_ (by assumption) ?_
        rotate_left
        · intro w'
          go_simp
          try with_reducible rfl
        try simp only [Act.put, List.setIfInBounds_toArray, List.set_cons_zero, List.set_cons_succ]
        refine pickA (v := ?_) 9 (some 61) rfl rfl (by kernel_rfl) (by kernel_rfl) (by kernel_rfl) (by decide) (fun _ _ _ h => h) (by rfl) ?_ (by assumption) ?_
        rotate_left
        · intro w'
          go_simp
          try with_reducible rfl
        try simp only [Act.put, List.setIfInBounds_toArray, List.set_cons_zero, List.set_cons_succ]
        refine pickA (v := ?_) 10 (some 62) rfl rfl (by kernel_rfl) (by kernel_rfl) (by kernel_rfl) (by decide) (fun _ _ _ h => h) (by rfl) ?_ (by assumption) ?_
        rotate_left
        · intro w'
          go_simp
          try with_reducible rfl
        try simp only [Act.put, List.setIfInBounds_toArray, List.set_cons_zero, List.set_cons_succ]
        refine pickL (v := ?_) 11 (some 63) rfl rfl (by kernel_rfl) (by kernel_rfl) (by kernel_rfl) (by decide) (by kernel_rfl) (by kernel_rfl) (fun _ _ _ h => h) (by rfl) ?_ (by assumption) ?_
        rotate_left
        · intro w' hSw
          obtain ⟨q0, q1, q2, q3, q4, q5⟩ := hSw
          go_simp
          try with_reducible rfl
        try simp only [Act.put, List.setIfInBounds_toArray, List.set_cons_zero, List.set_cons_succ]
        refine pickA (v := .bool false) 12 (some 64) rfl rfl (by kernel_rfl) (by kernel_rfl) (by kernel_rfl) (by decide) (fun _ _ _ h => h) (by rfl) ?_ (by assumption) ?_
        · intro w'
          go_simp
        try simp only [Act.put, List.setIfInBounds_toArray, List.set_cons_zero, List.set_cons_succ]
        refine pickA (v := ?_) 13 (some 65) rfl rfl (by kernel_rfl) (by kernel_rfl) (by kernel_rfl) (by decide) (fun _ _ _ h => h) (by rfl) ?_ (by assumption) ?_
        rotate_left
        · intro w'
          go_simp
          try with_reducible rfl
        try simp only [Act.put, List.setIfInBounds_toArray, List.set_cons_zero, List.set_cons_succ]
        refine pickA (v := ?_) 14 (some 66) rfl rfl (by kernel_rfl) (by kernel_rfl) (by kernel_rfl) (by decide) (fun _ _ _ h => h) (by rfl) ?_ (by assumption) ?_
        rotate_left
        · intro w'
          go_simp
          try with_reducible rfl
        try simp only [Act.put, List.setIfInBounds_toArray, List.set_cons_zero, List.set_cons_succ]
        refine pickA (v := ?_) 15 (some 67) rfl rfl (by kernel_rfl) (by kernel_rfl) (by kernel_rfl) (by decide) (fun _ _ _ h => h) (by rfl) ?_ (by assumption) ?_
        rotate_left
        · intro w'
          go_simp
          try with_reducible rfl
        try simp only [Act.put, List.setIfInBounds_toArray, List.set_cons_zero, List.set_cons_succ]
        refine pickA (v := ?_) 17 (some 69) rfl rfl (by kernel_rfl) (by kernel_rfl) (by kernel_rfl) (by decide) (fun _ _ _ h => h) (by rfl) ?_ (by assumption) ?_
        rotate_left
        · intro w'
          go_simp
          try with_reducible rfl
        try simp only [Act.put, List.setIfInBounds_toArray, List.set_cons_zero, List.set_cons_succ]
        refine pickA (v := ?_) 18 (some 70) rfl rfl (by kernel_rfl) (by kernel_rfl) (by kernel_rfl) (by decide) (fun _ _ _ h => h) (by rfl) ?_ (by assumption) ?_
        rotate_left
        · intro w'
          go_simp
          try with_reducible rfl
        try simp only [Act.put, List.setIfInBounds_toArray, List.set_cons_zero, List.set_cons_succ]
        refine pickA (v := ?_) 19 (some 71) rfl rfl (by kernel_rfl) (by kernel_rfl) (by kernel_rfl) (by decide) (fun _ _ _ h => h) (by rfl) ?_ (by assumption) ?_
        rotate_left
        · intro w'
          go_simp
          try with_reducible rfl
        try simp only [Act.put, List.setIfInBounds_toArray, List.set_cons_zero, List.set_cons_succ]
        refine pickL (v := ?_) 20 (some 72) rfl rfl (by kernel_rfl) (by kernel_rfl) (by kernel_rfl) (by decide) (by kernel_rfl) (by kernel_rfl) (fun _ _ _ h => h) (by rfl) ?_ (by assumption) ?_
        rotate_left
        · intro w' hSw
          obtain ⟨q0, q1, q2, q3, q4, q5⟩ := hSw
          go_simp
          try with_reducible rfl
        try simp only [Act.put, List.setIfInBounds_toArray, List.set_cons_zero, List.set_cons_succ]
        refine oneL (i := 16) (by kernel_rfl) rfl (fun K hK => ?_)
        go_simp
        refine (waits_any b _ _ _ (L6.out.below ((Below.refl _ _).drew))).mono ?_; rintro e w7 ⟨xv, rfl, hx, -, hb7⟩
        have B7 := hide hb7
        obtain ⟨xa, xc, rfl, -, -⟩ := hx.shape
        have X7 := hide hx.sl
        clear hx hb7
        generalize os2.tail.length = xn at X7 ⊢
        have hS7' := hide (hK10.out w7 B7.out)
        refine hK.out _ _ ?_ ?_
        · exact hS7'.out
        clear hK K
        try simp only [Act.put, List.setIfInBounds_toArray, List.set_cons_zero, List.set_cons_succ]
        clear hHeld
        have hHeld := hS7'.out
        refine oneL (i := 21) (by kernel_rfl) rfl (fun K hK => ?_)
        go_simp
        refine (same_any _ _ os2.tail (by have := T6.out.ls.len; rw [List.length_tail]; omega) _ X7.out ((RW6.out.below ((Below.refl _ _).drew)).below B7.out)).mono ?_; rintro e w8 ⟨rfl, hb8⟩
        have B8 := hide (B7.out.trans (hb8.mono B7.out.size))
        have hS8' := hide (hK10.out w8 B8.out)
        clear hb8
        refine hK.out _ _ ?_ ?_
        · exact hS8'.out
        clear hK K
        try simp only [Act.put, List.setIfInBounds_toArray, List.set_cons_zero, List.set_cons_succ]
        clear hHeld
        have hHeld := hS8'.out
        refine pickA (v := ?_) 22 (some 74) rfl rfl (by kernel_rfl) (by kernel_rfl) (by kernel_rfl) (by decide) (fun _ _ _ h => h) (by rfl) ?_ (by assumption) ?_
        rotate_left
        · intro w'
          go_simp
          try with_reducible rfl
        try simp only [Act.put, List.setIfInBounds_toArray, List.set_cons_zero, List.set_cons_succ]
        refine pickA (v := ?_) 23 (some 75) rfl rfl (by kernel_rfl) (by kernel_rfl) (by kernel_rfl) (by decide) (fun _ _ _ h => h) (by rfl) ?_ (by assumption) ?_
        rotate_left
        · intro w'
          go_simp
          try with_reducible rfl
        try simp only [Act.put, List.setIfInBounds_toArray, List.set_cons_zero, List.set_cons_succ]
        refine doneL (by kernel_rfl) ?_ _
        clear hHeld
        go_wp2
        refine ⟨⟨j + 1, by omega, by omega, by simp, v2, .slice ra rn rc, os2, (T6.out.below ((Below.refl _ _).drew)).below B8.out, (K6.out.drew).bel B8.out⟩, by simp [intOf]; omega⟩
      · have e150 : Hid (j = 150) := by show j = 150; omega
        go_wp2_with fail
        refine (alive_any _).mono ?_; rintro e w9 ⟨rfl, hb9⟩
        have HB9 := hide (HB0.out.trans (hb9.mono HB0.out.size))
        clear hb9
        go_wp2
        go_ret
        exact ⟨rfl, HB9.out⟩
    · go_wp2_with fail
      refine (alive_any _).mono ?_; rintro e w9 ⟨rfl, hb9⟩
      have HB9 := hide (HB0.out.trans (hb9.mono HB0.out.size))
      clear hb9
      go_wp2
      go_ret
      exact ⟨rfl, HB9.out⟩

end Go.Proofs.Ytapknlmplhjfeaa
