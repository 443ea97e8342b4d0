/- LockNobody: the law walked. -/
import Derived.Test.YtapknlmplhjfeaaLH
namespace Go.Proofs.Ytapknlmplhjfeaa
open Go.RowKit Go.Maps

set_option maxHeartbeats 8000000 in
set_option maxRecDepth 100000 in
theorem lockNobody_walk (a o : Int) (w : World) : Calls Try.prog 8 #[.agg #[.int .i64 a, .int .i64 o]] w fun e w' => e = .returned (.bool true) ∧ Below w.heap.size w w' := by
  have hO0 := IsB.new w #[.int .i64 a, .int .i64 o] 27
  have hZ0 := IsB.new (w.alloc (.cells #[.int .i64 a, .int .i64 o] 27)) #[.slice none 0 0, .bool false] 57
  have hL0 := IsB.new ((w.alloc (.cells #[.int .i64 a, .int .i64 o] 27)).alloc (.cells #[.slice none 0 0, .bool false] 57)) #[.pointer none, .pointer (some ⟨w.heap.size + 1, 0, none⟩)] 23
  have b1 := (Below.refl _ (w.alloc (.cells #[.int .i64 a, .int .i64 o] 27))).alloc (Nat.le_refl _) (.cells #[.slice none 0 0, .bool false] 57)
  have b2 := (Below.refl _ ((w.alloc (.cells #[.int .i64 a, .int .i64 o] 27)).alloc (.cells #[.slice none 0 0, .bool false] 57))).alloc (Nat.le_refl _) (.cells #[.pointer none, .pointer (some ⟨w.heap.size + 1, 0, none⟩)] 23)
  have hO := hide ((hO0.below b1).below b2)
  have hZ := hide (hZ0.below b2)
  have hL := hide hL0
  have hW0 := hide ((((Below.refl w.heap.size w).alloc (Nat.le_refl _) (.cells #[.int .i64 a, .int .i64 o] 27)).alloc (by simp) (.cells #[.slice none 0 0, .bool false] 57)).alloc (by simp; omega) (.cells #[.pointer none, .pointer (some ⟨w.heap.size + 1, 0, none⟩)] 23))
  clear hO0 hZ0 hL0 b1 b2
  go_enter Try.func8, Try.ntmps8
  go_wp2
  simp only [World.size_alloc] at hO hZ hL
  generalize ((w.alloc (.cells #[.int .i64 a, .int .i64 o] 27)).alloc (.cells #[.slice none 0 0, .bool false] 57)).alloc (.cells #[.pointer none, .pointer (some ⟨w.heap.size + 1, 0, none⟩)] 23) = W0 at hO hZ hL hW0 ⊢
  generalize hOe : w.heap.size = O at hO hZ hL ⊢
  generalize hZe : O + 1 = Z at hZ hL ⊢
  replace hOe := hide hOe
  replace hZe := hide hZe
  go_loopw [22] (fun i wr => ∃ j : Nat, j ≤ 2 ∧ i = .int .i64 (j : Int) ∧ Below W0.heap.size W0 wr) (fun i _ => 2 - (intOf i).toNat)
  case atStart => exact ⟨0, by omega, rfl, Below.refl _ _⟩
  case round =>
    obtain ⟨j, hj, rfl, hb⟩ := hrel
    have HB0 := hide hb
    clear hb
    by_cases hlt : j < 2
    · obtain ⟨p, hp, hNo⟩ : ∃ p, wr.cell? ⟨Z + 1, j, none⟩ = some p ∧ NoLock wr p := by
        have hL1 := hL.out.below HB0.out
        have : j = 0 ∨ j = 1 := by omega
        rcases this with rfl | rfl
        · exact ⟨_, hL1.cell 0, Or.inl rfl⟩
        · exact ⟨_, hL1.cell 1, Or.inr ⟨Z, rfl, hZ.out.below HB0.out⟩⟩
      replace hNo := hide hNo
      have o0 : wr.cell? ⟨O, 0, none⟩ = some (.int .i64 a) := (hO.out.below HB0.out).cell 0
      have o1 : wr.cell? ⟨O, 1, none⟩ = some (.int .i64 o) := (hO.out.below HB0.out).cell 1
      go_wp2_with fail
      clear o0 o1 hp
      -- Ask
      refine (ask_no p a o wr hNo.out).mono ?_; rintro e w1 ⟨rfl, hb⟩
      have HB1 := hide (HB0.out.trans (hb.mono HB0.out.size))
      have N1 := hide (hNo.out.below hb)
      have o0 : w1.cell? ⟨O, 0, none⟩ = some (.int .i64 a) := (hO.out.below HB1.out).cell 0
      have o1 : w1.cell? ⟨O, 1, none⟩ = some (.int .i64 o) := (hO.out.below HB1.out).cell 1
      clear hb hNo HB0
      go_wp2_with fail
      clear o0 o1
      -- Free
      refine (free_no p a o w1 N1.out).mono ?_; rintro e w2 ⟨rfl, hb⟩
      have HB2 := hide ((HB1.out.trans (hb.mono HB1.out.size)).alloc (Nat.le_trans HB1.out.size hb.size) (.cells #[.int .i64 0, .int .i64 0] 27))
      have N2 := hide ((N1.out.below hb).alloc (.cells #[.int .i64 0, .int .i64 0] 27))
      have J2 := hide (IsB.new w2 #[.int .i64 0, .int .i64 0] 27)
      have o0 : w2.cell? ⟨O, 0, none⟩ = some (.int .i64 a) := (hO.out.below (HB1.out.trans (hb.mono HB1.out.size))).cell 0
      have o1 : w2.cell? ⟨O, 1, none⟩ = some (.int .i64 o) := (hO.out.below (HB1.out.trans (hb.mono HB1.out.size))).cell 1
      have olt : O < w2.heap.size := (hO.out.below (HB1.out.trans (hb.mono HB1.out.size))).lt
      clear hb N1 HB1
      go_wp2_with fail
      generalize w2.alloc (.cells #[.int .i64 0, .int .i64 0] 27) = W2 at HB2 N2 J2 ⊢
      generalize w2.heap.size = F at *
      clear o0 o1 olt
      -- Leave
      refine (leave_no p a o W2 N2.out).mono ?_; rintro e w3 ⟨rfl, hb⟩
      have HB3 := hide (HB2.out.trans (hb.mono HB2.out.size))
      have N3 := hide (N2.out.below hb)
      have J3 := hide (J2.out.below hb)
      clear hb N2 HB2 J2
      go_wp2_with fail
      -- End
      refine (end_no p w3 N3.out).mono ?_; intro e w4 hE; obtain ⟨rfl, hw4⟩ := hE
      rw [hw4]
      clear hw4
      go_wp2_with fail
      -- Holder
      refine (holder_no p w3 N3.out).mono ?_; rintro e w5 ⟨rfl, hb⟩
      have bel5 := (Below.refl w5.heap.size w5).alloc (Nat.le_refl _) (.cells #[.int .i64 0, .int .i64 0] 27)
      have HB5 := hide ((HB3.out.trans (hb.mono HB3.out.size)).trans (bel5.mono (Nat.le_trans HB3.out.size hb.size)))
      have N5 := hide ((N3.out.below hb).below bel5)
      have J5 := J3.out.below hb
      have f0 := J5.cell 0
      have f1 := J5.cell 1
      have flt := J5.lt
      simp at f0 f1
      clear hb N3 HB3 J3 J5 bel5
      go_wp2_with fail
      clear f0 f1 flt
      -- Waits
      refine (waits_no p _ N5.out).mono ?_; intro e w6 hE; obtain ⟨rfl, hw6⟩ := hE
      rw [hw6]
      clear hw6
      go_wp2
      exact ⟨⟨j + 1, by omega, by simp, HB5.out⟩, by simp [intOf]; omega⟩
    · obtain rfl : j = 2 := by omega
      go_wp2_with fail
      refine (alive_any wr).mono ?_; rintro e w1 ⟨rfl, hb⟩
      have HB1 := hide (HB0.out.trans (hb.mono HB0.out.size))
      clear hb
      go_wp2
      go_ret
      exact ⟨rfl, hW0.out.trans (HB1.out.mono hW0.out.size)⟩

end Go.Proofs.Ytapknlmplhjfeaa
