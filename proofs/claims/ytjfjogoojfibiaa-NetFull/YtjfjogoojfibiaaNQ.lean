/- NetFull: the law walked. -/
import Derived.Test.YtjfjogoojfibiaaNN
namespace Go.Proofs.Ytjfjogoojfibiaa
open Go.RowKit Go.Maps

theorem okPz : okP 0 0 ([] : List Int).length = true := by decide
theorem okP1 (x : Int) : okP 0 0 [x].length = true := by
  show okP 0 0 1 = true
  decide

set_option maxHeartbeats 16000000 in
set_option maxRecDepth 100000 in
theorem netFull_other (k : Int) (hk : k ≠ 1) (w : World) : Calls Try.prog 4 #[.int .i64 k] w fun e w' => e = .returned (.bool true) ∧ Below w.heap.size w w' := by
  have hk1 : (k != 1) = true := by simpa using hk
  clear hk
  go_enter Try.func4, Try.ntmps4
  go_wp2_with fail
  refine (alive_any w).mono ?_; rintro e w1 ⟨rfl, hb⟩
  replace hb := hide hb
  go_wp2
  go_ret
  exact ⟨rfl, hb.out⟩

set_option maxHeartbeats 16000000 in
set_option maxRecDepth 100000 in
theorem netFull_one (w : World) : Calls Try.prog 4 #[.int .i64 1] w fun e w' => e = .returned (.bool true) ∧ Below w.heap.size w w' := by
  have hpn := ptr_eq_nil
  go_enter Try.func4, Try.ntmps4
  go_wp2_with fail
  refine (new_any w).mono ?_; rintro e w1 ⟨b, m, rfl, hb, hm, hN, hbl⟩
  replace hN := hide hN
  replace hbl := hide hbl
  go_wp2
  go_loopw [4] (fun i wr => ∃ j : Nat, j ≤ 4096 ∧ i = .int .i64 (j : Int) ∧ Hid (∃ v ps, Nx w1 wr b m (.slice none 0 0) v ps ⟨(j : Int), 0, 0, 0⟩ j ∧ ps.length = j)) (fun i _ => 4096 - (intOf i).toNat)
  case atStart => exact ⟨0, by omega, rfl, _, _, hN.out.nx (Below.refl _ _), rfl⟩
  case round =>
    obtain ⟨j, hj, rfl, hX⟩ := hrel
    obtain ⟨v, ps, X, hps⟩ := hX.out
    replace X := hide X
    replace hps := hide hps
    clear hX
    by_cases hlt : j < 4096
    · go_wp2_with fail
      have bel := (Below.refl wr.heap.size wr).alloc (Nat.le_refl _) (.cells #[.int .u8 ((j : Int) % 256)] 5)
      have X1 := X.out.bel bel
      refine (put_ok b m _ _ _ j (by omega) _ X1.ns false 0 false 0 (some ⟨wr.heap.size, 0, none⟩) 1 [(j : Int) % 256] (okP1 _) (by rw [hps.out]; exact hlt) (by simp) (rd1 wr _ 5 (0, 0))).mono ?_
      rintro e w2 ⟨rfl, v2, a2, c2, hx2, -⟩
      have X2 := hide (X1.trans hx2)
      clear X1 hx2 bel
      go_wp2
      refine ⟨⟨j + 1, by omega, by simp, ?_⟩, by simp [intOf]; omega⟩
      refine ⟨v2, ps ++ [⟨false, 0, false, 0, a2, c2, [(j : Int) % 256]⟩], ?_, by rw [List.length_append, hps.out]; rfl⟩
      have := X2.out
      simpa using this
    · obtain rfl : j = 4096 := by omega
      go_wp2_with fail
      refine (put_full b m _ _ _ 4096 (by omega) _ X.out.ns false 0 false 0 none 0 0 okPz hps.out).mono ?_
      rintro e w2 ⟨rfl, hx⟩
      have X2 := hide (X.out.trans hx)
      clear hx X
      go_wp2_with fail
      refine (drop_ok b m _ _ _ 4097 (by omega) _ X2.out.ns 7 (by rw [hps.out]; omega)).mono ?_
      rintro e w3 ⟨rfl, v3, hx⟩
      have X3 := hide (X2.out.trans hx)
      clear hx X2
      have hl3 : Hid ((ps.eraseIdx 7).length = 4095) := by
        show _ = _
        rw [List.length_eraseIdx, if_pos (by rw [hps.out]; omega), hps.out]
      go_wp2_with fail
      refine (put_ok b m _ _ _ 4098 (by omega) _ X3.out.ns false 0 false 0 none 0 [] okPz (by rw [hl3.out]; omega) (fun _ => rfl) (Or.inl ⟨rfl, rfl⟩)).mono ?_
      rintro e w4 ⟨rfl, v4, a4, c4, hx, -⟩
      have X4 := hide (X3.out.trans hx)
      clear hx X3
      have hl4 : Hid ((ps.eraseIdx 7 ++ [(⟨false, 0, false, 0, a4, c4, []⟩ : Pc)]).length = 4096) := by
        show _ = _
        rw [List.length_append, hl3.out]; rfl
      go_wp2_with fail
      refine (stats_any b m _ _ _ _ _ X4.out.ns).mono ?_
      rintro e w5 ⟨rfl, hb5⟩
      unfold statV
      simp only []
      have bel := (Below.refl w5.heap.size w5).alloc (Nat.le_refl _) (.cells #[.int .i64 4097, .int .i64 0, .int .i64 1, .int .i64 1] 28)
      have X5 := hide ((X4.out.bel hb5).bel bel)
      clear hb5 X4
      have L5 := hide (IsB.new w5 #[.int .i64 4097, .int .i64 0, .int .i64 1, .int .i64 1] 28)
      clear bel
      go_wp2_with fail
      generalize w5.alloc (.cells #[.int .i64 4097, .int .i64 0, .int .i64 1, .int .i64 1] 28) = W6 at X5 L5 ⊢
      refine (len_any b m _ _ _ _ _ X5.out.ns).mono ?_; rintro e w6 ⟨rfl, rfl⟩
      rw [hl4.out]
      obtain ⟨s0, s1, s2, s3⟩ := L5.out.cells4
      generalize w5.heap.size = B5 at *
      go_wp2_with fail
      refine (alive_any _).mono ?_; rintro e w7 ⟨rfl, hb7⟩
      have X7 := hide (X5.out.bel hb7)
      clear hb7 X5 s0 s1 s2 s3
      go_wp2
      go_ret
      refine ⟨rfl, ?_⟩
      refine hbl.out.trans (X7.out.kp.to_below hbl.out.size ?_)
      intro q hq
      simp [foot, Value.ownBlock] at hq
      rcases hq with rfl | rfl <;> assumption

end Go.Proofs.Ytjfjogoojfibiaa
