/- The document's reader: a number of at most 65536, of any bytes. -/
import Derived.Test.YtmhcmlegdoapdaaDoorRX
namespace Go.Proofs.YtmhcmlegdoapdaaDoor
open Go.RowKit

set_option maxHeartbeats 2000000 in
set_option maxRecDepth 100000 in
theorem within_row (X S : Nat) (C : Int) (hX : X ≤ 65536) (hS : S ≤ 16384) (h0 : 0 ≤ C) (h1 : C < 256) (w : World) :
    Calls Tryd.prog 73 #[.int .u64 (X : Int), .int .u64 (S : Int), .int .u8 C, .int .u64 65536] w fun e w' => e = .returned (.bool (decide (C * (S : Int) + (X : Int) ≤ 65536))) ∧ w' = w := by
  have hwC : IntKind.u64.wrap C = C := by rw [IntKind.wrap_u64]; omega
  have hb : C * (S : Int) ≤ 255 * 16384 := Int.mul_le_mul (by omega) (by omega) (by omega) (by omega)
  have hb0 : 0 ≤ C * (S : Int) := Int.mul_nonneg h0 (by omega)
  by_cases hc : C < 128
  · obtain ⟨P, hP⟩ : ∃ P, C * (S : Int) = P := ⟨_, rfl⟩
    have hwP : IntKind.u64.wrap P = P := by rw [IntKind.wrap_u64]; omega
    have hwA : IntKind.u64.wrap ((X : Int) + P) = (X : Int) + P := by rw [IntKind.wrap_u64]; omega
    have hS2 : (S : Int) ≤ 65536 := by omega
    rw [hP]
    have HAC := hide (show decide ((X : Int) + P ≤ 65536) = decide (P + (X : Int) ≤ 65536) from by rw [Int.add_comm])
    clear hb hb0
    go_enter Tryd.func73, Tryd.ntmps73
    go_wp2
    go_ret
    exact ⟨by rw [← HAC.out]; rfl, rfl⟩
  · by_cases hs : S ≤ 512
    · obtain ⟨P, hP⟩ : ∃ P, (C - 128) * (S : Int) = P := ⟨_, rfl⟩
      have hPe : P + (S : Int) * 128 = C * (S : Int) := by rw [← hP, Int.sub_mul]; omega
      have hb2 : 0 ≤ P := by rw [← hP]; exact Int.mul_nonneg (by omega) (by omega)
      have hw8 : IntKind.u8.wrap (C - 128) = C - 128 := by rw [IntKind.wrap_u8]; omega
      have hwD : IntKind.u64.wrap (C - 128) = C - 128 := by rw [IntKind.wrap_u64]; omega
      have hwS : IntKind.u64.wrap ((S : Int) * 128) = (S : Int) * 128 := by rw [IntKind.wrap_u64]; omega
      have hwP : IntKind.u64.wrap P = P := by rw [IntKind.wrap_u64]; omega
      have hwA : IntKind.u64.wrap ((X : Int) + P) = (X : Int) + P := by rw [IntKind.wrap_u64]; omega
      have hwB : IntKind.u64.wrap ((X : Int) + P + (S : Int) * 128) = (X : Int) + P + (S : Int) * 128 := by rw [IntKind.wrap_u64]; omega
      have hS2 : (S : Int) * 128 ≤ 65536 := by omega
      have HAC := hide (show decide ((X : Int) + P + (S : Int) * 128 ≤ 65536) = decide (C * (S : Int) + (X : Int) ≤ 65536) from by rw [← hPe]; congr 1; exact propext ⟨fun h => by omega, fun h => by omega⟩)
      clear hb hb0 hPe
      rw [← HAC.out]
      go_enter Tryd.func73, Tryd.ntmps73
      go_wp2
      go_ret
      exact ⟨rfl, rfl⟩
    · have hwS : IntKind.u64.wrap ((S : Int) * 128) = (S : Int) * 128 := by rw [IntKind.wrap_u64]; omega
      have hS2 : ¬ (S : Int) * 128 ≤ 65536 := by omega
      have hf : decide (C * (S : Int) + (X : Int) ≤ 65536) = false := by
        have : 128 * (S : Int) ≤ C * (S : Int) := Int.mul_le_mul_of_nonneg_right (by omega) (by omega)
        refine decide_eq_false ?_
        omega
      rw [hf]
      clear hb hb0 hf
      go_enter Tryd.func73, Tryd.ntmps73
      go_wp2
      go_ret
      exact ⟨rfl, rfl⟩

theorem cond_row {k m : Nat} {C : Int} (hm : m ≤ 65536) (h0 : 0 ≤ C) : (C ≤ (((65536 - m) / 2 ^ (7 * k) : Nat) : Int)) ↔ C * ((2 ^ (7 * k) : Nat) : Int) + (m : Int) ≤ 65536 := by
  obtain ⟨c, rfl⟩ := Int.eq_ofNat_of_zero_le h0
  have h := Nat.le_div_iff_mul_le (x := c) (y := 65536 - m) (Nat.two_pow_pos (7 * k))
  rw [← Int.natCast_mul]
  generalize c * 2 ^ (7 * k) = P at h ⊢
  generalize (65536 - m) / 2 ^ (7 * k) = D at h ⊢
  omega

set_option maxHeartbeats 8000000 in
set_option maxRecDepth 100000 in
theorem rnumber_row (Q sb : Nat) (L : List Int) (p : Nat) (w : World) (h : DR w Q sb L p 0) :
    Calls Tryd.prog 57 #[.pointer (some ⟨Q, 0, none⟩), .int .u64 65536] w fun e w' => DPost w Q sb L p (fun x : Nat => .int .u64 (x : Int)) (.int .u64 0) (pnum 65536 0 0 (L.drop p)) e w' := by
  have HD := hide h
  have hbd := hide h.bd
  have hple := h.le
  clear h
  go_enter Tryd.func57, Tryd.ntmps57
  go_wp2
  go_loopw [5, 6, 7] (fun x s i wr => ∃ (k m : Nat), x = .int .u64 (m : Int) ∧ s = .int .u64 ((2 ^ (7 * k) : Nat) : Int) ∧ i = .int .i64 (k : Int) ∧ k ≤ 2 ∧ m ≤ 65536 ∧ p + k ≤ L.length ∧ pnum 65536 0 0 (L.drop p) = pnum 65536 k m (L.drop (p + k)) ∧ DR wr Q sb L (p + k) 0 ∧ w.grownBy wr (some Q)) (fun _ _ i _ => (10 - intOf i).toNat)
  case atStart => exact ⟨0, 0, rfl, rfl, rfl, by omega, by omega, hple.1, rfl, HD.out, ⟨rfl, rfl, rfl, Nat.le_refl _, fun _ _ _ => rfl⟩⟩
  case round =>
    clear HD
    obtain ⟨k, m, rfl, rfl, rfl, hk2, hm, hpk, hpp, hd, hg⟩ := hrel
    have HPP := hide hpp
    have HG := hide hg
    clear hpp hg
    have hk10 : (k : Int) < 10 := by omega
    by_cases hend : p + k = L.length
    · have HPE := hide (show pnum 65536 0 0 (L.drop p) = .bad k 32 from by rw [HPP.out, hend, List.drop_length]; rfl)
      rw [hend] at hd
      have hn := hide (rnext_end Q sb L wr hd)
      have HEND := hide hend
      clear hd hend
      generalize ((2 ^ (7 * k) : Nat) : Int) = SC
      go_wp2_with fail
      refine hn.out.mono ?_; rintro e w1 ⟨rfl, hd1, hg1⟩
      have HD1 := hide hd1
      have HG1 := hide (grown_trans HG.out hg1)
      clear hd1 hg1 hn
      go_wp2
      go_ret
      exact DPost.badI k 32 HPE.out rfl (by rw [HEND.out]; exact HD1.out) (by omega) HG1.out
    · have hlt : p + k < L.length := by omega
      have hdrop : L.drop (p + k) = L[p + k] :: L.drop (p + k + 1) := List.drop_eq_getElem_cons hlt
      have hcb := hbd.out _ (List.getElem_mem hlt)
      have hn := rnext_ok Q sb L (p + k) hlt wr hd
      have HST := hide (show ∀ W, DR W Q sb L (p + k) 0 → DR (W.setCell ⟨Q, 1, none⟩ (.int .i64 ((p + k + 1 : Nat) : Int))) Q sb L (p + k + 1) 0 from fun W hW => hW.step hlt)
      generalize L[p + k] = C at hdrop hcb hn
      have HDR := hide hdrop
      replace hn := hide hn
      clear hd hdrop hend
      have hwc : IntKind.u64.wrap (C % 128) = C % 128 := by rw [IntKind.wrap_u64]; omega
      have hkI : ((p + k : Nat) : Int) + 1 = ((p + k + 1 : Nat) : Int) := by omega
      have hpb : p + k + 1 ≤ 1000000000 := by omega
      have b9 : ((k : Int) == 9) = false := by simp; omega
      have hcr := cond_row (k := k) hm hcb.1
      obtain ⟨SN, hSN⟩ : ∃ SN : Nat, 2 ^ (7 * k) = SN := ⟨_, rfl⟩
      have hS : SN ≤ 16384 := by rw [← hSN]; exact Nat.le_trans (Nat.pow_le_pow_right (n := 2) (by omega) (show 7 * k ≤ 14 by omega)) (by decide)
      have hk2S : k = 2 → SN = 16384 := fun hk => by rw [← hSN, hk]
      rw [hSN] at hcr ⊢
      have HSN := hide hSN
      clear hSN
      by_cases hle : C * (SN : Int) + (m : Int) ≤ 65536
      · have hwi := fun x => within_row m SN C hm hS hcb.1 hcb.2 x
        rw [decide_eq_true hle] at hwi
        replace hwi := hide hwi
        by_cases hz : C ≠ 0 ∨ k = 0
        · have HOK := hide (show decide (C ≤ (((65536 - m) / 2 ^ (7 * k) : Nat) : Int)) = true ∧ (C ≠ 0 ∨ k = 0) from ⟨decide_eq_true (by rw [HSN.out]; exact hcr.2 hle), hz⟩)
          have hbv : C.toNat % 128 * SN ≤ 65536 - m := by
            have h1 := bound_val (most := 65536) (m := m) (k := k) hcb.1 (of_decide_eq_true HOK.out.1)
            rw [HSN.out] at h1
            exact h1
          have hP : (C % 128) * (SN : Int) = ((C.toNat % 128 * SN : Nat) : Int) := by
            rw [Int.natCast_mul]; congr 1; omega
          have hwP : IntKind.u64.wrap ((C.toNat % 128 * SN : Nat) : Int) = ((C.toNat % 128 * SN : Nat) : Int) := by rw [IntKind.wrap_u64]; omega
          have hxv := hide (show IntKind.u64.wrap ((m : Int) + ((C.toNat % 128 * SN : Nat) : Int)) = ((m + C.toNat % 128 * SN : Nat) : Int) from by rw [IntKind.wrap_u64]; omega)
          have h2C : ¬ C < 128 → k + 1 ≤ 2 := fun hc => by
            rcases Nat.lt_or_ge k 2 with h | h
            · omega
            · have := hk2S (by omega)
              subst this
              omega
          generalize hPN : C.toNat % 128 * SN = PN at hP hwP hxv hbv
          have HPN := hide hPN
          clear hPN hle hcr hk2S
          by_cases h128 : C < 128
          · clear h2C
            by_cases hk0 : k = 0
            · have hkp' : ¬ (0 : Int) < (k : Int) := by omega
              replace hk0 := hide hk0
              replace hz := hide hz
              go_wp2_with fail
              refine hn.out.mono ?_; rintro e w1 ⟨rfl, hd1, hg1⟩
              have HD1 := hide hd1
              have HG1 := hide (grown_trans HG.out hg1)
              obtain ⟨a1, cap1, hI1, _⟩ := hd1
              have c1 : w1.cell? ⟨Q, 1, none⟩ = some (.int .i64 ((p + k : Nat) : Int)) := hI1.cell 1
              have c2 : w1.cell? ⟨Q, 2, none⟩ = some (.int .i64 0) := hI1.cell 2
              have f1 := hI1.free 1
              have f2 := hI1.free 2
              clear hg1 hn hI1
              go_wp2_with fail
              refine (hwi.out _).mono ?_; rintro e w2 ⟨rfl, rfl⟩
              go_wp2
              go_ret
              refine DPost.okI _ (k + 1) (HPP.out.trans (by rw [HDR.out]; exact pnum_end 65536 k m C _ HOK.out h128)) (by rw [HSN.out, HPN.out, Int.natCast_add]; rfl) (by have := HST.out _ HD1.out; rw [← Nat.add_assoc]; exact this) (grown_trans HG1.out (grown_set _ _ _ _))
            · have hC0 : ¬ C = 0 := by rcases hz with h | h; exact h; exact absurd h hk0
              have z0 : (C == 0) = false := by simp [hC0]
              have hkp' : (0 : Int) < (k : Int) := by omega
              replace hz := hide hz
              go_wp2_with fail
              refine hn.out.mono ?_; rintro e w1 ⟨rfl, hd1, hg1⟩
              have HD1 := hide hd1
              have HG1 := hide (grown_trans HG.out hg1)
              obtain ⟨a1, cap1, hI1, _⟩ := hd1
              have c1 : w1.cell? ⟨Q, 1, none⟩ = some (.int .i64 ((p + k : Nat) : Int)) := hI1.cell 1
              have c2 : w1.cell? ⟨Q, 2, none⟩ = some (.int .i64 0) := hI1.cell 2
              have f1 := hI1.free 1
              have f2 := hI1.free 2
              clear hg1 hn hI1
              go_wp2_with fail
              refine (hwi.out _).mono ?_; rintro e w2 ⟨rfl, rfl⟩
              go_wp2
              go_ret
              refine DPost.okI _ (k + 1) (HPP.out.trans (by rw [HDR.out]; exact pnum_end 65536 k m C _ HOK.out h128)) (by rw [HSN.out, HPN.out, Int.natCast_add]; rfl) (by have := HST.out _ HD1.out; rw [← Nat.add_assoc]; exact this) (grown_trans HG1.out (grown_set _ _ _ _))
          · have hk1 := h2C h128
            have z0 : (C == 0) = false := by simp; omega
            clear h2C
            by_cases hk0 : k = 0
            · have hkp' : ¬ (0 : Int) < (k : Int) := by omega
              replace hk0 := hide hk0
              replace hz := hide hz
              go_wp2_with fail
              refine hn.out.mono ?_; rintro e w1 ⟨rfl, hd1, hg1⟩
              have HD1 := hide hd1
              have HG1 := hide (grown_trans HG.out hg1)
              obtain ⟨a1, cap1, hI1, _⟩ := hd1
              have c1 : w1.cell? ⟨Q, 1, none⟩ = some (.int .i64 ((p + k : Nat) : Int)) := hI1.cell 1
              have c2 : w1.cell? ⟨Q, 2, none⟩ = some (.int .i64 0) := hI1.cell 2
              have f1 := hI1.free 1
              have f2 := hI1.free 2
              clear hg1 hn hI1
              go_wp2_with fail
              refine (hwi.out _).mono ?_; rintro e w2 ⟨rfl, rfl⟩
              go_wp2
              go_roundw
              case rel =>
                refine ⟨k + 1, m + C.toNat % 128 * 2 ^ (7 * k), ?_, ?_, by go_num, by omega, by rw [HSN.out, HPN.out]; omega, by omega, HPP.out.trans (by rw [HDR.out]; exact pnum_more 65536 k m C _ HOK.out (by omega)), (by have := HST.out _ HD1.out; rw [← Nat.add_assoc]; exact this), grown_trans HG1.out (grown_set _ _ _ _)⟩
                · rw [HSN.out, HPN.out, Int.natCast_add]
                · rw [pow7, HSN.out, Int.natCast_mul]; rfl
              case measure => simp [intOf]; omega
            · have hkp' : (0 : Int) < (k : Int) := by omega
              replace hz := hide hz
              go_wp2_with fail
              refine hn.out.mono ?_; rintro e w1 ⟨rfl, hd1, hg1⟩
              have HD1 := hide hd1
              have HG1 := hide (grown_trans HG.out hg1)
              obtain ⟨a1, cap1, hI1, _⟩ := hd1
              have c1 : w1.cell? ⟨Q, 1, none⟩ = some (.int .i64 ((p + k : Nat) : Int)) := hI1.cell 1
              have c2 : w1.cell? ⟨Q, 2, none⟩ = some (.int .i64 0) := hI1.cell 2
              have f1 := hI1.free 1
              have f2 := hI1.free 2
              clear hg1 hn hI1
              go_wp2_with fail
              refine (hwi.out _).mono ?_; rintro e w2 ⟨rfl, rfl⟩
              go_wp2
              go_roundw
              case rel =>
                refine ⟨k + 1, m + C.toNat % 128 * 2 ^ (7 * k), ?_, ?_, by go_num, by omega, by rw [HSN.out, HPN.out]; omega, by omega, HPP.out.trans (by rw [HDR.out]; exact pnum_more 65536 k m C _ HOK.out (by omega)), (by have := HST.out _ HD1.out; rw [← Nat.add_assoc]; exact this), grown_trans HG1.out (grown_set _ _ _ _)⟩
                · rw [HSN.out, HPN.out, Int.natCast_add]
                · rw [pow7, HSN.out, Int.natCast_mul]; rfl
              case measure => simp [intOf]; omega
        · have HNB := hide (show ¬ (decide (C ≤ (((65536 - m) / 2 ^ (7 * k) : Nat) : Int)) = true ∧ (C ≠ 0 ∨ k = 0)) from fun hh => hz hh.2)
          have hz2 : C = 0 ∧ 0 < k := by
            refine ⟨?_, ?_⟩
            · by_cases h0 : C = 0
              · exact h0
              · exact absurd (Or.inl h0) hz
            · rcases Nat.eq_zero_or_pos k with h | h
              · exact absurd (Or.inr h) hz
              · exact h
          have hkp : 0 < k := hz2.2
          have hkp' : (0 : Int) < (k : Int) := by omega
          have z0 : (C == 0) = true := by rw [hz2.1]; rfl
          clear hz hz2 hle hcr hk2S hwi
          go_wp2_with fail
          refine hn.out.mono ?_; rintro e w1 ⟨rfl, hd1, hg1⟩
          have HD1 := hide hd1
          have HG1 := hide (grown_trans HG.out hg1)
          obtain ⟨a1, cap1, hI1, _⟩ := hd1
          have c1 : w1.cell? ⟨Q, 1, none⟩ = some (.int .i64 ((p + k : Nat) : Int)) := hI1.cell 1
          have c2 : w1.cell? ⟨Q, 2, none⟩ = some (.int .i64 0) := hI1.cell 2
          have f1 := hI1.free 1
          have f2 := hI1.free 2
          clear hg1 hn hI1
          go_wp2
          go_ret
          exact DPost.badI k 31 (HPP.out.trans (by rw [HDR.out]; exact pnum_bad 65536 k m C _ HNB.out)) rfl (HD1.out.setE 31) (by omega) (grown_trans HG1.out (grown_set _ _ _ _))
      · have hwi := fun x => within_row m SN C hm hS hcb.1 hcb.2 x
        rw [decide_eq_false hle] at hwi
        replace hwi := hide hwi
        have HNB := hide (show ¬ (decide (C ≤ (((65536 - m) / 2 ^ (7 * k) : Nat) : Int)) = true ∧ (C ≠ 0 ∨ k = 0)) from fun hh => hle (hcr.1 (by have h1 := of_decide_eq_true hh.1; rw [HSN.out] at h1; exact h1)))
        clear hle hcr hk2S
        by_cases hk0 : k = 0
        · have hkp' : ¬ (0 : Int) < (k : Int) := by omega
          replace hk0 := hide hk0
          go_wp2_with fail
          refine hn.out.mono ?_; rintro e w1 ⟨rfl, hd1, hg1⟩
          have HD1 := hide hd1
          have HG1 := hide (grown_trans HG.out hg1)
          obtain ⟨a1, cap1, hI1, _⟩ := hd1
          have c1 : w1.cell? ⟨Q, 1, none⟩ = some (.int .i64 ((p + k : Nat) : Int)) := hI1.cell 1
          have c2 : w1.cell? ⟨Q, 2, none⟩ = some (.int .i64 0) := hI1.cell 2
          have f1 := hI1.free 1
          have f2 := hI1.free 2
          clear hg1 hn hI1
          go_wp2_with fail
          refine (hwi.out _).mono ?_; rintro e w2 ⟨rfl, rfl⟩
          go_wp2
          go_ret
          exact DPost.badI k 31 (HPP.out.trans (by rw [HDR.out]; exact pnum_bad 65536 k m C _ HNB.out)) rfl (HD1.out.setE 31) (by omega) (grown_trans HG1.out (grown_set _ _ _ _))
        · have hkp' : (0 : Int) < (k : Int) := by omega
          by_cases hC0 : C = 0
          · have z0 : (C == 0) = true := by rw [hC0]; rfl
            replace hC0 := hide hC0
            go_wp2_with fail
            refine hn.out.mono ?_; rintro e w1 ⟨rfl, hd1, hg1⟩
            have HD1 := hide hd1
            have HG1 := hide (grown_trans HG.out hg1)
            obtain ⟨a1, cap1, hI1, _⟩ := hd1
            have c1 : w1.cell? ⟨Q, 1, none⟩ = some (.int .i64 ((p + k : Nat) : Int)) := hI1.cell 1
            have c2 : w1.cell? ⟨Q, 2, none⟩ = some (.int .i64 0) := hI1.cell 2
            have f1 := hI1.free 1
            have f2 := hI1.free 2
            clear hg1 hn hI1
            go_wp2
            go_ret
            exact DPost.badI k 31 (HPP.out.trans (by rw [HDR.out]; exact pnum_bad 65536 k m C _ HNB.out)) rfl (HD1.out.setE 31) (by omega) (grown_trans HG1.out (grown_set _ _ _ _))
          · have z0 : (C == 0) = false := by simp [hC0]
            go_wp2_with fail
            refine hn.out.mono ?_; rintro e w1 ⟨rfl, hd1, hg1⟩
            have HD1 := hide hd1
            have HG1 := hide (grown_trans HG.out hg1)
            obtain ⟨a1, cap1, hI1, _⟩ := hd1
            have c1 : w1.cell? ⟨Q, 1, none⟩ = some (.int .i64 ((p + k : Nat) : Int)) := hI1.cell 1
            have c2 : w1.cell? ⟨Q, 2, none⟩ = some (.int .i64 0) := hI1.cell 2
            have f1 := hI1.free 1
            have f2 := hI1.free 2
            clear hg1 hn hI1
            go_wp2_with fail
            refine (hwi.out _).mono ?_; rintro e w2 ⟨rfl, rfl⟩
            go_wp2
            go_ret
            exact DPost.badI k 31 (HPP.out.trans (by rw [HDR.out]; exact pnum_bad 65536 k m C _ HNB.out)) rfl (HD1.out.setE 31) (by omega) (grown_trans HG1.out (grown_set _ _ _ _))

end Go.Proofs.YtmhcmlegdoapdaaDoor
