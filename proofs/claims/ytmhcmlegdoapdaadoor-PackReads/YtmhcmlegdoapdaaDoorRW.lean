/- The document's reader: numbers, of any bytes. -/
import Derived.Test.YtmhcmlegdoapdaaDoorRV
namespace Go.Proofs.YtmhcmlegdoapdaaDoor
open Go.RowKit

set_option maxHeartbeats 400000 in
set_option maxRecDepth 100000 in
theorem within_max (x s c : Int) (w : World) : Calls Tryd.prog 73 #[.int .u64 x, .int .u64 s, .int .u8 c, .int .u64 18446744073709551615] w fun e w' => e = .returned (.bool true) ∧ w' = w := by
  go_enter Tryd.func73, Tryd.ntmps73
  go_wp2
  go_ret
  exact ⟨rfl, rfl⟩

theorem cond_max {k m : Nat} {C : Int} (hk : k ≤ 9) (hm : m < 2 ^ (7 * k)) (h0 : 0 ≤ C) (h1 : C < 256) : (C ≤ (((M64 - m) / 2 ^ (7 * k) : Nat) : Int)) ↔ (k = 9 → C ≤ 1) := by
  have e : M64 = 18446744073709551615 := rfl
  rcases Nat.lt_or_ge k 9 with h9 | h9
  · refine ⟨fun _ h => by omega, fun _ => ?_⟩
    have hp : 2 ^ (7 * k) * 256 ≤ 18446744073709551616 := by
      have : (18446744073709551616 : Nat) = 2 ^ 56 * 256 := by decide
      rw [this]
      exact Nat.mul_le_mul_right _ (Nat.pow_le_pow_right (by omega) (by omega))
    have h2 : 255 ≤ (M64 - m) / 2 ^ (7 * k) := (Nat.le_div_iff_mul_le (Nat.two_pow_pos _)).2 (by omega)
    omega
  · obtain rfl : k = 9 := by omega
    have e2 : 2 ^ (7 * 9) = 9223372036854775808 := by decide
    rw [e2] at hm ⊢
    have h2 : (M64 - m) / 9223372036854775808 = 1 := by omega
    rw [h2]
    exact ⟨fun h _ => h, fun h => h rfl⟩

theorem split_ltc (C : Int) (m k : Nat) (h : m < 2 ^ (7 * k)) : m + C.toNat % 128 * 2 ^ (7 * k) < 2 ^ (7 * (k + 1)) := split_lt C.toNat m k h

/-- What the document's reader leaves. -/
def DPost {α : Type} (w : World) (Q sb : Nat) (L : List Int) (p : Nat) (val : α → Value) (z : Value) (r : PR α) (e : Ending) (w' : World) : Prop :=
  (match r with
    | .ok x n => e = .returned (val x) ∧ DR w' Q sb L (p + n) 0
    | .bad i er => e = .returned z ∧ DR w' Q sb L (p + i) er ∧ er ≠ 0) ∧ w.grownBy w' (some Q)
theorem DPost.okI {α : Type} {w : World} {Q sb : Nat} {L : List Int} {p : Nat} {val : α → Value} {z : Value} {r : PR α} {e : Ending} {w' : World} (x : α) (n : Nat) (hr : r = .ok x n) (he : e = .returned (val x)) (hd : DR w' Q sb L (p + n) 0) (hg : w.grownBy w' (some Q)) : DPost w Q sb L p val z r e w' := by
  subst hr; exact ⟨⟨he, hd⟩, hg⟩
theorem DPost.badI {α : Type} {w : World} {Q sb : Nat} {L : List Int} {p : Nat} {val : α → Value} {z : Value} {r : PR α} {e : Ending} {w' : World} (i : Nat) (er : Int) (hr : r = .bad i er) (he : e = .returned z) (hd : DR w' Q sb L (p + i) er) (hn : er ≠ 0) (hg : w.grownBy w' (some Q)) : DPost w Q sb L p val z r e w' := by
  subst hr; exact ⟨⟨he, hd, hn⟩, hg⟩

set_option maxHeartbeats 8000000 in
set_option maxRecDepth 100000 in
theorem rnumber_max (Q sb : Nat) (L : List Int) (p : Nat) (w : World) (h : DR w Q sb L p 0) :
    Calls Tryd.prog 57 #[.pointer (some ⟨Q, 0, none⟩), .int .u64 18446744073709551615] w fun e w' => DPost w Q sb L p (fun x : Nat => .int .u64 (x : Int)) (.int .u64 0) (pnum M64 0 0 (L.drop p)) e w' := by
  have HD := hide h
  have hbd := hide h.bd
  have hple := h.le
  clear h
  go_enter Tryd.func57, Tryd.ntmps57
  go_wp2
  go_loopw [5, 6, 7] (fun x s i wr => ∃ (k m : Nat), x = .int .u64 (m : Int) ∧ s = .int .u64 ((2 ^ (7 * k) : Nat) : Int) ∧ i = .int .i64 (k : Int) ∧ k ≤ 9 ∧ m < 2 ^ (7 * k) ∧ p + k ≤ L.length ∧ pnum M64 0 0 (L.drop p) = pnum M64 k m (L.drop (p + k)) ∧ DR wr Q sb L (p + k) 0 ∧ w.grownBy wr (some Q)) (fun _ _ i _ => (10 - intOf i).toNat)
  case atStart => exact ⟨0, 0, rfl, rfl, rfl, by omega, by omega, hple.1, rfl, HD.out, ⟨rfl, rfl, rfl, Nat.le_refl _, fun _ _ _ => rfl⟩⟩
  case round =>
    clear HD
    obtain ⟨k, m, rfl, rfl, rfl, hk9, hm, hpk, hpp, hd, hg⟩ := hrel
    have HM := hide hm
    have HPP := hide hpp
    have HG := hide hg
    clear hm hpp hg
    have hk10 : (k : Int) < 10 := by omega
    by_cases hend : p + k = L.length
    · have HPE := hide (show pnum M64 0 0 (L.drop p) = .bad k 32 from by rw [HPP.out, hend, List.drop_length]; rfl)
      rw [hend] at hd
      have hn := hide (rnext_end Q sb L wr hd)
      have HEND := hide hend
      clear hd hend
      generalize ((2 ^ (7 * k) : Nat) : Int) = SC
      go_wp2_with fail
      refine hn.out.mono ?_; rintro e w1 ⟨rfl, hd1, hg1⟩
      have HD1 := hide hd1
      have HG1 := hide (grown_trans HG.out hg1)
      clear hd1 hg1 hn
      go_wp2
      go_ret
      exact DPost.badI k 32 HPE.out rfl (by rw [HEND.out]; exact HD1.out) (by omega) HG1.out
    · have hlt : p + k < L.length := by omega
      have hdrop : L.drop (p + k) = L[p + k] :: L.drop (p + k + 1) := List.drop_eq_getElem_cons hlt
      have hcb := hbd.out _ (List.getElem_mem hlt)
      have hn := rnext_ok Q sb L (p + k) hlt wr hd
      have HST := hide (show ∀ W, DR W Q sb L (p + k) 0 → DR (W.setCell ⟨Q, 1, none⟩ (.int .i64 ((p + k + 1 : Nat) : Int))) Q sb L (p + k + 1) 0 from fun W hW => hW.step hlt)
      generalize L[p + k] = C at hdrop hcb hn
      have HDR := hide hdrop
      replace hn := hide hn
      clear hd hdrop hend
      have hwc : IntKind.u64.wrap (C % 128) = C % 128 := by rw [IntKind.wrap_u64]; omega
      have hkI : ((p + k : Nat) : Int) + 1 = ((p + k + 1 : Nat) : Int) := by omega
      have hpb : p + k + 1 ≤ 1000000000 := by omega
      by_cases hok : (k = 9 → C ≤ 1) ∧ (C ≠ 0 ∨ k = 0)
      · have hcond := (cond_max hk9 HM.out hcb.1 hcb.2).2 hok.1
        have hbv := bound_val hcb.1 hcond
        obtain ⟨SN, hSN⟩ : ∃ SN : Nat, 2 ^ (7 * k) = SN := ⟨_, rfl⟩
        rw [hSN] at hbv ⊢
        have HSN := hide hSN
        have hM64 : M64 = 18446744073709551615 := rfl
        have hmN : m < SN := by have := HM.out; omega
        have hS63 : SN ≤ 9223372036854775808 := by rw [← hSN]; exact Nat.le_trans (Nat.pow_le_pow_right (n := 2) (by omega) (show 7 * k ≤ 63 by omega)) (by decide)
        have hP : (C % 128) * (SN : Int) = ((C.toNat % 128 * SN : Nat) : Int) := by
          rw [Int.natCast_mul]; congr 1; omega
        have hwP : IntKind.u64.wrap ((C.toNat % 128 * SN : Nat) : Int) = ((C.toNat % 128 * SN : Nat) : Int) := by rw [IntKind.wrap_u64]; omega
        have hxv := hide (show IntKind.u64.wrap ((m : Int) + ((C.toNat % 128 * SN : Nat) : Int)) = ((m + C.toNat % 128 * SN : Nat) : Int) from by rw [IntKind.wrap_u64]; omega)
        clear hSN
        generalize hPN : C.toNat % 128 * SN = PN at hP hwP hxv
        have HPN := hide hPN
        clear hPN
        replace hok := hide hok
        clear hcond hbv
        by_cases h128 : C < 128
        · by_cases hk : k = 9
          · have b9 : ((k : Int) == 9) = true := by rw [hk]; rfl
            have hC1 : C = 1 := by rcases hok.out.2 with h | h; have := hok.out.1 hk; omega; omega
            have c1' : (C != 1) = false := by rw [hC1]; rfl
            have z0 : (C == 0) = false := by rw [hC1]; rfl
            have hkp' : (0 : Int) < (k : Int) := by omega
            clear hC1
            replace hk := hide hk
            go_wp2_with fail
            refine hn.out.mono ?_; rintro e w1 ⟨rfl, hd1, hg1⟩
            have HD1 := hide hd1
            have HG1 := hide (grown_trans HG.out hg1)
            obtain ⟨a1, cap1, hI1, _⟩ := hd1
            have c1 : w1.cell? ⟨Q, 1, none⟩ = some (.int .i64 ((p + k : Nat) : Int)) := hI1.cell 1
            have f1 := hI1.free 1
            clear hg1 hn hI1
            go_wp2_with fail
            refine (within_max _ _ _ _).mono ?_; rintro e w2 ⟨rfl, rfl⟩
            go_wp2
            rw [hxv.out]
            go_ret
            refine DPost.okI _ (k + 1) (HPP.out.trans (by rw [HDR.out]; exact pnum_end M64 k m C _ ⟨decide_eq_true ((cond_max hk9 HM.out hcb.1 hcb.2).2 hok.out.1), hok.out.2⟩ h128)) (by rw [HSN.out, HPN.out]; rfl) (by have := HST.out _ HD1.out; rw [← Nat.add_assoc]; exact this) (grown_trans HG1.out (grown_set _ _ _ _))
          · have b9 : ((k : Int) == 9) = false := by simp; omega
            by_cases hk0 : k = 0
            · have hkp' : ¬ (0 : Int) < (k : Int) := by omega
              replace hk0 := hide hk0
              go_wp2_with fail
              refine hn.out.mono ?_; rintro e w1 ⟨rfl, hd1, hg1⟩
              have HD1 := hide hd1
              have HG1 := hide (grown_trans HG.out hg1)
              obtain ⟨a1, cap1, hI1, _⟩ := hd1
              have c1 : w1.cell? ⟨Q, 1, none⟩ = some (.int .i64 ((p + k : Nat) : Int)) := hI1.cell 1
              have f1 := hI1.free 1
              clear hg1 hn hI1
              go_wp2_with fail
              refine (within_max _ _ _ _).mono ?_; rintro e w2 ⟨rfl, rfl⟩
              go_wp2
              rw [hxv.out]
              go_ret
              refine DPost.okI _ (k + 1) (HPP.out.trans (by rw [HDR.out]; exact pnum_end M64 k m C _ ⟨decide_eq_true ((cond_max hk9 HM.out hcb.1 hcb.2).2 hok.out.1), hok.out.2⟩ h128)) (by rw [HSN.out, HPN.out]; rfl) (by have := HST.out _ HD1.out; rw [← Nat.add_assoc]; exact this) (grown_trans HG1.out (grown_set _ _ _ _))
            · have hC0 : ¬ C = 0 := by rcases hok.out.2 with h | h; exact h; exact absurd h hk0
              have z0 : (C == 0) = false := by simp [hC0]
              have hkp' : (0 : Int) < (k : Int) := by omega
              go_wp2_with fail
              refine hn.out.mono ?_; rintro e w1 ⟨rfl, hd1, hg1⟩
              have HD1 := hide hd1
              have HG1 := hide (grown_trans HG.out hg1)
              obtain ⟨a1, cap1, hI1, _⟩ := hd1
              have c1 : w1.cell? ⟨Q, 1, none⟩ = some (.int .i64 ((p + k : Nat) : Int)) := hI1.cell 1
              have f1 := hI1.free 1
              clear hg1 hn hI1
              go_wp2_with fail
              refine (within_max _ _ _ _).mono ?_; rintro e w2 ⟨rfl, rfl⟩
              go_wp2
              rw [hxv.out]
              go_ret
              refine DPost.okI _ (k + 1) (HPP.out.trans (by rw [HDR.out]; exact pnum_end M64 k m C _ ⟨decide_eq_true ((cond_max hk9 HM.out hcb.1 hcb.2).2 hok.out.1), hok.out.2⟩ h128)) (by rw [HSN.out, HPN.out]; rfl) (by have := HST.out _ HD1.out; rw [← Nat.add_assoc]; exact this) (grown_trans HG1.out (grown_set _ _ _ _))
        · have hk : ¬ k = 9 := fun h => by have := hok.out.1 h; omega
          have hS56 : SN ≤ 72057594037927936 := by rw [← HSN.out]; exact Nat.le_trans (Nat.pow_le_pow_right (n := 2) (by omega) (show 7 * k ≤ 56 by omega)) (by decide)
          have b9 : ((k : Int) == 9) = false := by simp; omega
          have z0 : (C == 0) = false := by simp; omega
          by_cases hk0 : k = 0
          · have hkp' : ¬ (0 : Int) < (k : Int) := by omega
            replace hk0 := hide hk0
            go_wp2_with fail
            refine hn.out.mono ?_; rintro e w1 ⟨rfl, hd1, hg1⟩
            have HD1 := hide hd1
            have HG1 := hide (grown_trans HG.out hg1)
            obtain ⟨a1, cap1, hI1, _⟩ := hd1
            have c1 : w1.cell? ⟨Q, 1, none⟩ = some (.int .i64 ((p + k : Nat) : Int)) := hI1.cell 1
            have f1 := hI1.free 1
            clear hg1 hn hI1
            go_wp2_with fail
            refine (within_max _ _ _ _).mono ?_; rintro e w2 ⟨rfl, rfl⟩
            go_wp2
            go_roundw
            case rel =>
              refine ⟨k + 1, m + C.toNat % 128 * 2 ^ (7 * k), ?_, ?_, by go_num, ?_, split_ltc C m k HM.out, by omega, HPP.out.trans (by rw [HDR.out]; exact pnum_more M64 k m C _ ⟨decide_eq_true ((cond_max hk9 HM.out hcb.1 hcb.2).2 hok.out.1), hok.out.2⟩ (by omega)), (by have := HST.out _ HD1.out; rw [← Nat.add_assoc]; exact this), grown_trans HG1.out (grown_set _ _ _ _)⟩
              · rw [hxv.out, HSN.out, HPN.out]
              · rw [pow7, HSN.out, Int.natCast_mul]; rfl
              · rcases Nat.lt_or_ge k 9 with h | h
                · omega
                · exact absurd (hok.out.1 (by omega)) (by omega)
            case measure => simp [intOf]; omega
          · have hkp' : (0 : Int) < (k : Int) := by omega
            go_wp2_with fail
            refine hn.out.mono ?_; rintro e w1 ⟨rfl, hd1, hg1⟩
            have HD1 := hide hd1
            have HG1 := hide (grown_trans HG.out hg1)
            obtain ⟨a1, cap1, hI1, _⟩ := hd1
            have c1 : w1.cell? ⟨Q, 1, none⟩ = some (.int .i64 ((p + k : Nat) : Int)) := hI1.cell 1
            have f1 := hI1.free 1
            clear hg1 hn hI1
            go_wp2_with fail
            refine (within_max _ _ _ _).mono ?_; rintro e w2 ⟨rfl, rfl⟩
            go_wp2
            go_roundw
            case rel =>
              refine ⟨k + 1, m + C.toNat % 128 * 2 ^ (7 * k), ?_, ?_, by go_num, ?_, split_ltc C m k HM.out, by omega, HPP.out.trans (by rw [HDR.out]; exact pnum_more M64 k m C _ ⟨decide_eq_true ((cond_max hk9 HM.out hcb.1 hcb.2).2 hok.out.1), hok.out.2⟩ (by omega)), (by have := HST.out _ HD1.out; rw [← Nat.add_assoc]; exact this), grown_trans HG1.out (grown_set _ _ _ _)⟩
              · rw [hxv.out, HSN.out, HPN.out]
              · rw [pow7, HSN.out, Int.natCast_mul]; rfl
              · rcases Nat.lt_or_ge k 9 with h | h
                · omega
                · exact absurd (hok.out.1 (by omega)) (by omega)
            case measure => simp [intOf]; omega
      · have HNB := hide (show ¬ (decide (C ≤ (((M64 - m) / 2 ^ (7 * k) : Nat) : Int)) = true ∧ (C ≠ 0 ∨ k = 0)) from fun hh => hok ⟨(cond_max hk9 HM.out hcb.1 hcb.2).1 (of_decide_eq_true hh.1), hh.2⟩)
        generalize ((2 ^ (7 * k) : Nat) : Int) = SC
        by_cases hk : k = 9
        · have b9 : ((k : Int) == 9) = true := by rw [hk]; rfl
          have c1' : (C != 1) = true := by
            have : C ≠ 1 := fun h => hok ⟨fun _ => by omega, Or.inl (by omega)⟩
            simp [this]
          clear hok
          go_wp2_with fail
          refine hn.out.mono ?_; rintro e w1 ⟨rfl, hd1, hg1⟩
          have HD1 := hide hd1
          have HG1 := hide (grown_trans HG.out hg1)
          obtain ⟨a1, cap1, hI1, _⟩ := hd1
          have c2 : w1.cell? ⟨Q, 2, none⟩ = some (.int .i64 0) := hI1.cell 2
          have f2 := hI1.free 2
          clear hg1 hn hI1
          go_wp2
          go_ret
          exact DPost.badI k 31 (HPP.out.trans (by rw [HDR.out]; exact pnum_bad M64 k m C _ HNB.out)) rfl (HD1.out.setE 31) (by omega) (grown_trans HG1.out (grown_set _ _ _ _))
        · have b9 : ((k : Int) == 9) = false := by simp; omega
          have hz : C = 0 ∧ 0 < k := by
            rcases Nat.eq_zero_or_pos k with h | h
            · exact absurd ⟨fun h9 => absurd h9 hk, Or.inr h⟩ hok
            · refine ⟨?_, h⟩
              by_cases h0 : C = 0
              · exact h0
              · exact absurd ⟨fun h9 => absurd h9 hk, Or.inl h0⟩ hok
          have hkp : 0 < k := hz.2
          have hkp' : (0 : Int) < (k : Int) := by omega
          have z0 : (C == 0) = true := by rw [hz.1]; rfl
          clear hok hz
          go_wp2_with fail
          refine hn.out.mono ?_; rintro e w1 ⟨rfl, hd1, hg1⟩
          have HD1 := hide hd1
          have HG1 := hide (grown_trans HG.out hg1)
          obtain ⟨a1, cap1, hI1, _⟩ := hd1
          have c2 : w1.cell? ⟨Q, 2, none⟩ = some (.int .i64 0) := hI1.cell 2
          have f2 := hI1.free 2
          clear hg1 hn hI1
          go_wp2
          go_ret
          exact DPost.badI k 31 (HPP.out.trans (by rw [HDR.out]; exact pnum_bad M64 k m C _ HNB.out)) rfl (HD1.out.setE 31) (by omega) (grown_trans HG1.out (grown_set _ _ _ _))

end Go.Proofs.YtmhcmlegdoapdaaDoor
