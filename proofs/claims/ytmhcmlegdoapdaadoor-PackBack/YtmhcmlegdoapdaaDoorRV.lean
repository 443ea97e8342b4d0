/- The document's reader: the next byte, a byte, a number, an int, of any bytes. -/
import Derived.Test.YtmhcmlegdoapdaaDoorRU
namespace Go.Proofs.YtmhcmlegdoapdaaDoor
open Go.RowKit

/-- The document's reader lies in block Q: its bytes, how many were taken, its fault. -/
def DR (w : World) (Q sb : Nat) (L : List Int) (p : Nat) (e : Int) : Prop :=
  ∃ a cap, IsB w Q #[.slice a L.length cap, .int .i64 (p : Int), .int .i64 e] 73 ∧ p ≤ L.length ∧ L.length ≤ 1000000000 ∧ L.length ≤ cap ∧ cap ≤ 9223372036854775807 ∧ (∀ c ∈ L, 0 ≤ c ∧ c < 256) ∧ (∀ x, a = some x → x.block = sb) ∧ Src w Q a cap L
theorem DR.lt {w : World} {Q sb : Nat} {L : List Int} {p : Nat} {e : Int} (h : DR w Q sb L p e) : Q < w.heap.size := by
  obtain ⟨a, cap, h, _⟩ := h; exact h.lt
theorem DR.bd {w : World} {Q sb : Nat} {L : List Int} {p : Nat} {e : Int} (h : DR w Q sb L p e) : ∀ c ∈ L, 0 ≤ c ∧ c < 256 := by
  obtain ⟨_, _, _, _, _, _, _, h, _⟩ := h; exact h
theorem DR.le {w : World} {Q sb : Nat} {L : List Int} {p : Nat} {e : Int} (h : DR w Q sb L p e) : p ≤ L.length ∧ L.length ≤ 1000000000 := by
  obtain ⟨_, _, _, h1, h2, _⟩ := h; exact ⟨h1, h2⟩
theorem DR.drew {w : World} {Q sb : Nat} {L : List Int} {p : Nat} {e : Int} (h : DR w Q sb L p e) : DR w.drew Q sb L p e := h
theorem DR.setE {w : World} {Q sb : Nat} {L : List Int} {p : Nat} {e : Int} (h : DR w Q sb L p e) (e' : Int) : DR (w.setCell ⟨Q, 2, none⟩ (.int .i64 e')) Q sb L p e' := by
  obtain ⟨a, cap, h1, h2, h3, h4, h5, h6, h7, h8⟩ := h
  exact ⟨a, cap, IsB.set2 h1 _, h2, h3, h4, h5, h6, h7, h8.kept (grown_set w Q 2 _)⟩
theorem IsB.set1of3 {w : World} {b : Nat} {x y z : Value} {t : TypeId} (h : IsB w b #[x, y, z] t) (v : Value) : IsB (w.setCell ⟨b, 1, none⟩ v) b #[x, v, z] t := by
  unfold IsB at *
  rw [Sort.setCell_eq]
  simp only [Sort.mapBlock, Array.getElem?_modify, if_true, h, Option.map_some, Sort.onCells]
  rfl
theorem DR.step {w : World} {Q sb : Nat} {L : List Int} {p : Nat} {e : Int} (h : DR w Q sb L p e) (hp : p < L.length) : DR (w.setCell ⟨Q, 1, none⟩ (.int .i64 ((p + 1 : Nat) : Int))) Q sb L (p + 1) e := by
  obtain ⟨a, cap, h1, h2, h3, h4, h5, h6, h7, h8⟩ := h
  exact ⟨a, cap, IsB.set1of3 h1 _, hp, h3, h4, h5, h6, h7, h8.kept (grown_set w Q 1 _)⟩

set_option maxHeartbeats 1000000 in
set_option maxRecDepth 100000 in
theorem rnext_bad (Q sb : Nat) (L : List Int) (p : Nat) (e : Int) (he : e ≠ 0) (w : World) (h : DR w Q sb L p e) :
    Calls Tryd.prog 72 #[.pointer (some ⟨Q, 0, none⟩)] w fun r w' => r = .returned (.tuple #[.int .u8 0, .bool false]) ∧ w' = w := by
  obtain ⟨a, cap, h1, _⟩ := h
  have a2 : w.cell? ⟨Q, 2, none⟩ = some (.int .i64 e) := h1.cell 2
  have he' : (e != 0) = true := by simp [he]
  clear h1
  go_enter Tryd.func72, Tryd.ntmps72
  go_wp2
  go_ret2
  exact ⟨rfl, rfl⟩

set_option maxHeartbeats 1000000 in
set_option maxRecDepth 100000 in
theorem rnext_end (Q sb : Nat) (L : List Int) (w : World) (h : DR w Q sb L L.length 0) :
    Calls Tryd.prog 72 #[.pointer (some ⟨Q, 0, none⟩)] w fun r w' => r = .returned (.tuple #[.int .u8 0, .bool false]) ∧ DR w' Q sb L L.length 32 ∧ w.grownBy w' (some Q) := by
  have HD := hide h
  obtain ⟨a, cap, h1, h2, h3, _⟩ := h
  have a0 : w.cell? ⟨Q, 0, none⟩ = some (.slice a L.length cap) := h1.cell 0
  have a1 : w.cell? ⟨Q, 1, none⟩ = some (.int .i64 (L.length : Int)) := h1.cell 1
  have a2 : w.cell? ⟨Q, 2, none⟩ = some (.int .i64 0) := h1.cell 2
  have f2 := h1.free 2
  clear h1
  go_enter Tryd.func72, Tryd.ntmps72
  go_wp2
  go_region
  go_wp2
  go_ret2
  exact ⟨rfl, HD.out.drew.setE 32, grown_trans (grown_of_gr ((Gr.refl w).drew) _) (grown_set _ _ _ _)⟩

set_option maxHeartbeats 1000000 in
set_option maxRecDepth 100000 in
theorem rnext_ok (Q sb : Nat) (L : List Int) (p : Nat) (hp : p < L.length) (w : World) (h : DR w Q sb L p 0) :
    Calls Tryd.prog 72 #[.pointer (some ⟨Q, 0, none⟩)] w fun r w' => r = .returned (.tuple #[.int .u8 L[p], .bool true]) ∧ DR w' Q sb L p 0 ∧ w.grownBy w' (some Q) := by
  have HD := hide h
  obtain ⟨a, cap, h1, h2, h3, h4, h5, h6, h7, h8⟩ := h
  rcases h8 with ⟨_, h8, _⟩ | ⟨b, o, rfl, g2, g3, g4⟩
  · rw [h8] at hp; simp at hp
  have hc := g4 p hp
  have a0 : w.cell? ⟨Q, 0, none⟩ = some (.slice (some ⟨b, o, none⟩) L.length cap) := h1.cell 0
  have a1 : w.cell? ⟨Q, 1, none⟩ = some (.int .i64 (p : Int)) := h1.cell 1
  have a2 : w.cell? ⟨Q, 2, none⟩ = some (.int .i64 0) := h1.cell 2
  generalize L[p] = c at hc ⊢
  clear h1 g4 h6 h7
  go_enter Tryd.func72, Tryd.ntmps72
  go_wp2
  go_region
  go_wp2
  go_region
  go_wp2
  go_ret2
  exact ⟨rfl, HD.out, grown_of_gr (((Gr.refl w).drew).drew) _⟩

end Go.Proofs.YtmhcmlegdoapdaaDoor

/- The document's reader: numbers, of any bytes. -/
namespace Go.Proofs.YtmhcmlegdoapdaaDoor
open Go.RowKit

set_option maxHeartbeats 400000 in
set_option maxRecDepth 100000 in
theorem within_max (x s c : Int) (w : World) : Calls Tryd.prog 73 #[.int .u64 x, .int .u64 s, .int .u8 c, .int .u64 18446744073709551615] w fun e w' => e = .returned (.bool true) ∧ w' = w := by
  go_enter Tryd.func73, Tryd.ntmps73
  go_wp2
  go_ret
  exact ⟨rfl, rfl⟩

theorem cond_max {k m : Nat} {C : Int} (hk : k ≤ 9) (hm : m < 2 ^ (7 * k)) (h0 : 0 ≤ C) (h1 : C < 256) : (C ≤ (((M64 - m) / 2 ^ (7 * k) : Nat) : Int)) ↔ (k = 9 → C ≤ 1) := by
  have e : M64 = 18446744073709551615 := rfl
  rcases Nat.lt_or_ge k 9 with h9 | h9
  · refine ⟨fun _ h => by omega, fun _ => ?_⟩
    have hp : 2 ^ (7 * k) * 256 ≤ 18446744073709551616 := by
      have : (18446744073709551616 : Nat) = 2 ^ 56 * 256 := by decide
      rw [this]
      exact Nat.mul_le_mul_right _ (Nat.pow_le_pow_right (by omega) (by omega))
    have h2 : 255 ≤ (M64 - m) / 2 ^ (7 * k) := (Nat.le_div_iff_mul_le (Nat.two_pow_pos _)).2 (by omega)
    omega
  · obtain rfl : k = 9 := by omega
    have e2 : 2 ^ (7 * 9) = 9223372036854775808 := by decide
    rw [e2] at hm ⊢
    have h2 : (M64 - m) / 9223372036854775808 = 1 := by omega
    rw [h2]
    exact ⟨fun h _ => h, fun h => h rfl⟩

theorem split_ltc (C : Int) (m k : Nat) (h : m < 2 ^ (7 * k)) : m + C.toNat % 128 * 2 ^ (7 * k) < 2 ^ (7 * (k + 1)) := split_lt C.toNat m k h

/-- What the document's reader leaves. -/
def DPost {α : Type} (w : World) (Q sb : Nat) (L : List Int) (p : Nat) (val : α → Value) (z : Value) (r : PR α) (e : Ending) (w' : World) : Prop :=
  (match r with
    | .ok x n => e = .returned (val x) ∧ DR w' Q sb L (p + n) 0
    | .bad i er => e = .returned z ∧ DR w' Q sb L (p + i) er ∧ er ≠ 0) ∧ w.grownBy w' (some Q)
theorem DPost.okI {α : Type} {w : World} {Q sb : Nat} {L : List Int} {p : Nat} {val : α → Value} {z : Value} {r : PR α} {e : Ending} {w' : World} (x : α) (n : Nat) (hr : r = .ok x n) (he : e = .returned (val x)) (hd : DR w' Q sb L (p + n) 0) (hg : w.grownBy w' (some Q)) : DPost w Q sb L p val z r e w' := by
  subst hr; exact ⟨⟨he, hd⟩, hg⟩
theorem DPost.badI {α : Type} {w : World} {Q sb : Nat} {L : List Int} {p : Nat} {val : α → Value} {z : Value} {r : PR α} {e : Ending} {w' : World} (i : Nat) (er : Int) (hr : r = .bad i er) (he : e = .returned z) (hd : DR w' Q sb L (p + i) er) (hn : er ≠ 0) (hg : w.grownBy w' (some Q)) : DPost w Q sb L p val z r e w' := by
  subst hr; exact ⟨⟨he, hd, hn⟩, hg⟩

set_option maxHeartbeats 8000000 in
set_option maxRecDepth 100000 in
theorem rnumber_max (Q sb : Nat) (L : List Int) (p : Nat) (w : World) (h : DR w Q sb L p 0) :
    Calls Tryd.prog 57 #[.pointer (some ⟨Q, 0, none⟩), .int .u64 18446744073709551615] w fun e w' => DPost w Q sb L p (fun x : Nat => .int .u64 (x : Int)) (.int .u64 0) (pnum M64 0 0 (L.drop p)) e w' := by
  have HD := hide h
  have hbd := hide h.bd
  have hple := h.le
  clear h
  go_enter Tryd.func57, Tryd.ntmps57
  go_wp2
  go_loopw [5, 6, 7] (fun x s i wr => ∃ (k m : Nat), x = .int .u64 (m : Int) ∧ s = .int .u64 ((2 ^ (7 * k) : Nat) : Int) ∧ i = .int .i64 (k : Int) ∧ k ≤ 9 ∧ m < 2 ^ (7 * k) ∧ p + k ≤ L.length ∧ pnum M64 0 0 (L.drop p) = pnum M64 k m (L.drop (p + k)) ∧ DR wr Q sb L (p + k) 0 ∧ w.grownBy wr (some Q)) (fun _ _ i _ => (10 - intOf i).toNat)
  case atStart => exact ⟨0, 0, rfl, rfl, rfl, by omega, by omega, hple.1, rfl, HD.out, ⟨rfl, rfl, rfl, Nat.le_refl _, fun _ _ _ => rfl⟩⟩
  case round =>
    clear HD
    obtain ⟨k, m, rfl, rfl, rfl, hk9, hm, hpk, hpp, hd, hg⟩ := hrel
    have HM := hide hm
    have HPP := hide hpp
    have HG := hide hg
    clear hm hpp hg
    have hk10 : (k : Int) < 10 := by omega
    by_cases hend : p + k = L.length
    · have HPE := hide (show pnum M64 0 0 (L.drop p) = .bad k 32 from by rw [HPP.out, hend, List.drop_length]; rfl)
      rw [hend] at hd
      have hn := hide (rnext_end Q sb L wr hd)
      have HEND := hide hend
      clear hd hend
      generalize ((2 ^ (7 * k) : Nat) : Int) = SC
      go_wp2_with fail
      refine hn.out.mono ?_; rintro e w1 ⟨rfl, hd1, hg1⟩
      have HD1 := hide hd1
      have HG1 := hide (grown_trans HG.out hg1)
      clear hd1 hg1 hn
      go_wp2
      go_ret
      exact DPost.badI k 32 HPE.out rfl (by rw [HEND.out]; exact HD1.out) (by omega) HG1.out
    · have hlt : p + k < L.length := by omega
      have hdrop : L.drop (p + k) = L[p + k] :: L.drop (p + k + 1) := List.drop_eq_getElem_cons hlt
      have hcb := hbd.out _ (List.getElem_mem hlt)
      have hn := rnext_ok Q sb L (p + k) hlt wr hd
      have HST := hide (show ∀ W, DR W Q sb L (p + k) 0 → DR (W.setCell ⟨Q, 1, none⟩ (.int .i64 ((p + k + 1 : Nat) : Int))) Q sb L (p + k + 1) 0 from fun W hW => hW.step hlt)
      generalize L[p + k] = C at hdrop hcb hn
      have HDR := hide hdrop
      replace hn := hide hn
      clear hd hdrop hend
      have hwc : IntKind.u64.wrap (C % 128) = C % 128 := by rw [IntKind.wrap_u64]; omega
      have hkI : ((p + k : Nat) : Int) + 1 = ((p + k + 1 : Nat) : Int) := by omega
      have hpb : p + k + 1 ≤ 1000000000 := by omega
      by_cases hok : (k = 9 → C ≤ 1) ∧ (C ≠ 0 ∨ k = 0)
      · have hcond := (cond_max hk9 HM.out hcb.1 hcb.2).2 hok.1
        have hbv := bound_val hcb.1 hcond
        obtain ⟨SN, hSN⟩ : ∃ SN : Nat, 2 ^ (7 * k) = SN := ⟨_, rfl⟩
        rw [hSN] at hbv ⊢
        have HSN := hide hSN
        have hM64 : M64 = 18446744073709551615 := rfl
        have hmN : m < SN := by have := HM.out; omega
        have hS63 : SN ≤ 9223372036854775808 := by rw [← hSN]; exact Nat.le_trans (Nat.pow_le_pow_right (n := 2) (by omega) (show 7 * k ≤ 63 by omega)) (by decide)
        have hP : (C % 128) * (SN : Int) = ((C.toNat % 128 * SN : Nat) : Int) := by
          rw [Int.natCast_mul]; congr 1; omega
        have hwP : IntKind.u64.wrap ((C.toNat % 128 * SN : Nat) : Int) = ((C.toNat % 128 * SN : Nat) : Int) := by rw [IntKind.wrap_u64]; omega
        have hxv := hide (show IntKind.u64.wrap ((m : Int) + ((C.toNat % 128 * SN : Nat) : Int)) = ((m + C.toNat % 128 * SN : Nat) : Int) from by rw [IntKind.wrap_u64]; omega)
        clear hSN
        generalize hPN : C.toNat % 128 * SN = PN at hP hwP hxv
        have HPN := hide hPN
        clear hPN
        replace hok := hide hok
        clear hcond hbv
        by_cases h128 : C < 128
        · by_cases hk : k = 9
          · have b9 : ((k : Int) == 9) = true := by rw [hk]; rfl
            have hC1 : C = 1 := by rcases hok.out.2 with h | h; have := hok.out.1 hk; omega; omega
            have c1' : (C != 1) = false := by rw [hC1]; rfl
            have z0 : (C == 0) = false := by rw [hC1]; rfl
            have hkp' : (0 : Int) < (k : Int) := by omega
            clear hC1
            replace hk := hide hk
            go_wp2_with fail
            refine hn.out.mono ?_; rintro e w1 ⟨rfl, hd1, hg1⟩
            have HD1 := hide hd1
            have HG1 := hide (grown_trans HG.out hg1)
            obtain ⟨a1, cap1, hI1, _⟩ := hd1
            have c1 : w1.cell? ⟨Q, 1, none⟩ = some (.int .i64 ((p + k : Nat) : Int)) := hI1.cell 1
            have f1 := hI1.free 1
            clear hg1 hn hI1
            go_wp2_with fail
            refine (within_max _ _ _ _).mono ?_; rintro e w2 ⟨rfl, rfl⟩
            go_wp2
            rw [hxv.out]
            go_ret
            refine DPost.okI _ (k + 1) (HPP.out.trans (by rw [HDR.out]; exact pnum_end M64 k m C _ ⟨decide_eq_true ((cond_max hk9 HM.out hcb.1 hcb.2).2 hok.out.1), hok.out.2⟩ h128)) (by rw [HSN.out, HPN.out]; rfl) (by have := HST.out _ HD1.out; rw [← Nat.add_assoc]; exact this) (grown_trans HG1.out (grown_set _ _ _ _))
          · have b9 : ((k : Int) == 9) = false := by simp; omega
            by_cases hk0 : k = 0
            · have hkp' : ¬ (0 : Int) < (k : Int) := by omega
              replace hk0 := hide hk0
              go_wp2_with fail
              refine hn.out.mono ?_; rintro e w1 ⟨rfl, hd1, hg1⟩
              have HD1 := hide hd1
              have HG1 := hide (grown_trans HG.out hg1)
              obtain ⟨a1, cap1, hI1, _⟩ := hd1
              have c1 : w1.cell? ⟨Q, 1, none⟩ = some (.int .i64 ((p + k : Nat) : Int)) := hI1.cell 1
              have f1 := hI1.free 1
              clear hg1 hn hI1
              go_wp2_with fail
              refine (within_max _ _ _ _).mono ?_; rintro e w2 ⟨rfl, rfl⟩
              go_wp2
              rw [hxv.out]
              go_ret
              refine DPost.okI _ (k + 1) (HPP.out.trans (by rw [HDR.out]; exact pnum_end M64 k m C _ ⟨decide_eq_true ((cond_max hk9 HM.out hcb.1 hcb.2).2 hok.out.1), hok.out.2⟩ h128)) (by rw [HSN.out, HPN.out]; rfl) (by have := HST.out _ HD1.out; rw [← Nat.add_assoc]; exact this) (grown_trans HG1.out (grown_set _ _ _ _))
            · have hC0 : ¬ C = 0 := by rcases hok.out.2 with h | h; exact h; exact absurd h hk0
              have z0 : (C == 0) = false := by simp [hC0]
              have hkp' : (0 : Int) < (k : Int) := by omega
              go_wp2_with fail
              refine hn.out.mono ?_; rintro e w1 ⟨rfl, hd1, hg1⟩
              have HD1 := hide hd1
              have HG1 := hide (grown_trans HG.out hg1)
              obtain ⟨a1, cap1, hI1, _⟩ := hd1
              have c1 : w1.cell? ⟨Q, 1, none⟩ = some (.int .i64 ((p + k : Nat) : Int)) := hI1.cell 1
              have f1 := hI1.free 1
              clear hg1 hn hI1
              go_wp2_with fail
              refine (within_max _ _ _ _).mono ?_; rintro e w2 ⟨rfl, rfl⟩
              go_wp2
              rw [hxv.out]
              go_ret
              refine DPost.okI _ (k + 1) (HPP.out.trans (by rw [HDR.out]; exact pnum_end M64 k m C _ ⟨decide_eq_true ((cond_max hk9 HM.out hcb.1 hcb.2).2 hok.out.1), hok.out.2⟩ h128)) (by rw [HSN.out, HPN.out]; rfl) (by have := HST.out _ HD1.out; rw [← Nat.add_assoc]; exact this) (grown_trans HG1.out (grown_set _ _ _ _))
        · have hk : ¬ k = 9 := fun h => by have := hok.out.1 h; omega
          have hS56 : SN ≤ 72057594037927936 := by rw [← HSN.out]; exact Nat.le_trans (Nat.pow_le_pow_right (n := 2) (by omega) (show 7 * k ≤ 56 by omega)) (by decide)
          have b9 : ((k : Int) == 9) = false := by simp; omega
          have z0 : (C == 0) = false := by simp; omega
          by_cases hk0 : k = 0
          · have hkp' : ¬ (0 : Int) < (k : Int) := by omega
            replace hk0 := hide hk0
            go_wp2_with fail
            refine hn.out.mono ?_; rintro e w1 ⟨rfl, hd1, hg1⟩
            have HD1 := hide hd1
            have HG1 := hide (grown_trans HG.out hg1)
            obtain ⟨a1, cap1, hI1, _⟩ := hd1
            have c1 : w1.cell? ⟨Q, 1, none⟩ = some (.int .i64 ((p + k : Nat) : Int)) := hI1.cell 1
            have f1 := hI1.free 1
            clear hg1 hn hI1
            go_wp2_with fail
            refine (within_max _ _ _ _).mono ?_; rintro e w2 ⟨rfl, rfl⟩
            go_wp2
            go_roundw
            case rel =>
              refine ⟨k + 1, m + C.toNat % 128 * 2 ^ (7 * k), ?_, ?_, by go_num, ?_, split_ltc C m k HM.out, by omega, HPP.out.trans (by rw [HDR.out]; exact pnum_more M64 k m C _ ⟨decide_eq_true ((cond_max hk9 HM.out hcb.1 hcb.2).2 hok.out.1), hok.out.2⟩ (by omega)), (by have := HST.out _ HD1.out; rw [← Nat.add_assoc]; exact this), grown_trans HG1.out (grown_set _ _ _ _)⟩
              · rw [hxv.out, HSN.out, HPN.out]
              · rw [pow7, HSN.out, Int.natCast_mul]; rfl
              · rcases Nat.lt_or_ge k 9 with h | h
                · omega
                · exact absurd (hok.out.1 (by omega)) (by omega)
            case measure => simp [intOf]; omega
          · have hkp' : (0 : Int) < (k : Int) := by omega
            go_wp2_with fail
            refine hn.out.mono ?_; rintro e w1 ⟨rfl, hd1, hg1⟩
            have HD1 := hide hd1
            have HG1 := hide (grown_trans HG.out hg1)
            obtain ⟨a1, cap1, hI1, _⟩ := hd1
            have c1 : w1.cell? ⟨Q, 1, none⟩ = some (.int .i64 ((p + k : Nat) : Int)) := hI1.cell 1
            have f1 := hI1.free 1
            clear hg1 hn hI1
            go_wp2_with fail
            refine (within_max _ _ _ _).mono ?_; rintro e w2 ⟨rfl, rfl⟩
            go_wp2
            go_roundw
            case rel =>
              refine ⟨k + 1, m + C.toNat % 128 * 2 ^ (7 * k), ?_, ?_, by go_num, ?_, split_ltc C m k HM.out, by omega, HPP.out.trans (by rw [HDR.out]; exact pnum_more M64 k m C _ ⟨decide_eq_true ((cond_max hk9 HM.out hcb.1 hcb.2).2 hok.out.1), hok.out.2⟩ (by omega)), (by have := HST.out _ HD1.out; rw [← Nat.add_assoc]; exact this), grown_trans HG1.out (grown_set _ _ _ _)⟩
              · rw [hxv.out, HSN.out, HPN.out]
              · rw [pow7, HSN.out, Int.natCast_mul]; rfl
              · rcases Nat.lt_or_ge k 9 with h | h
                · omega
                · exact absurd (hok.out.1 (by omega)) (by omega)
            case measure => simp [intOf]; omega
      · have HNB := hide (show ¬ (decide (C ≤ (((M64 - m) / 2 ^ (7 * k) : Nat) : Int)) = true ∧ (C ≠ 0 ∨ k = 0)) from fun hh => hok ⟨(cond_max hk9 HM.out hcb.1 hcb.2).1 (of_decide_eq_true hh.1), hh.2⟩)
        generalize ((2 ^ (7 * k) : Nat) : Int) = SC
        by_cases hk : k = 9
        · have b9 : ((k : Int) == 9) = true := by rw [hk]; rfl
          have c1' : (C != 1) = true := by
            have : C ≠ 1 := fun h => hok ⟨fun _ => by omega, Or.inl (by omega)⟩
            simp [this]
          clear hok
          go_wp2_with fail
          refine hn.out.mono ?_; rintro e w1 ⟨rfl, hd1, hg1⟩
          have HD1 := hide hd1
          have HG1 := hide (grown_trans HG.out hg1)
          obtain ⟨a1, cap1, hI1, _⟩ := hd1
          have c2 : w1.cell? ⟨Q, 2, none⟩ = some (.int .i64 0) := hI1.cell 2
          have f2 := hI1.free 2
          clear hg1 hn hI1
          go_wp2
          go_ret
          exact DPost.badI k 31 (HPP.out.trans (by rw [HDR.out]; exact pnum_bad M64 k m C _ HNB.out)) rfl (HD1.out.setE 31) (by omega) (grown_trans HG1.out (grown_set _ _ _ _))
        · have b9 : ((k : Int) == 9) = false := by simp; omega
          have hz : C = 0 ∧ 0 < k := by
            rcases Nat.eq_zero_or_pos k with h | h
            · exact absurd ⟨fun h9 => absurd h9 hk, Or.inr h⟩ hok
            · refine ⟨?_, h⟩
              by_cases h0 : C = 0
              · exact h0
              · exact absurd ⟨fun h9 => absurd h9 hk, Or.inl h0⟩ hok
          have hkp : 0 < k := hz.2
          have hkp' : (0 : Int) < (k : Int) := by omega
          have z0 : (C == 0) = true := by rw [hz.1]; rfl
          clear hok hz
          go_wp2_with fail
          refine hn.out.mono ?_; rintro e w1 ⟨rfl, hd1, hg1⟩
          have HD1 := hide hd1
          have HG1 := hide (grown_trans HG.out hg1)
          obtain ⟨a1, cap1, hI1, _⟩ := hd1
          have c2 : w1.cell? ⟨Q, 2, none⟩ = some (.int .i64 0) := hI1.cell 2
          have f2 := hI1.free 2
          clear hg1 hn hI1
          go_wp2
          go_ret
          exact DPost.badI k 31 (HPP.out.trans (by rw [HDR.out]; exact pnum_bad M64 k m C _ HNB.out)) rfl (HD1.out.setE 31) (by omega) (grown_trans HG1.out (grown_set _ _ _ _))

end Go.Proofs.YtmhcmlegdoapdaaDoor

/- The document's reader: a byte, an int, of any bytes. -/
namespace Go.Proofs.YtmhcmlegdoapdaaDoor
open Go.RowKit

set_option maxHeartbeats 1000000 in
set_option maxRecDepth 100000 in
theorem rbyte_bad (Q sb : Nat) (L : List Int) (p : Nat) (e : Int) (he : e ≠ 0) (a b : Int) (w : World) (h : DR w Q sb L p e) :
    Calls Tryd.prog 59 #[.pointer (some ⟨Q, 0, none⟩), .int .u8 a, .int .u8 b] w fun r w' => r = .returned (.int .u8 0) ∧ w' = w := by
  have hn := hide (rnext_bad Q sb L p e he w h)
  clear h
  go_enter Tryd.func59, Tryd.ntmps59
  go_wp2_with fail
  refine hn.out.mono ?_; rintro r w1 ⟨rfl, rfl⟩
  go_wp2
  go_ret
  exact ⟨rfl, rfl⟩

/-- A byte from a to b. -/
def pbyte (a b : Int) : List Int → PR Int
  | [] => .bad 0 32
  | c :: _ => if a ≤ c ∧ c ≤ b then .ok c 1 else .bad 0 31

set_option maxHeartbeats 2000000 in
set_option maxRecDepth 100000 in
theorem rbyte_any (Q sb : Nat) (L : List Int) (p : Nat) (a b : Int) (w : World) (h : DR w Q sb L p 0) :
    Calls Tryd.prog 59 #[.pointer (some ⟨Q, 0, none⟩), .int .u8 a, .int .u8 b] w fun e w' => DPost w Q sb L p (fun x : Int => .int .u8 x) (.int .u8 0) (pbyte a b (L.drop p)) e w' := by
  have hple := h.le
  have hbd := hide h.bd
  by_cases hend : p = L.length
  · subst hend
    have hn := hide (rnext_end Q sb L w h)
    have HPE := hide (show pbyte a b (L.drop L.length) = .bad 0 32 from by rw [List.drop_length]; rfl)
    clear h
    go_enter Tryd.func59, Tryd.ntmps59
    go_wp2_with fail
    refine hn.out.mono ?_; rintro r w1 ⟨rfl, hd1, hg1⟩
    have HD1 := hide hd1
    have HG1 := hide hg1
    clear hd1 hg1
    go_wp2
    go_ret
    exact DPost.badI 0 32 HPE.out rfl HD1.out (by omega) HG1.out
  · have hlt : p < L.length := by omega
    have hdrop : L.drop p = L[p] :: L.drop (p + 1) := List.drop_eq_getElem_cons hlt
    have hn := rnext_ok Q sb L p hlt w h
    have HST := hide (show ∀ W, DR W Q sb L p 0 → DR (W.setCell ⟨Q, 1, none⟩ (.int .i64 ((p + 1 : Nat) : Int))) Q sb L (p + 1) 0 from fun W hW => hW.step hlt)
    have hcb := hbd.out _ (List.getElem_mem hlt)
    generalize L[p] = c at hdrop hn hcb
    replace hn := hide hn
    clear h hbd
    have hp9 : p ≤ 1000000000 := by omega
    by_cases h1 : a ≤ c ∧ c ≤ b
    · have HPE := hide (show pbyte a b (L.drop p) = .ok c 1 from by rw [hdrop]; exact if_pos h1)
      have hca : a ≤ c := h1.1
      have hcb2 : c ≤ b := h1.2
      have d1 : decide (c < a) = false := by simp; omega
      have d2 : decide (b < c) = false := by simp; omega
      clear hdrop h1
      go_enter Tryd.func59, Tryd.ntmps59
      go_wp2_with fail
      refine hn.out.mono ?_; rintro r w1 ⟨rfl, hd1, hg1⟩
      have HD1 := hide hd1
      have HG1 := hide hg1
      obtain ⟨a1, cap1, hI1, _⟩ := hd1
      have c1 : w1.cell? ⟨Q, 1, none⟩ = some (.int .i64 (p : Int)) := hI1.cell 1
      have f1 := hI1.free 1
      clear hg1 hn hI1
      go_wp2
      go_ret
      exact DPost.okI c 1 HPE.out rfl (by have := HST.out _ HD1.out; rw [Int.natCast_add] at this; exact this) (grown_trans HG1.out (grown_set _ _ _ _))
    · have HPE := hide (show pbyte a b (L.drop p) = .bad 0 31 from by rw [hdrop]; exact if_neg h1)
      clear hdrop
      by_cases hca : c < a
      · clear h1
        go_enter Tryd.func59, Tryd.ntmps59
        go_wp2_with fail
        refine hn.out.mono ?_; rintro r w1 ⟨rfl, hd1, hg1⟩
        have HD1 := hide hd1
        have HG1 := hide hg1
        obtain ⟨a1, cap1, hI1, _⟩ := hd1
        have c2 : w1.cell? ⟨Q, 2, none⟩ = some (.int .i64 0) := hI1.cell 2
        have f2 := hI1.free 2
        clear hg1 hn hI1
        go_wp2
        go_ret
        exact DPost.badI 0 31 HPE.out rfl (HD1.out.setE 31) (by omega) (grown_trans HG1.out (grown_set _ _ _ _))
      · have hcb2 : b < c := by omega
        clear h1
        go_enter Tryd.func59, Tryd.ntmps59
        go_wp2_with fail
        refine hn.out.mono ?_; rintro r w1 ⟨rfl, hd1, hg1⟩
        have HD1 := hide hd1
        have HG1 := hide hg1
        obtain ⟨a1, cap1, hI1, _⟩ := hd1
        have c2 : w1.cell? ⟨Q, 2, none⟩ = some (.int .i64 0) := hI1.cell 2
        have f2 := hI1.free 2
        clear hg1 hn hI1
        go_wp2
        go_ret
        exact DPost.badI 0 31 HPE.out rfl (HD1.out.setE 31) (by omega) (grown_trans HG1.out (grown_set _ _ _ _))

set_option maxHeartbeats 1000000 in
set_option maxRecDepth 100000 in
theorem rnumber_bad (Q sb : Nat) (L : List Int) (p : Nat) (e : Int) (he : e ≠ 0) (most : Int) (w : World) (h : DR w Q sb L p e) :
    Calls Tryd.prog 57 #[.pointer (some ⟨Q, 0, none⟩), .int .u64 most] w fun r w' => r = .returned (.int .u64 0) ∧ w' = w := by
  have hn := hide (rnext_bad Q sb L p e he w h)
  clear h
  go_enter Tryd.func57, Tryd.ntmps57
  go_wp2
  go_loopw [5, 6, 7] (fun x s i wr => x = .int .u64 0 ∧ s = .int .u64 1 ∧ i = .int .i64 0 ∧ wr = w) (fun _ _ _ _ => 0)
  case atStart => exact ⟨rfl, rfl, rfl, rfl⟩
  case round =>
    obtain ⟨rfl, rfl, rfl, rfl⟩ := hrel
    go_wp2_with fail
    refine hn.out.mono ?_; rintro r w1 ⟨rfl, rfl⟩
    go_wp2
    go_ret
    exact ⟨rfl, rfl⟩

theorem unf_w (x : Nat) (hx : x < 18446744073709551616) : IntKind.i64.wrap ((x / 2 : Nat) : Int) = ((x / 2 : Nat) : Int) := by rw [IntKind.wrap_i64]; omega

set_option maxHeartbeats 1000000 in
set_option maxRecDepth 100000 in
theorem rint_any (Q sb : Nat) (L : List Int) (p : Nat) (w : World) (h : DR w Q sb L p 0) :
    Calls Tryd.prog 58 #[.pointer (some ⟨Q, 0, none⟩)] w fun e w' => DPost w Q sb L p (fun x : Int => .int .i64 x) (.int .i64 0) (pwhole (L.drop p)) e w' := by
  have hn := hide (rnumber_max Q sb L p w h)
  have hbd := h.bd
  have HP : pwhole (L.drop p) = match pnum M64 0 0 (L.drop p) with
    | .ok x n => .ok (unf x) n
    | .bad i e => .bad i e := rfl
  clear h
  rcases hp : pnum M64 0 0 (L.drop p) with ⟨x, n⟩ | ⟨i, er⟩
  · rw [hp] at HP
    have hx : x < 18446744073709551616 := by have := (pnum_dec0 M64 (L.drop p) (mem_drop hbd p) x n hp).2.2; have e : M64 = 18446744073709551615 := rfl; omega
    replace hp := hide hp
    replace HP := hide HP
    have hw := unf_w x hx
    have hq : (x : Int) / 2 = ((x / 2 : Nat) : Int) := by omega
    have HU := hide (show unf x = if x % 2 = 1 then -((x / 2 : Nat) : Int) - 1 else ((x / 2 : Nat) : Int) from rfl)
    by_cases hm : x % 2 = 1
    · have hm' : (x : Int) % 2 = 1 := by omega
      have HU1 := hide (show unf x = -((x / 2 : Nat) : Int) - 1 from by rw [HU.out, if_pos hm])
      have hy : x / 2 ≤ 9223372036854775807 := by omega
      clear hm hbd HU
      generalize x / 2 = y at *
      go_enter Tryd.func58, Tryd.ntmps58
      go_wp2_with fail
      refine hn.out.mono ?_
      intro e w1 hE
      unfold DPost at hE
      rw [hp.out] at hE
      obtain ⟨⟨rfl, hd⟩, hg⟩ := hE
      have HD := hide hd
      have HG := hide hg
      clear hd hg hn
      go_wp2
      go_ret
      exact DPost.okI _ n HP.out (by rw [HU1.out]; rfl) HD.out HG.out
    · have hm' : (x : Int) % 2 = 0 := by omega
      have HU1 := hide (show unf x = ((x / 2 : Nat) : Int) from by rw [HU.out, if_neg hm])
      have hy : x / 2 ≤ 9223372036854775807 := by omega
      clear hm hbd HU
      generalize x / 2 = y at *
      go_enter Tryd.func58, Tryd.ntmps58
      go_wp2_with fail
      refine hn.out.mono ?_
      intro e w1 hE
      unfold DPost at hE
      rw [hp.out] at hE
      obtain ⟨⟨rfl, hd⟩, hg⟩ := hE
      have HD := hide hd
      have HG := hide hg
      clear hd hg hn
      go_wp2
      go_ret
      exact DPost.okI _ n HP.out (by rw [HU1.out]; rfl) HD.out HG.out
  · rw [hp] at HP
    replace hp := hide hp
    replace HP := hide HP
    clear hbd
    go_enter Tryd.func58, Tryd.ntmps58
    go_wp2_with fail
    refine hn.out.mono ?_
    intro e w1 hE
    unfold DPost at hE
    rw [hp.out] at hE
    obtain ⟨⟨rfl, hd, hne⟩, hg⟩ := hE
    have HD := hide hd
    have HG := hide hg
    clear hd hg hn
    go_wp2
    go_ret
    exact DPost.badI i er HP.out rfl HD.out hne HG.out

end Go.Proofs.YtmhcmlegdoapdaaDoor

/- The document's reader: a number of at most 65536, of any bytes. -/
namespace Go.Proofs.YtmhcmlegdoapdaaDoor
open Go.RowKit

set_option maxHeartbeats 2000000 in
set_option maxRecDepth 100000 in
theorem within_row (X S : Nat) (C : Int) (hX : X ≤ 65536) (hS : S ≤ 16384) (h0 : 0 ≤ C) (h1 : C < 256) (w : World) :
    Calls Tryd.prog 73 #[.int .u64 (X : Int), .int .u64 (S : Int), .int .u8 C, .int .u64 65536] w fun e w' => e = .returned (.bool (decide (C * (S : Int) + (X : Int) ≤ 65536))) ∧ w' = w := by
  have hwC : IntKind.u64.wrap C = C := by rw [IntKind.wrap_u64]; omega
  have hb : C * (S : Int) ≤ 255 * 16384 := Int.mul_le_mul (by omega) (by omega) (by omega) (by omega)
  have hb0 : 0 ≤ C * (S : Int) := Int.mul_nonneg h0 (by omega)
  by_cases hc : C < 128
  · obtain ⟨P, hP⟩ : ∃ P, C * (S : Int) = P := ⟨_, rfl⟩
    have hwP : IntKind.u64.wrap P = P := by rw [IntKind.wrap_u64]; omega
    have hwA : IntKind.u64.wrap ((X : Int) + P) = (X : Int) + P := by rw [IntKind.wrap_u64]; omega
    have hS2 : (S : Int) ≤ 65536 := by omega
    rw [hP]
    have HAC := hide (show decide ((X : Int) + P ≤ 65536) = decide (P + (X : Int) ≤ 65536) from by rw [Int.add_comm])
    clear hb hb0
    go_enter Tryd.func73, Tryd.ntmps73
    go_wp2
    go_ret
    exact ⟨by rw [← HAC.out]; rfl, rfl⟩
  · by_cases hs : S ≤ 512
    · obtain ⟨P, hP⟩ : ∃ P, (C - 128) * (S : Int) = P := ⟨_, rfl⟩
      have hPe : P + (S : Int) * 128 = C * (S : Int) := by rw [← hP, Int.sub_mul]; omega
      have hb2 : 0 ≤ P := by rw [← hP]; exact Int.mul_nonneg (by omega) (by omega)
      have hw8 : IntKind.u8.wrap (C - 128) = C - 128 := by rw [IntKind.wrap_u8]; omega
      have hwD : IntKind.u64.wrap (C - 128) = C - 128 := by rw [IntKind.wrap_u64]; omega
      have hwS : IntKind.u64.wrap ((S : Int) * 128) = (S : Int) * 128 := by rw [IntKind.wrap_u64]; omega
      have hwP : IntKind.u64.wrap P = P := by rw [IntKind.wrap_u64]; omega
      have hwA : IntKind.u64.wrap ((X : Int) + P) = (X : Int) + P := by rw [IntKind.wrap_u64]; omega
      have hwB : IntKind.u64.wrap ((X : Int) + P + (S : Int) * 128) = (X : Int) + P + (S : Int) * 128 := by rw [IntKind.wrap_u64]; omega
      have hS2 : (S : Int) * 128 ≤ 65536 := by omega
      have HAC := hide (show decide ((X : Int) + P + (S : Int) * 128 ≤ 65536) = decide (C * (S : Int) + (X : Int) ≤ 65536) from by rw [← hPe]; congr 1; exact propext ⟨fun h => by omega, fun h => by omega⟩)
      clear hb hb0 hPe
      rw [← HAC.out]
      go_enter Tryd.func73, Tryd.ntmps73
      go_wp2
      go_ret
      exact ⟨rfl, rfl⟩
    · have hwS : IntKind.u64.wrap ((S : Int) * 128) = (S : Int) * 128 := by rw [IntKind.wrap_u64]; omega
      have hS2 : ¬ (S : Int) * 128 ≤ 65536 := by omega
      have hf : decide (C * (S : Int) + (X : Int) ≤ 65536) = false := by
        have : 128 * (S : Int) ≤ C * (S : Int) := Int.mul_le_mul_of_nonneg_right (by omega) (by omega)
        refine decide_eq_false ?_
        omega
      rw [hf]
      clear hb hb0 hf
      go_enter Tryd.func73, Tryd.ntmps73
      go_wp2
      go_ret
      exact ⟨rfl, rfl⟩

theorem cond_row {k m : Nat} {C : Int} (hm : m ≤ 65536) (h0 : 0 ≤ C) : (C ≤ (((65536 - m) / 2 ^ (7 * k) : Nat) : Int)) ↔ C * ((2 ^ (7 * k) : Nat) : Int) + (m : Int) ≤ 65536 := by
  obtain ⟨c, rfl⟩ := Int.eq_ofNat_of_zero_le h0
  have h := Nat.le_div_iff_mul_le (x := c) (y := 65536 - m) (Nat.two_pow_pos (7 * k))
  rw [← Int.natCast_mul]
  generalize c * 2 ^ (7 * k) = P at h ⊢
  generalize (65536 - m) / 2 ^ (7 * k) = D at h ⊢
  omega

set_option maxHeartbeats 8000000 in
set_option maxRecDepth 100000 in
theorem rnumber_row (Q sb : Nat) (L : List Int) (p : Nat) (w : World) (h : DR w Q sb L p 0) :
    Calls Tryd.prog 57 #[.pointer (some ⟨Q, 0, none⟩), .int .u64 65536] w fun e w' => DPost w Q sb L p (fun x : Nat => .int .u64 (x : Int)) (.int .u64 0) (pnum 65536 0 0 (L.drop p)) e w' := by
  have HD := hide h
  have hbd := hide h.bd
  have hple := h.le
  clear h
  go_enter Tryd.func57, Tryd.ntmps57
  go_wp2
  go_loopw [5, 6, 7] (fun x s i wr => ∃ (k m : Nat), x = .int .u64 (m : Int) ∧ s = .int .u64 ((2 ^ (7 * k) : Nat) : Int) ∧ i = .int .i64 (k : Int) ∧ k ≤ 2 ∧ m ≤ 65536 ∧ p + k ≤ L.length ∧ pnum 65536 0 0 (L.drop p) = pnum 65536 k m (L.drop (p + k)) ∧ DR wr Q sb L (p + k) 0 ∧ w.grownBy wr (some Q)) (fun _ _ i _ => (10 - intOf i).toNat)
  case atStart => exact ⟨0, 0, rfl, rfl, rfl, by omega, by omega, hple.1, rfl, HD.out, ⟨rfl, rfl, rfl, Nat.le_refl _, fun _ _ _ => rfl⟩⟩
  case round =>
    clear HD
    obtain ⟨k, m, rfl, rfl, rfl, hk2, hm, hpk, hpp, hd, hg⟩ := hrel
    have HPP := hide hpp
    have HG := hide hg
    clear hpp hg
    have hk10 : (k : Int) < 10 := by omega
    by_cases hend : p + k = L.length
    · have HPE := hide (show pnum 65536 0 0 (L.drop p) = .bad k 32 from by rw [HPP.out, hend, List.drop_length]; rfl)
      rw [hend] at hd
      have hn := hide (rnext_end Q sb L wr hd)
      have HEND := hide hend
      clear hd hend
      generalize ((2 ^ (7 * k) : Nat) : Int) = SC
      go_wp2_with fail
      refine hn.out.mono ?_; rintro e w1 ⟨rfl, hd1, hg1⟩
      have HD1 := hide hd1
      have HG1 := hide (grown_trans HG.out hg1)
      clear hd1 hg1 hn
      go_wp2
      go_ret
      exact DPost.badI k 32 HPE.out rfl (by rw [HEND.out]; exact HD1.out) (by omega) HG1.out
    · have hlt : p + k < L.length := by omega
      have hdrop : L.drop (p + k) = L[p + k] :: L.drop (p + k + 1) := List.drop_eq_getElem_cons hlt
      have hcb := hbd.out _ (List.getElem_mem hlt)
      have hn := rnext_ok Q sb L (p + k) hlt wr hd
      have HST := hide (show ∀ W, DR W Q sb L (p + k) 0 → DR (W.setCell ⟨Q, 1, none⟩ (.int .i64 ((p + k + 1 : Nat) : Int))) Q sb L (p + k + 1) 0 from fun W hW => hW.step hlt)
      generalize L[p + k] = C at hdrop hcb hn
      have HDR := hide hdrop
      replace hn := hide hn
      clear hd hdrop hend
      have hwc : IntKind.u64.wrap (C % 128) = C % 128 := by rw [IntKind.wrap_u64]; omega
      have hkI : ((p + k : Nat) : Int) + 1 = ((p + k + 1 : Nat) : Int) := by omega
      have hpb : p + k + 1 ≤ 1000000000 := by omega
      have b9 : ((k : Int) == 9) = false := by simp; omega
      have hcr := cond_row (k := k) hm hcb.1
      obtain ⟨SN, hSN⟩ : ∃ SN : Nat, 2 ^ (7 * k) = SN := ⟨_, rfl⟩
      have hS : SN ≤ 16384 := by rw [← hSN]; exact Nat.le_trans (Nat.pow_le_pow_right (n := 2) (by omega) (show 7 * k ≤ 14 by omega)) (by decide)
      have hk2S : k = 2 → SN = 16384 := fun hk => by rw [← hSN, hk]
      rw [hSN] at hcr ⊢
      have HSN := hide hSN
      clear hSN
      by_cases hle : C * (SN : Int) + (m : Int) ≤ 65536
      · have hwi := fun x => within_row m SN C hm hS hcb.1 hcb.2 x
        rw [decide_eq_true hle] at hwi
        replace hwi := hide hwi
        by_cases hz : C ≠ 0 ∨ k = 0
        · have HOK := hide (show decide (C ≤ (((65536 - m) / 2 ^ (7 * k) : Nat) : Int)) = true ∧ (C ≠ 0 ∨ k = 0) from ⟨decide_eq_true (by rw [HSN.out]; exact hcr.2 hle), hz⟩)
          have hbv : C.toNat % 128 * SN ≤ 65536 - m := by
            have h1 := bound_val (most := 65536) (m := m) (k := k) hcb.1 (of_decide_eq_true HOK.out.1)
            rw [HSN.out] at h1
            exact h1
          have hP : (C % 128) * (SN : Int) = ((C.toNat % 128 * SN : Nat) : Int) := by
            rw [Int.natCast_mul]; congr 1; omega
          have hwP : IntKind.u64.wrap ((C.toNat % 128 * SN : Nat) : Int) = ((C.toNat % 128 * SN : Nat) : Int) := by rw [IntKind.wrap_u64]; omega
          have hxv := hide (show IntKind.u64.wrap ((m : Int) + ((C.toNat % 128 * SN : Nat) : Int)) = ((m + C.toNat % 128 * SN : Nat) : Int) from by rw [IntKind.wrap_u64]; omega)
          have h2C : ¬ C < 128 → k + 1 ≤ 2 := fun hc => by
            rcases Nat.lt_or_ge k 2 with h | h
            · omega
            · have := hk2S (by omega)
              subst this
              omega
          generalize hPN : C.toNat % 128 * SN = PN at hP hwP hxv hbv
          have HPN := hide hPN
          clear hPN hle hcr hk2S
          by_cases h128 : C < 128
          · clear h2C
            by_cases hk0 : k = 0
            · have hkp' : ¬ (0 : Int) < (k : Int) := by omega
              replace hk0 := hide hk0
              replace hz := hide hz
              go_wp2_with fail
              refine hn.out.mono ?_; rintro e w1 ⟨rfl, hd1, hg1⟩
              have HD1 := hide hd1
              have HG1 := hide (grown_trans HG.out hg1)
              obtain ⟨a1, cap1, hI1, _⟩ := hd1
              have c1 : w1.cell? ⟨Q, 1, none⟩ = some (.int .i64 ((p + k : Nat) : Int)) := hI1.cell 1
              have c2 : w1.cell? ⟨Q, 2, none⟩ = some (.int .i64 0) := hI1.cell 2
              have f1 := hI1.free 1
              have f2 := hI1.free 2
              clear hg1 hn hI1
              go_wp2_with fail
              refine (hwi.out _).mono ?_; rintro e w2 ⟨rfl, rfl⟩
              go_wp2
              go_ret
              refine DPost.okI _ (k + 1) (HPP.out.trans (by rw [HDR.out]; exact pnum_end 65536 k m C _ HOK.out h128)) (by rw [HSN.out, HPN.out, Int.natCast_add]; rfl) (by have := HST.out _ HD1.out; rw [← Nat.add_assoc]; exact this) (grown_trans HG1.out (grown_set _ _ _ _))
            · have hC0 : ¬ C = 0 := by rcases hz with h | h; exact h; exact absurd h hk0
              have z0 : (C == 0) = false := by simp [hC0]
              have hkp' : (0 : Int) < (k : Int) := by omega
              replace hz := hide hz
              go_wp2_with fail
              refine hn.out.mono ?_; rintro e w1 ⟨rfl, hd1, hg1⟩
              have HD1 := hide hd1
              have HG1 := hide (grown_trans HG.out hg1)
              obtain ⟨a1, cap1, hI1, _⟩ := hd1
              have c1 : w1.cell? ⟨Q, 1, none⟩ = some (.int .i64 ((p + k : Nat) : Int)) := hI1.cell 1
              have c2 : w1.cell? ⟨Q, 2, none⟩ = some (.int .i64 0) := hI1.cell 2
              have f1 := hI1.free 1
              have f2 := hI1.free 2
              clear hg1 hn hI1
              go_wp2_with fail
              refine (hwi.out _).mono ?_; rintro e w2 ⟨rfl, rfl⟩
              go_wp2
              go_ret
              refine DPost.okI _ (k + 1) (HPP.out.trans (by rw [HDR.out]; exact pnum_end 65536 k m C _ HOK.out h128)) (by rw [HSN.out, HPN.out, Int.natCast_add]; rfl) (by have := HST.out _ HD1.out; rw [← Nat.add_assoc]; exact this) (grown_trans HG1.out (grown_set _ _ _ _))
          · have hk1 := h2C h128
            have z0 : (C == 0) = false := by simp; omega
            clear h2C
            by_cases hk0 : k = 0
            · have hkp' : ¬ (0 : Int) < (k : Int) := by omega
              replace hk0 := hide hk0
              replace hz := hide hz
              go_wp2_with fail
              refine hn.out.mono ?_; rintro e w1 ⟨rfl, hd1, hg1⟩
              have HD1 := hide hd1
              have HG1 := hide (grown_trans HG.out hg1)
              obtain ⟨a1, cap1, hI1, _⟩ := hd1
              have c1 : w1.cell? ⟨Q, 1, none⟩ = some (.int .i64 ((p + k : Nat) : Int)) := hI1.cell 1
              have c2 : w1.cell? ⟨Q, 2, none⟩ = some (.int .i64 0) := hI1.cell 2
              have f1 := hI1.free 1
              have f2 := hI1.free 2
              clear hg1 hn hI1
              go_wp2_with fail
              refine (hwi.out _).mono ?_; rintro e w2 ⟨rfl, rfl⟩
              go_wp2
              go_roundw
              case rel =>
                refine ⟨k + 1, m + C.toNat % 128 * 2 ^ (7 * k), ?_, ?_, by go_num, by omega, by rw [HSN.out, HPN.out]; omega, by omega, HPP.out.trans (by rw [HDR.out]; exact pnum_more 65536 k m C _ HOK.out (by omega)), (by have := HST.out _ HD1.out; rw [← Nat.add_assoc]; exact this), grown_trans HG1.out (grown_set _ _ _ _)⟩
                · rw [HSN.out, HPN.out, Int.natCast_add]
                · rw [pow7, HSN.out, Int.natCast_mul]; rfl
              case measure => simp [intOf]; omega
            · have hkp' : (0 : Int) < (k : Int) := by omega
              replace hz := hide hz
              go_wp2_with fail
              refine hn.out.mono ?_; rintro e w1 ⟨rfl, hd1, hg1⟩
              have HD1 := hide hd1
              have HG1 := hide (grown_trans HG.out hg1)
              obtain ⟨a1, cap1, hI1, _⟩ := hd1
              have c1 : w1.cell? ⟨Q, 1, none⟩ = some (.int .i64 ((p + k : Nat) : Int)) := hI1.cell 1
              have c2 : w1.cell? ⟨Q, 2, none⟩ = some (.int .i64 0) := hI1.cell 2
              have f1 := hI1.free 1
              have f2 := hI1.free 2
              clear hg1 hn hI1
              go_wp2_with fail
              refine (hwi.out _).mono ?_; rintro e w2 ⟨rfl, rfl⟩
              go_wp2
              go_roundw
              case rel =>
                refine ⟨k + 1, m + C.toNat % 128 * 2 ^ (7 * k), ?_, ?_, by go_num, by omega, by rw [HSN.out, HPN.out]; omega, by omega, HPP.out.trans (by rw [HDR.out]; exact pnum_more 65536 k m C _ HOK.out (by omega)), (by have := HST.out _ HD1.out; rw [← Nat.add_assoc]; exact this), grown_trans HG1.out (grown_set _ _ _ _)⟩
                · rw [HSN.out, HPN.out, Int.natCast_add]
                · rw [pow7, HSN.out, Int.natCast_mul]; rfl
              case measure => simp [intOf]; omega
        · have HNB := hide (show ¬ (decide (C ≤ (((65536 - m) / 2 ^ (7 * k) : Nat) : Int)) = true ∧ (C ≠ 0 ∨ k = 0)) from fun hh => hz hh.2)
          have hz2 : C = 0 ∧ 0 < k := by
            refine ⟨?_, ?_⟩
            · by_cases h0 : C = 0
              · exact h0
              · exact absurd (Or.inl h0) hz
            · rcases Nat.eq_zero_or_pos k with h | h
              · exact absurd (Or.inr h) hz
              · exact h
          have hkp : 0 < k := hz2.2
          have hkp' : (0 : Int) < (k : Int) := by omega
          have z0 : (C == 0) = true := by rw [hz2.1]; rfl
          clear hz hz2 hle hcr hk2S hwi
          go_wp2_with fail
          refine hn.out.mono ?_; rintro e w1 ⟨rfl, hd1, hg1⟩
          have HD1 := hide hd1
          have HG1 := hide (grown_trans HG.out hg1)
          obtain ⟨a1, cap1, hI1, _⟩ := hd1
          have c1 : w1.cell? ⟨Q, 1, none⟩ = some (.int .i64 ((p + k : Nat) : Int)) := hI1.cell 1
          have c2 : w1.cell? ⟨Q, 2, none⟩ = some (.int .i64 0) := hI1.cell 2
          have f1 := hI1.free 1
          have f2 := hI1.free 2
          clear hg1 hn hI1
          go_wp2
          go_ret
          exact DPost.badI k 31 (HPP.out.trans (by rw [HDR.out]; exact pnum_bad 65536 k m C _ HNB.out)) rfl (HD1.out.setE 31) (by omega) (grown_trans HG1.out (grown_set _ _ _ _))
      · have hwi := fun x => within_row m SN C hm hS hcb.1 hcb.2 x
        rw [decide_eq_false hle] at hwi
        replace hwi := hide hwi
        have HNB := hide (show ¬ (decide (C ≤ (((65536 - m) / 2 ^ (7 * k) : Nat) : Int)) = true ∧ (C ≠ 0 ∨ k = 0)) from fun hh => hle (hcr.1 (by have h1 := of_decide_eq_true hh.1; rw [HSN.out] at h1; exact h1)))
        clear hle hcr hk2S
        by_cases hk0 : k = 0
        · have hkp' : ¬ (0 : Int) < (k : Int) := by omega
          replace hk0 := hide hk0
          go_wp2_with fail
          refine hn.out.mono ?_; rintro e w1 ⟨rfl, hd1, hg1⟩
          have HD1 := hide hd1
          have HG1 := hide (grown_trans HG.out hg1)
          obtain ⟨a1, cap1, hI1, _⟩ := hd1
          have c1 : w1.cell? ⟨Q, 1, none⟩ = some (.int .i64 ((p + k : Nat) : Int)) := hI1.cell 1
          have c2 : w1.cell? ⟨Q, 2, none⟩ = some (.int .i64 0) := hI1.cell 2
          have f1 := hI1.free 1
          have f2 := hI1.free 2
          clear hg1 hn hI1
          go_wp2_with fail
          refine (hwi.out _).mono ?_; rintro e w2 ⟨rfl, rfl⟩
          go_wp2
          go_ret
          exact DPost.badI k 31 (HPP.out.trans (by rw [HDR.out]; exact pnum_bad 65536 k m C _ HNB.out)) rfl (HD1.out.setE 31) (by omega) (grown_trans HG1.out (grown_set _ _ _ _))
        · have hkp' : (0 : Int) < (k : Int) := by omega
          by_cases hC0 : C = 0
          · have z0 : (C == 0) = true := by rw [hC0]; rfl
            replace hC0 := hide hC0
            go_wp2_with fail
            refine hn.out.mono ?_; rintro e w1 ⟨rfl, hd1, hg1⟩
            have HD1 := hide hd1
            have HG1 := hide (grown_trans HG.out hg1)
            obtain ⟨a1, cap1, hI1, _⟩ := hd1
            have c1 : w1.cell? ⟨Q, 1, none⟩ = some (.int .i64 ((p + k : Nat) : Int)) := hI1.cell 1
            have c2 : w1.cell? ⟨Q, 2, none⟩ = some (.int .i64 0) := hI1.cell 2
            have f1 := hI1.free 1
            have f2 := hI1.free 2
            clear hg1 hn hI1
            go_wp2
            go_ret
            exact DPost.badI k 31 (HPP.out.trans (by rw [HDR.out]; exact pnum_bad 65536 k m C _ HNB.out)) rfl (HD1.out.setE 31) (by omega) (grown_trans HG1.out (grown_set _ _ _ _))
          · have z0 : (C == 0) = false := by simp [hC0]
            go_wp2_with fail
            refine hn.out.mono ?_; rintro e w1 ⟨rfl, hd1, hg1⟩
            have HD1 := hide hd1
            have HG1 := hide (grown_trans HG.out hg1)
            obtain ⟨a1, cap1, hI1, _⟩ := hd1
            have c1 : w1.cell? ⟨Q, 1, none⟩ = some (.int .i64 ((p + k : Nat) : Int)) := hI1.cell 1
            have c2 : w1.cell? ⟨Q, 2, none⟩ = some (.int .i64 0) := hI1.cell 2
            have f1 := hI1.free 1
            have f2 := hI1.free 2
            clear hg1 hn hI1
            go_wp2_with fail
            refine (hwi.out _).mono ?_; rintro e w2 ⟨rfl, rfl⟩
            go_wp2
            go_ret
            exact DPost.badI k 31 (HPP.out.trans (by rw [HDR.out]; exact pnum_bad 65536 k m C _ HNB.out)) rfl (HD1.out.setE 31) (by omega) (grown_trans HG1.out (grown_set _ _ _ _))

end Go.Proofs.YtmhcmlegdoapdaaDoor

/- The document's reader: keys, of any bytes. -/
namespace Go.Proofs.YtmhcmlegdoapdaaDoor
open Go.RowKit

theorem DR.gr {w w' : World} {Q sb : Nat} {L : List Int} {p : Nat} {e : Int} (h : DR w Q sb L p e) (hg : Gr w w') : DR w' Q sb L p e := by
  obtain ⟨a, cap, h1, h2, h3, h4, h5, h6, h7, h8⟩ := h
  refine ⟨a, cap, IsB.gr h1 hg, h2, h3, h4, h5, h6, h7, ?_⟩
  rcases h8 with h8 | ⟨b, o, g1, g2, g3, g4⟩
  · exact Or.inl h8
  · exact Or.inr ⟨b, o, g1, g2, Nat.lt_of_lt_of_le g3 hg.le, fun j hj => hg.cell (by exact g3) (g4 j hj)⟩
theorem DR.set {w : World} {Q sb : Nat} {L : List Int} {p : Nat} {e : Int} (h : DR w Q sb L p e) {a : Addr} (hne : Q ≠ a.block) (hs : sb ≠ a.block) (u : Value) : DR (w.setCell a u) Q sb L p e := by
  obtain ⟨ad, cap, h1, h2, h3, h4, h5, h6, h7, h8⟩ := h
  refine ⟨ad, cap, IsB.setOther h1 hne u, h2, h3, h4, h5, h6, h7, ?_⟩
  rcases h8 with h8 | ⟨b, o, g1, g2, g3, g4⟩
  · exact Or.inl h8
  · refine Or.inr ⟨b, o, g1, g2, by rw [size_setCell]; exact g3, fun j hj => ?_⟩
    rw [World.cell?_of_block (w := w) (Below.heap_setCell w a u b (by have := h7 _ g1; simp only [] at this; omega))]; exact g4 j hj
/-- What is left behind two numbers that were to be read. -/
def DPair (w : World) (Q sb : Nat) (L : List Int) (p : Nat) (r : PR (Int × Int)) (e : Ending) (w' : World) : Prop :=
  (match r with
    | .ok x n => e = .returned ((.agg #[.int .i64 (x.1), .int .u64 (x.2)])) ∧ DR w' Q sb L (p + n) 0
    | .bad i er => (∃ k1 k2 : Int, e = .returned ((.agg #[.int .i64 (k1), .int .u64 (k2)]))) ∧ DR w' Q sb L (p + i) er ∧ er ≠ 0) ∧ w.grownBy w' (some Q)
theorem rkey_results (W : World) (g : Nat) (cs : Array Value) (h : IsB W g cs 30) (hs : cs.size = 2) (T : Array Value) (hp : T.getD 2 undef = .pointer (some ⟨g, 0, none⟩)) : (results Tryd.f61 T).run Tryd.prog W = .ok (.agg cs) W :=
  results_cell_row rfl T W g 30 cs (0, 0) _ hp h Tryd.underlying30 rfl (by rw [hs]; exact key_info)

set_option maxHeartbeats 4000000 in
set_option maxRecDepth 100000 in
/-- The document's key behind its first byte, which is not 2. -/
theorem rkey_one (Q sb : Nat) (L : List Int) (CC : Int) (hC : 0 ≤ CC ∧ CC < 256) (hc2 : CC ≠ 2) (q : Nat) (er : Int) (w : World) (hQ : Q < w.heap.size) (hsb : sb < w.heap.size)
    (hb : ∀ W, Gr w W → Calls Tryd.prog 59 #[.pointer (some ⟨Q, 0, none⟩), .int .u8 1, .int .u8 3] W fun r w' => r = .returned (.int .u8 CC) ∧ DR w' Q sb L q er ∧ W.grownBy w' (some Q)) :
    Calls Tryd.prog 61 #[.pointer (some ⟨Q, 0, none⟩)] w fun e w' => e = .returned ((.agg #[.int .i64 (CC), .int .u64 (0)])) ∧ DR w' Q sb L q er ∧ w.grownBy w' (some Q) := by
  have I0 := IsB.new w #[.int .i64 0, .int .u64 0] 30
  have HG0 := hide (show Gr w (w.alloc (.cells #[.int .i64 0, .int .u64 0] 30)) from (Gr.refl w).alloc _)
  have h1 := hide (hb _ HG0.out)
  have hl0 := I0.lt
  replace I0 := hide I0
  have hwc : IntKind.i64.wrap CC = CC := by rw [IntKind.wrap_i64]; omega
  have hn2 : (CC == 2) = false := by simp [hc2]
  clear hb
  go_enter Tryd.func61, Tryd.ntmps61
  go_wp2_with fail
  generalize w.alloc (.cells #[.int .i64 0, .int .u64 0] 30) = W0 at h1 I0 HG0 hl0 ⊢
  refine h1.out.mono ?_; rintro r w1 ⟨rfl, hd, hg⟩
  have hs1 := hg.size
  have HA := hide ((I0.out.grown hg (by simp; omega)).alloc (.cells #[.int .i64 CC, .int .u64 0] 30))
  have HK := hide (IsB.new w1 #[.int .i64 CC, .int .u64 0] 30)
  have HD := hide (hd.gr ((Gr.refl w1).alloc (.cells #[.int .i64 CC, .int .u64 0] 30)))
  have HG := hide (grown_trans (grown_trans (grown_of_gr HG0.out (some Q)) hg) (grown_of_gr ((Gr.refl w1).alloc (.cells #[.int .i64 CC, .int .u64 0] 30)) _))
  clear hd hg h1 I0
  have e0 : (w1.alloc (.cells #[.int .i64 CC, .int .u64 0] 30)).cell? ⟨w1.heap.size, 0, none⟩ = some (.int .i64 CC) := HK.out.cell 0
  have e1 : (w1.alloc (.cells #[.int .i64 CC, .int .u64 0] 30)).cell? ⟨w1.heap.size, 1, none⟩ = some (.int .u64 0) := HK.out.cell 1
  have a0 : (w1.alloc (.cells #[.int .i64 CC, .int .u64 0] 30)).cell? ⟨w.heap.size, 0, none⟩ = some (.int .i64 0) := HA.out.cell 0
  have a1 : (w1.alloc (.cells #[.int .i64 CC, .int .u64 0] 30)).cell? ⟨w.heap.size, 1, none⟩ = some (.int .u64 0) := HA.out.cell 1
  have f0 := HA.out.free 0
  have f1 := HA.out.free 1
  go_wp2
  refine bodyPost_ret (rkey_results _ w.heap.size _ ((HA.out.set0of2 (.int .i64 CC)).set1of2 (.int .u64 0)) rfl _ rfl) rfl ⟨rfl, ?_, grown_new (grown_new HG.out (a := ⟨w.heap.size, 0, none⟩) (by simp) _) (a := ⟨w.heap.size, 1, none⟩) (by simp) _⟩
  exact (HD.out.set (a := ⟨w.heap.size, 0, none⟩) (by simp only []; omega) (by simp only []; omega) (.int .i64 CC)).set (a := ⟨w.heap.size, 1, none⟩) (by simp only []; omega) (by simp only []; omega) (.int .u64 0)

/-- How far the document's key has come behind its first byte. -/
def KPh (wr : World) (Q sb : Nat) (L rest : List Int) (p j : Nat) (X : Int) : Prop :=
  (j ≤ rest.length ∧ X = hval (rest.take j) ∧ DR wr Q sb L (p + 1 + j) 0) ∨ (rest.length < 8 ∧ DR wr Q sb L (p + 1 + rest.length) 32)
theorem pbyte_all (c : Int) (l : List Int) (h : 0 ≤ c ∧ c < 256) : pbyte 0 255 (c :: l) = .ok c 1 := if_pos ⟨h.1, by omega⟩

set_option maxHeartbeats 8000000 in
set_option maxRecDepth 100000 in
theorem rkey_two (Q sb : Nat) (L rest : List Int) (p : Nat) (hrest : L.drop (p + 1) = rest) (w : World) (hQ : Q < w.heap.size) (hsb : sb < w.heap.size) (hbd : ∀ c ∈ L, 0 ≤ c ∧ c < 256)
    (hb : ∀ W, Gr w W → Calls Tryd.prog 59 #[.pointer (some ⟨Q, 0, none⟩), .int .u8 1, .int .u8 3] W fun r w' => r = .returned (.int .u8 2) ∧ DR w' Q sb L (p + 1) 0 ∧ W.grownBy w' (some Q)) :
    Calls Tryd.prog 61 #[.pointer (some ⟨Q, 0, none⟩)] w fun e w' => ∃ X : Int, e = .returned ((.agg #[.int .i64 (2), .int .u64 (X)])) ∧ KPh w' Q sb L rest p 8 X ∧ w.grownBy w' (some Q) := by
  have mixed : Tryd.prog.follows .mixedOrders = true := by kernel_rfl
  have I0 := IsB.new w #[.int .i64 0, .int .u64 0] 30
  have HG0 := hide (show Gr w (w.alloc (.cells #[.int .i64 0, .int .u64 0] 30)) from (Gr.refl w).alloc _)
  have h1 := hide (hb _ HG0.out)
  have hl0 := I0.lt
  replace I0 := hide I0
  have HBD := hide hbd
  have HRS := hide hrest
  clear hb hbd hrest
  go_enter Tryd.func61, Tryd.ntmps61
  go_wp2_with fail
  generalize w.alloc (.cells #[.int .i64 0, .int .u64 0] 30) = W0 at h1 I0 HG0 hl0 ⊢
  refine h1.out.mono ?_; rintro r w1 ⟨rfl, hd, hg⟩
  have hs1 := hg.size
  have HA := hide ((I0.out.grown hg (by simp; omega)).alloc (.cells #[.int .i64 2, .int .u64 0] 30))
  have HK := hide (IsB.new w1 #[.int .i64 2, .int .u64 0] 30)
  have HD := hide (hd.gr ((Gr.refl w1).alloc (.cells #[.int .i64 2, .int .u64 0] 30)))
  have HG := hide (grown_trans (grown_trans (grown_of_gr HG0.out (some Q)) hg) (grown_of_gr ((Gr.refl w1).alloc (.cells #[.int .i64 2, .int .u64 0] 30)) _))
  clear hd hg h1 I0
  have e0 : (w1.alloc (.cells #[.int .i64 2, .int .u64 0] 30)).cell? ⟨w1.heap.size, 0, none⟩ = some (.int .i64 2) := HK.out.cell 0
  go_wp2
  clear e0
  have hBl := HK.out.lt
  generalize hB : w1.heap.size = B at HK hs1 hBl ⊢
  generalize w1.alloc (.cells #[.int .i64 2, .int .u64 0] 30) = W2 at HA HK HD HG hBl ⊢
  clear hB
  go_loopw [4] (fun i wr => ∃ (j : Nat) (X : Int), i = .int .i64 (j : Int) ∧ j ≤ 8 ∧ 0 ≤ X ∧ X < 18446744073709551616 ∧ Hid (KPh wr Q sb L rest p j X) ∧ Hid (IsB wr B #[.int .i64 2, .int .u64 X] 30) ∧ Hid (IsB wr w.heap.size #[.int .i64 0, .int .u64 0] 30) ∧ Hid (w.grownBy wr (some Q))) (fun i _ => (8 - intOf i).toNat)
  case atStart => exact ⟨0, 0, rfl, by omega, by omega, by omega, hide (Or.inl ⟨by omega, rfl, HD.out⟩), HK, HA, HG⟩
  case round =>
    clear HD HK HA HG
    obtain ⟨j, X, rfl, hj8, hX0, hX1, HP, HK, HA, HG⟩ := hrel
    have e1 : wr.cell? ⟨B, 1, none⟩ = some (.int .u64 X) := HK.out.cell 1
    by_cases hj : j < 8
    · obtain ⟨c, q', er', hcb, hby, hnext⟩ : ∃ (c : Int) (q' : Nat) (er' : Int), (0 ≤ c ∧ c < 256) ∧ (Calls Tryd.prog 59 #[.pointer (some ⟨Q, 0, none⟩), .int .u8 0, .int .u8 255] wr.drew fun r w' => r = .returned (.int .u8 c) ∧ DR w' Q sb L q' er' ∧ wr.drew.grownBy w' (some Q)) ∧
          (∀ W, DR W Q sb L q' er' → KPh W Q sb L rest p (j + 1) (IntKind.u64.wrap (IntKind.u64.wrap (X * 256) + c))) := by
        rcases HP.out with ⟨h1, h2, h3⟩ | ⟨h1, h2⟩
        · by_cases hjr : j < rest.length
          · have hd1 : L.drop (p + 1 + j) = rest[j] :: rest.drop (j + 1) := by rw [← List.drop_drop, HRS.out]; exact List.drop_eq_getElem_cons hjr
            have hcb : 0 ≤ rest[j] ∧ rest[j] < 256 := HBD.out _ (List.mem_of_mem_drop (by rw [HRS.out]; exact List.getElem_mem hjr))
            refine ⟨rest[j], p + 1 + j + 1, 0, hcb, ?_, ?_⟩
            · have hr := rbyte_any Q sb L (p + 1 + j) 0 255 wr.drew h3.drew
              rw [hd1, pbyte_all _ _ hcb] at hr
              refine hr.mono ?_
              rintro r w' ⟨⟨rfl, hd⟩, hg⟩
              exact ⟨rfl, hd, hg⟩
            · intro W hW
              refine Or.inl ⟨by omega, ?_, hW⟩
              have hbx := hval_bd (rest.take j) (fun x hx => HBD.out x (List.mem_of_mem_drop (by rw [HRS.out]; exact List.mem_of_mem_take hx)))
              rw [List.length_take, Nat.min_eq_left (by omega), ← h2] at hbx
              have hp8 := pow_le8 j hj
              rw [List.take_succ_eq_append_getElem hjr, hval_snoc, ← h2]
              have w1 : IntKind.u64.wrap (X * 256) = X * 256 := by rw [IntKind.wrap_u64]; omega
              rw [w1, IntKind.wrap_u64]; omega
          · have hje : j = rest.length := by omega
            have hle := h3.le
            have hpe : p + 1 + j = L.length := by
              have := congrArg List.length HRS.out
              rw [List.length_drop] at this
              omega
            refine ⟨0, p + 1 + j, 32, by omega, ?_, ?_⟩
            · have hr := rbyte_any Q sb L (p + 1 + j) 0 255 wr.drew h3.drew
              have he : pbyte 0 255 (L.drop (p + 1 + j)) = .bad 0 32 := by rw [hpe, List.drop_length]; rfl
              rw [he] at hr
              refine hr.mono ?_
              rintro r w' ⟨⟨rfl, hd, _⟩, hg⟩
              exact ⟨rfl, hd, hg⟩
            · intro W hW
              exact Or.inr ⟨by omega, by rw [← hje]; exact hW⟩
        · refine ⟨0, p + 1 + rest.length, 32, by omega, ?_, ?_⟩
          · refine (rbyte_bad Q sb L _ 32 (by omega) 0 255 wr.drew h2.drew).mono ?_
            rintro r w' ⟨rfl, rfl⟩
            exact ⟨rfl, h2.drew, ⟨rfl, rfl, rfl, Nat.le_refl _, fun _ _ _ => rfl⟩⟩
          · intro W hW
            exact Or.inr ⟨h1, hW⟩
      obtain ⟨M1, hM1⟩ : ∃ M1, IntKind.u64.wrap (X * 256) = M1 := ⟨_, rfl⟩
      rw [hM1] at hnext
      obtain ⟨NX, hNX⟩ : ∃ NX, IntKind.u64.wrap (M1 + c) = NX := ⟨_, rfl⟩
      rw [hNX] at hnext
      have hNb : 0 ≤ NX ∧ NX < 18446744073709551616 := by rw [← hNX, IntKind.wrap_u64]; omega
      have hwc : IntKind.u64.wrap c = c := by rw [IntKind.wrap_u64]; omega
      replace hby := hide hby
      have HNX := hide hnext
      clear hnext HP
      go_wp2
      refine wp_region_held_drew (S := fun _ => True) (by assumption) trivial (fun _ => ?_)
      refine take_yes (v := ?_) 0 (some 16) rfl rfl (by kernel_rfl) (by kernel_rfl) (by kernel_rfl) (fun _ _ _ h => h) (by rfl) ?_ trivial ?_
      rotate_left
      · intro w' hSw
        go_simp
        try with_reducible rfl
      try simp only [Act.put, List.setIfInBounds_toArray, List.set_cons_zero, List.set_cons_succ]
      refine take_yes (v := ?_) 3 (some 19) rfl rfl (by kernel_rfl) (by kernel_rfl) (by kernel_rfl) (fun _ _ _ h => h) (by rfl) ?_ trivial ?_
      rotate_left
      · intro w' hSw
        go_simp
        try with_reducible rfl
      try simp only [Act.put, List.setIfInBounds_toArray, List.set_cons_zero, List.set_cons_succ]
      refine wpAnyH_ready (rs := [1, 4]) (by kernel_rfl) (by simp) ?_
      refine (AllReadyH.cons rfl (fun K hK => ?_) (AllReadyH.cons rfl (fun K hK => ?_) AllReadyH.nil))
      · go_simp
        refine hK.out _ _ trivial (fun _ => ?_)
        clear hK K
        try simp only [Act.put, List.setIfInBounds_toArray, List.set_cons_zero, List.set_cons_succ]
        refine wpAnyH_ready (rs := [2, 4]) (by kernel_rfl) (by simp) ?_
        refine (AllReadyH.cons rfl (fun K hK => ?_) (AllReadyH.cons rfl (fun K hK => ?_) AllReadyH.nil))
        · go_simp
          refine hK.out _ _ trivial (fun _ => ?_)
          clear hK K
          try simp only [Act.put, List.setIfInBounds_toArray, List.set_cons_zero, List.set_cons_succ]
          refine wpAnyH_ready (rs := [4]) (by kernel_rfl) (by simp) ?_
          refine (AllReadyH.cons rfl (fun K hK => ?_) AllReadyH.nil)
          · go_simp
            go_at_call 59
            refine hby.out.mono ?_
            rintro e w5 ⟨rfl, hd5, hg5'⟩
            have hg5 : wr.grownBy w5 (some Q) := grown_trans (grown_of_gr ((Gr.refl wr).drew) (some Q)) hg5'
            clear hg5'
            have HD5 := hide hd5
            have HK5 := hide (HK.out.grown hg5 (by intro h; simp only [Option.some.injEq] at h; omega))
            have HA5 := hide (HA.out.grown hg5 (by intro h; simp only [Option.some.injEq] at h; omega))
            have HG5 := hide (grown_trans HG.out hg5)
            have e1 : w5.cell? ⟨B, 1, none⟩ = some (.int .u64 X) := HK5.out.cell 1
            have e2 := HK5.out.free 1
            clear hd5 hg5
            first | refine hK.out _ _ trivial (fun _ => ?_) | (go_wp2_with fail; refine hK.out _ _ trivial (fun _ => ?_))
            clear hK K
            try simp only [Act.put, List.setIfInBounds_toArray, List.set_cons_zero, List.set_cons_succ]
            refine wpAnyH_ready (rs := [5]) (by kernel_rfl) (by simp) ?_
            refine (AllReadyH.cons rfl (fun K hK => ?_) AllReadyH.nil)
            · go_simp
              refine hK.out _ _ trivial (fun _ => ?_)
              clear hK K
              try simp only [Act.put, List.setIfInBounds_toArray, List.set_cons_zero, List.set_cons_succ]
              refine wpAnyH_ready (rs := [6]) (by kernel_rfl) (by simp) ?_
              refine (AllReadyH.cons rfl (fun K hK => ?_) AllReadyH.nil)
              · go_simp
                refine hK.out _ _ trivial (fun _ => ?_)
                clear hK K
                try simp only [Act.put, List.setIfInBounds_toArray, List.set_cons_zero, List.set_cons_succ]
                refine wpAnyH_ready (rs := [7]) (by kernel_rfl) (by simp) ?_
                refine (AllReadyH.cons rfl (fun K hK => ?_) AllReadyH.nil)
                · go_simp
                  refine hK.out _ _ trivial (fun _ => ?_)
                  clear hK K
                  try simp only [Act.put, List.setIfInBounds_toArray, List.set_cons_zero, List.set_cons_succ]
                  refine wpAnyH_ready (rs := [8]) (by kernel_rfl) (by simp) ?_
                  refine (AllReadyH.cons rfl (fun K hK => ?_) AllReadyH.nil)
                  · go_simp
                    refine hK.out _ _ trivial (fun _ => ?_)
                    clear hK K
                    try simp only [Act.put, List.setIfInBounds_toArray]
                    refine wpAnyH_done (by kernel_rfl) ?_ _
                    have HK6 := hide (HK5.out.set1of2 (.int .u64 NX))
                    have HA6 := hide (HA5.out.setOther (a := ⟨B, 1, none⟩) (by simp only []; omega) (.int .u64 NX))
                    have HD6 := hide (HD5.out.set (a := ⟨B, 1, none⟩) (by simp only []; omega) (by simp only []; omega) (.int .u64 NX))
                    have HG6 := hide (grown_new HG5.out (a := ⟨B, 1, none⟩) (by simp only []; omega) (.int .u64 NX))
                    clear HK5 HA5 HD5 HG5 e1 e2
                    generalize w5.setCell ⟨B, 1, none⟩ (.int .u64 NX) = w6 at HK6 HA6 HD6 HG6 ⊢
                    go_wp2
                    go_roundw
                    case rel => exact ⟨j + 1, NX, by go_num, by omega, hNb.1, hNb.2, hide (HNX.out _ HD6.out), HK6, HA6, HG6⟩
                    case measure => simp [intOf]; omega
        · go_simp
          go_at_call 59
          refine hby.out.mono ?_
          rintro e w5 ⟨rfl, hd5, hg5'⟩
          have hg5 : wr.grownBy w5 (some Q) := grown_trans (grown_of_gr ((Gr.refl wr).drew) (some Q)) hg5'
          clear hg5'
          have HD5 := hide hd5
          have HK5 := hide (HK.out.grown hg5 (by intro h; simp only [Option.some.injEq] at h; omega))
          have HA5 := hide (HA.out.grown hg5 (by intro h; simp only [Option.some.injEq] at h; omega))
          have HG5 := hide (grown_trans HG.out hg5)
          have e1 : w5.cell? ⟨B, 1, none⟩ = some (.int .u64 X) := HK5.out.cell 1
          have e2 := HK5.out.free 1
          clear hd5 hg5
          first | refine hK.out _ _ trivial (fun _ => ?_) | (go_wp2_with fail; refine hK.out _ _ trivial (fun _ => ?_))
          clear hK K
          try simp only [Act.put, List.setIfInBounds_toArray, List.set_cons_zero, List.set_cons_succ]
          refine wpAnyH_ready (rs := [2, 5]) (by kernel_rfl) (by simp) ?_
          refine (AllReadyH.cons rfl (fun K hK => ?_) (AllReadyH.cons rfl (fun K hK => ?_) AllReadyH.nil))
          · go_simp
            refine hK.out _ _ trivial (fun _ => ?_)
            clear hK K
            try simp only [Act.put, List.setIfInBounds_toArray, List.set_cons_zero, List.set_cons_succ]
            refine wpAnyH_ready (rs := [5]) (by kernel_rfl) (by simp) ?_
            refine (AllReadyH.cons rfl (fun K hK => ?_) AllReadyH.nil)
            · go_simp
              refine hK.out _ _ trivial (fun _ => ?_)
              clear hK K
              try simp only [Act.put, List.setIfInBounds_toArray, List.set_cons_zero, List.set_cons_succ]
              refine wpAnyH_ready (rs := [6]) (by kernel_rfl) (by simp) ?_
              refine (AllReadyH.cons rfl (fun K hK => ?_) AllReadyH.nil)
              · go_simp
                refine hK.out _ _ trivial (fun _ => ?_)
                clear hK K
                try simp only [Act.put, List.setIfInBounds_toArray, List.set_cons_zero, List.set_cons_succ]
                refine wpAnyH_ready (rs := [7]) (by kernel_rfl) (by simp) ?_
                refine (AllReadyH.cons rfl (fun K hK => ?_) AllReadyH.nil)
                · go_simp
                  refine hK.out _ _ trivial (fun _ => ?_)
                  clear hK K
                  try simp only [Act.put, List.setIfInBounds_toArray, List.set_cons_zero, List.set_cons_succ]
                  refine wpAnyH_ready (rs := [8]) (by kernel_rfl) (by simp) ?_
                  refine (AllReadyH.cons rfl (fun K hK => ?_) AllReadyH.nil)
                  · go_simp
                    refine hK.out _ _ trivial (fun _ => ?_)
                    clear hK K
                    try simp only [Act.put, List.setIfInBounds_toArray]
                    refine wpAnyH_done (by kernel_rfl) ?_ _
                    have HK6 := hide (HK5.out.set1of2 (.int .u64 NX))
                    have HA6 := hide (HA5.out.setOther (a := ⟨B, 1, none⟩) (by simp only []; omega) (.int .u64 NX))
                    have HD6 := hide (HD5.out.set (a := ⟨B, 1, none⟩) (by simp only []; omega) (by simp only []; omega) (.int .u64 NX))
                    have HG6 := hide (grown_new HG5.out (a := ⟨B, 1, none⟩) (by simp only []; omega) (.int .u64 NX))
                    clear HK5 HA5 HD5 HG5 e1 e2
                    generalize w5.setCell ⟨B, 1, none⟩ (.int .u64 NX) = w6 at HK6 HA6 HD6 HG6 ⊢
                    go_wp2
                    go_roundw
                    case rel => exact ⟨j + 1, NX, by go_num, by omega, hNb.1, hNb.2, hide (HNX.out _ HD6.out), HK6, HA6, HG6⟩
                    case measure => simp [intOf]; omega
          · go_simp
            refine hK.out _ _ trivial (fun _ => ?_)
            clear hK K
            try simp only [Act.put, List.setIfInBounds_toArray, List.set_cons_zero, List.set_cons_succ]
            refine wpAnyH_ready (rs := [2]) (by kernel_rfl) (by simp) ?_
            refine (AllReadyH.cons rfl (fun K hK => ?_) AllReadyH.nil)
            · go_simp
              refine hK.out _ _ trivial (fun _ => ?_)
              clear hK K
              try simp only [Act.put, List.setIfInBounds_toArray, List.set_cons_zero, List.set_cons_succ]
              refine wpAnyH_ready (rs := [6]) (by kernel_rfl) (by simp) ?_
              refine (AllReadyH.cons rfl (fun K hK => ?_) AllReadyH.nil)
              · go_simp
                refine hK.out _ _ trivial (fun _ => ?_)
                clear hK K
                try simp only [Act.put, List.setIfInBounds_toArray, List.set_cons_zero, List.set_cons_succ]
                refine wpAnyH_ready (rs := [7]) (by kernel_rfl) (by simp) ?_
                refine (AllReadyH.cons rfl (fun K hK => ?_) AllReadyH.nil)
                · go_simp
                  refine hK.out _ _ trivial (fun _ => ?_)
                  clear hK K
                  try simp only [Act.put, List.setIfInBounds_toArray, List.set_cons_zero, List.set_cons_succ]
                  refine wpAnyH_ready (rs := [8]) (by kernel_rfl) (by simp) ?_
                  refine (AllReadyH.cons rfl (fun K hK => ?_) AllReadyH.nil)
                  · go_simp
                    refine hK.out _ _ trivial (fun _ => ?_)
                    clear hK K
                    try simp only [Act.put, List.setIfInBounds_toArray]
                    refine wpAnyH_done (by kernel_rfl) ?_ _
                    have HK6 := hide (HK5.out.set1of2 (.int .u64 NX))
                    have HA6 := hide (HA5.out.setOther (a := ⟨B, 1, none⟩) (by simp only []; omega) (.int .u64 NX))
                    have HD6 := hide (HD5.out.set (a := ⟨B, 1, none⟩) (by simp only []; omega) (by simp only []; omega) (.int .u64 NX))
                    have HG6 := hide (grown_new HG5.out (a := ⟨B, 1, none⟩) (by simp only []; omega) (.int .u64 NX))
                    clear HK5 HA5 HD5 HG5 e1 e2
                    generalize w5.setCell ⟨B, 1, none⟩ (.int .u64 NX) = w6 at HK6 HA6 HD6 HG6 ⊢
                    go_wp2
                    go_roundw
                    case rel => exact ⟨j + 1, NX, by go_num, by omega, hNb.1, hNb.2, hide (HNX.out _ HD6.out), HK6, HA6, HG6⟩
                    case measure => simp [intOf]; omega
      · go_simp
        go_at_call 59
        refine hby.out.mono ?_
        rintro e w5 ⟨rfl, hd5, hg5'⟩
        have hg5 : wr.grownBy w5 (some Q) := grown_trans (grown_of_gr ((Gr.refl wr).drew) (some Q)) hg5'
        clear hg5'
        have HD5 := hide hd5
        have HK5 := hide (HK.out.grown hg5 (by intro h; simp only [Option.some.injEq] at h; omega))
        have HA5 := hide (HA.out.grown hg5 (by intro h; simp only [Option.some.injEq] at h; omega))
        have HG5 := hide (grown_trans HG.out hg5)
        have e1 : w5.cell? ⟨B, 1, none⟩ = some (.int .u64 X) := HK5.out.cell 1
        have e2 := HK5.out.free 1
        clear hd5 hg5
        first | refine hK.out _ _ trivial (fun _ => ?_) | (go_wp2_with fail; refine hK.out _ _ trivial (fun _ => ?_))
        clear hK K
        try simp only [Act.put, List.setIfInBounds_toArray, List.set_cons_zero, List.set_cons_succ]
        refine wpAnyH_ready (rs := [1, 5]) (by kernel_rfl) (by simp) ?_
        refine (AllReadyH.cons rfl (fun K hK => ?_) (AllReadyH.cons rfl (fun K hK => ?_) AllReadyH.nil))
        · go_simp
          refine hK.out _ _ trivial (fun _ => ?_)
          clear hK K
          try simp only [Act.put, List.setIfInBounds_toArray, List.set_cons_zero, List.set_cons_succ]
          refine wpAnyH_ready (rs := [2, 5]) (by kernel_rfl) (by simp) ?_
          refine (AllReadyH.cons rfl (fun K hK => ?_) (AllReadyH.cons rfl (fun K hK => ?_) AllReadyH.nil))
          · go_simp
            refine hK.out _ _ trivial (fun _ => ?_)
            clear hK K
            try simp only [Act.put, List.setIfInBounds_toArray, List.set_cons_zero, List.set_cons_succ]
            refine wpAnyH_ready (rs := [5]) (by kernel_rfl) (by simp) ?_
            refine (AllReadyH.cons rfl (fun K hK => ?_) AllReadyH.nil)
            · go_simp
              refine hK.out _ _ trivial (fun _ => ?_)
              clear hK K
              try simp only [Act.put, List.setIfInBounds_toArray, List.set_cons_zero, List.set_cons_succ]
              refine wpAnyH_ready (rs := [6]) (by kernel_rfl) (by simp) ?_
              refine (AllReadyH.cons rfl (fun K hK => ?_) AllReadyH.nil)
              · go_simp
                refine hK.out _ _ trivial (fun _ => ?_)
                clear hK K
                try simp only [Act.put, List.setIfInBounds_toArray, List.set_cons_zero, List.set_cons_succ]
                refine wpAnyH_ready (rs := [7]) (by kernel_rfl) (by simp) ?_
                refine (AllReadyH.cons rfl (fun K hK => ?_) AllReadyH.nil)
                · go_simp
                  refine hK.out _ _ trivial (fun _ => ?_)
                  clear hK K
                  try simp only [Act.put, List.setIfInBounds_toArray, List.set_cons_zero, List.set_cons_succ]
                  refine wpAnyH_ready (rs := [8]) (by kernel_rfl) (by simp) ?_
                  refine (AllReadyH.cons rfl (fun K hK => ?_) AllReadyH.nil)
                  · go_simp
                    refine hK.out _ _ trivial (fun _ => ?_)
                    clear hK K
                    try simp only [Act.put, List.setIfInBounds_toArray]
                    refine wpAnyH_done (by kernel_rfl) ?_ _
                    have HK6 := hide (HK5.out.set1of2 (.int .u64 NX))
                    have HA6 := hide (HA5.out.setOther (a := ⟨B, 1, none⟩) (by simp only []; omega) (.int .u64 NX))
                    have HD6 := hide (HD5.out.set (a := ⟨B, 1, none⟩) (by simp only []; omega) (by simp only []; omega) (.int .u64 NX))
                    have HG6 := hide (grown_new HG5.out (a := ⟨B, 1, none⟩) (by simp only []; omega) (.int .u64 NX))
                    clear HK5 HA5 HD5 HG5 e1 e2
                    generalize w5.setCell ⟨B, 1, none⟩ (.int .u64 NX) = w6 at HK6 HA6 HD6 HG6 ⊢
                    go_wp2
                    go_roundw
                    case rel => exact ⟨j + 1, NX, by go_num, by omega, hNb.1, hNb.2, hide (HNX.out _ HD6.out), HK6, HA6, HG6⟩
                    case measure => simp [intOf]; omega
          · go_simp
            refine hK.out _ _ trivial (fun _ => ?_)
            clear hK K
            try simp only [Act.put, List.setIfInBounds_toArray, List.set_cons_zero, List.set_cons_succ]
            refine wpAnyH_ready (rs := [2]) (by kernel_rfl) (by simp) ?_
            refine (AllReadyH.cons rfl (fun K hK => ?_) AllReadyH.nil)
            · go_simp
              refine hK.out _ _ trivial (fun _ => ?_)
              clear hK K
              try simp only [Act.put, List.setIfInBounds_toArray, List.set_cons_zero, List.set_cons_succ]
              refine wpAnyH_ready (rs := [6]) (by kernel_rfl) (by simp) ?_
              refine (AllReadyH.cons rfl (fun K hK => ?_) AllReadyH.nil)
              · go_simp
                refine hK.out _ _ trivial (fun _ => ?_)
                clear hK K
                try simp only [Act.put, List.setIfInBounds_toArray, List.set_cons_zero, List.set_cons_succ]
                refine wpAnyH_ready (rs := [7]) (by kernel_rfl) (by simp) ?_
                refine (AllReadyH.cons rfl (fun K hK => ?_) AllReadyH.nil)
                · go_simp
                  refine hK.out _ _ trivial (fun _ => ?_)
                  clear hK K
                  try simp only [Act.put, List.setIfInBounds_toArray, List.set_cons_zero, List.set_cons_succ]
                  refine wpAnyH_ready (rs := [8]) (by kernel_rfl) (by simp) ?_
                  refine (AllReadyH.cons rfl (fun K hK => ?_) AllReadyH.nil)
                  · go_simp
                    refine hK.out _ _ trivial (fun _ => ?_)
                    clear hK K
                    try simp only [Act.put, List.setIfInBounds_toArray]
                    refine wpAnyH_done (by kernel_rfl) ?_ _
                    have HK6 := hide (HK5.out.set1of2 (.int .u64 NX))
                    have HA6 := hide (HA5.out.setOther (a := ⟨B, 1, none⟩) (by simp only []; omega) (.int .u64 NX))
                    have HD6 := hide (HD5.out.set (a := ⟨B, 1, none⟩) (by simp only []; omega) (by simp only []; omega) (.int .u64 NX))
                    have HG6 := hide (grown_new HG5.out (a := ⟨B, 1, none⟩) (by simp only []; omega) (.int .u64 NX))
                    clear HK5 HA5 HD5 HG5 e1 e2
                    generalize w5.setCell ⟨B, 1, none⟩ (.int .u64 NX) = w6 at HK6 HA6 HD6 HG6 ⊢
                    go_wp2
                    go_roundw
                    case rel => exact ⟨j + 1, NX, by go_num, by omega, hNb.1, hNb.2, hide (HNX.out _ HD6.out), HK6, HA6, HG6⟩
                    case measure => simp [intOf]; omega
        · go_simp
          refine hK.out _ _ trivial (fun _ => ?_)
          clear hK K
          try simp only [Act.put, List.setIfInBounds_toArray, List.set_cons_zero, List.set_cons_succ]
          refine wpAnyH_ready (rs := [1]) (by kernel_rfl) (by simp) ?_
          refine (AllReadyH.cons rfl (fun K hK => ?_) AllReadyH.nil)
          · go_simp
            refine hK.out _ _ trivial (fun _ => ?_)
            clear hK K
            try simp only [Act.put, List.setIfInBounds_toArray, List.set_cons_zero, List.set_cons_succ]
            refine wpAnyH_ready (rs := [2]) (by kernel_rfl) (by simp) ?_
            refine (AllReadyH.cons rfl (fun K hK => ?_) AllReadyH.nil)
            · go_simp
              refine hK.out _ _ trivial (fun _ => ?_)
              clear hK K
              try simp only [Act.put, List.setIfInBounds_toArray, List.set_cons_zero, List.set_cons_succ]
              refine wpAnyH_ready (rs := [6]) (by kernel_rfl) (by simp) ?_
              refine (AllReadyH.cons rfl (fun K hK => ?_) AllReadyH.nil)
              · go_simp
                refine hK.out _ _ trivial (fun _ => ?_)
                clear hK K
                try simp only [Act.put, List.setIfInBounds_toArray, List.set_cons_zero, List.set_cons_succ]
                refine wpAnyH_ready (rs := [7]) (by kernel_rfl) (by simp) ?_
                refine (AllReadyH.cons rfl (fun K hK => ?_) AllReadyH.nil)
                · go_simp
                  refine hK.out _ _ trivial (fun _ => ?_)
                  clear hK K
                  try simp only [Act.put, List.setIfInBounds_toArray, List.set_cons_zero, List.set_cons_succ]
                  refine wpAnyH_ready (rs := [8]) (by kernel_rfl) (by simp) ?_
                  refine (AllReadyH.cons rfl (fun K hK => ?_) AllReadyH.nil)
                  · go_simp
                    refine hK.out _ _ trivial (fun _ => ?_)
                    clear hK K
                    try simp only [Act.put, List.setIfInBounds_toArray]
                    refine wpAnyH_done (by kernel_rfl) ?_ _
                    have HK6 := hide (HK5.out.set1of2 (.int .u64 NX))
                    have HA6 := hide (HA5.out.setOther (a := ⟨B, 1, none⟩) (by simp only []; omega) (.int .u64 NX))
                    have HD6 := hide (HD5.out.set (a := ⟨B, 1, none⟩) (by simp only []; omega) (by simp only []; omega) (.int .u64 NX))
                    have HG6 := hide (grown_new HG5.out (a := ⟨B, 1, none⟩) (by simp only []; omega) (.int .u64 NX))
                    clear HK5 HA5 HD5 HG5 e1 e2
                    generalize w5.setCell ⟨B, 1, none⟩ (.int .u64 NX) = w6 at HK6 HA6 HD6 HG6 ⊢
                    go_wp2
                    go_roundw
                    case rel => exact ⟨j + 1, NX, by go_num, by omega, hNb.1, hNb.2, hide (HNX.out _ HD6.out), HK6, HA6, HG6⟩
                    case measure => simp [intOf]; omega
    · obtain rfl : j = 8 := by omega
      have a0 : wr.cell? ⟨w.heap.size, 0, none⟩ = some (.int .i64 0) := HA.out.cell 0
      have a1 : wr.cell? ⟨w.heap.size, 1, none⟩ = some (.int .u64 0) := HA.out.cell 1
      have e0 : wr.cell? ⟨B, 0, none⟩ = some (.int .i64 2) := HK.out.cell 0
      have f0 := HA.out.free 0
      have f1 := HA.out.free 1
      go_wp2
      refine bodyPost_ret (rkey_results _ w.heap.size _ ((HA.out.set0of2 (.int .i64 2)).set1of2 (.int .u64 X)) rfl _ rfl) rfl ⟨X, rfl, ?_, grown_new (grown_new HG.out (a := ⟨w.heap.size, 0, none⟩) (by simp) _) (a := ⟨w.heap.size, 1, none⟩) (by simp) _⟩
      rcases HP.out with ⟨h1, h2, h3⟩ | ⟨h1, h2⟩
      · exact Or.inl ⟨h1, h2, (h3.set (a := ⟨w.heap.size, 0, none⟩) (by simp only []; omega) (by simp only []; omega) _).set (a := ⟨w.heap.size, 1, none⟩) (by simp only []; omega) (by simp only []; omega) _⟩
      · exact Or.inr ⟨h1, (h2.set (a := ⟨w.heap.size, 0, none⟩) (by simp only []; omega) (by simp only []; omega) _).set (a := ⟨w.heap.size, 1, none⟩) (by simp only []; omega) (by simp only []; omega) _⟩

/-- The document's key, of any bytes. -/
theorem rkey_any (Q sb : Nat) (L : List Int) (p : Nat) (w : World) (h : DR w Q sb L p 0) (hsb : sb < w.heap.size) :
    Calls Tryd.prog 61 #[.pointer (some ⟨Q, 0, none⟩)] w fun e w' => DPair w Q sb L p (pkey (L.drop p)) e w' := by
  have hbd := h.bd
  have hQ := h.lt
  have hby := fun (W : World) (hg : Gr w W) => rbyte_any Q sb L p 1 3 W (h.gr hg)
  rcases hd : L.drop p with _ | ⟨c, rest⟩
  · rw [hd] at hby
    have hb0 : pbyte 1 3 ([] : List Int) = .bad 0 32 := rfl
    rw [hb0] at hby
    refine (rkey_one Q sb L 0 (by omega) (by omega) p 32 w hQ hsb (fun W hg => (hby W hg).mono ?_)).mono ?_
    · rintro r w' ⟨⟨rfl, hd', _⟩, hg'⟩
      exact ⟨rfl, hd', hg'⟩
    · rintro e w' ⟨rfl, hd', hg'⟩
      exact ⟨⟨⟨0, 0, rfl⟩, hd', by omega⟩, hg'⟩
  · have hcb := hbd c (List.mem_of_mem_drop (by rw [hd]; exact List.mem_cons_self))
    have hr1 : L.drop (p + 1) = rest := by
      have : L.drop (p + 1) = (L.drop p).drop 1 := by rw [List.drop_drop]
      rw [this, hd]; rfl
    rw [hd] at hby
    by_cases hc : 1 ≤ c ∧ c ≤ 3
    · have hb0 : pbyte 1 3 (c :: rest) = .ok c 1 := if_pos hc
      rw [hb0] at hby
      have hpk : pkey (c :: rest) = match phigh (if c = 2 then 8 else 0) rest with
        | .ok x n => .ok (c, x) (n + 1)
        | .bad i e => .bad (i + 1) e := if_pos hc
      by_cases h2 : c = 2
      · subst h2
        rw [if_pos rfl] at hpk
        refine (rkey_two Q sb L rest p hr1 w hQ hsb hbd (fun W hg => (hby W hg).mono ?_)).mono ?_
        · rintro r w' ⟨⟨rfl, hd'⟩, hg'⟩
          exact ⟨rfl, hd', hg'⟩
        · rintro e w' ⟨X, rfl, hk, hg'⟩
          rcases hk with ⟨k1, k2, k3⟩ | ⟨k1, k2⟩
          · have e8 : phigh 8 rest = .ok X 8 := by rw [k2]; exact if_pos k1
            rw [hpk, e8]
            exact ⟨⟨rfl, by rw [show p + (8 + 1) = p + 1 + 8 from by omega]; exact k3⟩, hg'⟩
          · have e8 : phigh 8 rest = .bad rest.length 32 := if_neg (by omega)
            rw [hpk, e8]
            exact ⟨⟨⟨2, X, rfl⟩, by rw [show p + (rest.length + 1) = p + 1 + rest.length from by omega]; exact k2, by omega⟩, hg'⟩
      · rw [if_neg h2] at hpk
        have e0 : phigh 0 rest = .ok 0 0 := if_pos (by omega)
        rw [hpk, e0]
        refine (rkey_one Q sb L c hcb h2 (p + 1) 0 w hQ hsb (fun W hg => (hby W hg).mono ?_)).mono ?_
        · rintro r w' ⟨⟨rfl, hd'⟩, hg'⟩
          exact ⟨rfl, hd', hg'⟩
        · rintro e w' ⟨rfl, hd', hg'⟩
          exact ⟨⟨rfl, hd'⟩, hg'⟩
    · have hb0 : pbyte 1 3 (c :: rest) = .bad 0 31 := if_neg hc
      rw [hb0] at hby
      have hpk : pkey (c :: rest) = .bad 0 31 := if_neg hc
      rw [hpk]
      refine (rkey_one Q sb L 0 (by omega) (by omega) p 31 w hQ hsb (fun W hg => (hby W hg).mono ?_)).mono ?_
      · rintro r w' ⟨⟨rfl, hd', _⟩, hg'⟩
        exact ⟨rfl, hd', hg'⟩
      · rintro e w' ⟨rfl, hd', hg'⟩
        exact ⟨⟨⟨0, 0, rfl⟩, hd', by omega⟩, hg'⟩
/-- The document's key behind a fault. -/
theorem rkey_bad (Q sb : Nat) (L : List Int) (p : Nat) (er : Int) (he : er ≠ 0) (w : World) (h : DR w Q sb L p er) (hsb : sb < w.heap.size) :
    Calls Tryd.prog 61 #[.pointer (some ⟨Q, 0, none⟩)] w fun e w' => e = .returned ((.agg #[.int .i64 (0), .int .u64 (0)])) ∧ DR w' Q sb L p er ∧ w.grownBy w' (some Q) := by
  refine rkey_one Q sb L 0 (by omega) (by omega) p er w h.lt hsb (fun W hg => (rbyte_bad Q sb L p er he 1 3 W (h.gr hg)).mono ?_)
  rintro r w' ⟨rfl, rfl⟩
  exact ⟨rfl, h.gr hg, ⟨rfl, rfl, rfl, Nat.le_refl _, fun _ _ _ => rfl⟩⟩

end Go.Proofs.YtmhcmlegdoapdaaDoor
