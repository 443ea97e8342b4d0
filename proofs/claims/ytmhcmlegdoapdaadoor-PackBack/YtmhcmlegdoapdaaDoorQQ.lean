/- Package pack: Size and Pack, where a field may not be. -/
import Derived.Test.YtmhcmlegdoapdaaDoorQI
import Derived.Test.YtmhcmlegdoapdaaDoorQG
namespace Go.Proofs.YtmhcmlegdoapdaaDoor
open Go.RowKit

set_option maxHeartbeats 2000000 in
set_option maxRecDepth 100000 in
theorem own_key_bad (r x : Int) (w : World) (hR : Ranks w) (hc : ckE r x = 20) : Calls Tryd.prog 30 #[.agg #[.int .i64 6, .int .u64 0, .int .i64 0, .bool false, .slice none 0 0, .int .i64 0, .int .u64 0, .int .i64 r, .int .u64 x, .int .i64 0, .int .i64 0, .int .u64 0, .int .i64 0, .int .u64 0]] w fun e w' => e = .returned (.bool false) ∧ Gr w w' := by
  have HR := hide hR
  have HC := hide hc
  clear hR hc
  have HI := hide (IsB.new w #[.int .i64 6, .int .u64 0, .int .i64 0, .bool false, .slice none 0 0, .int .i64 0, .int .u64 0, .int .i64 r, .int .u64 x, .int .i64 0, .int .i64 0, .int .u64 0, .int .i64 0, .int .u64 0] 34)
  have HG := hide (show Gr w (w.alloc (.cells #[.int .i64 6, .int .u64 0, .int .i64 0, .bool false, .slice none 0 0, .int .i64 0, .int .u64 0, .int .i64 r, .int .u64 x, .int .i64 0, .int .i64 0, .int .u64 0, .int .i64 0, .int .u64 0] 34)) from (Gr.refl w).alloc _)
  go_enter Tryd.func30, Tryd.ntmps30
  go_wp2_with fail
  generalize w.alloc (.cells #[.int .i64 6, .int .u64 0, .int .i64 0, .bool false, .slice none 0 0, .int .i64 0, .int .u64 0, .int .i64 r, .int .u64 x, .int .i64 0, .int .i64 0, .int .u64 0, .int .i64 0, .int .u64 0] 34) = W0 at HI HG ⊢
  have a0 : W0.cell? ⟨w.heap.size, 0, none⟩ = some (.int .i64 6) := HI.out.cell 0
  have a1 : W0.cell? ⟨w.heap.size, 1, none⟩ = some (.int .u64 0) := HI.out.cell 1
  have a2 : W0.cell? ⟨w.heap.size, 2, none⟩ = some (.int .i64 0) := HI.out.cell 2
  have a3 : W0.cell? ⟨w.heap.size, 3, none⟩ = some (.bool false) := HI.out.cell 3
  have a4 : W0.cell? ⟨w.heap.size, 4, none⟩ = some (.slice none 0 0) := HI.out.cell 4
  have a5 : W0.cell? ⟨w.heap.size, 5, none⟩ = some (.int .i64 0) := HI.out.cell 5
  have a6 : W0.cell? ⟨w.heap.size, 6, none⟩ = some (.int .u64 0) := HI.out.cell 6
  have a7 : W0.cell? ⟨w.heap.size, 7, none⟩ = some (.int .i64 r) := HI.out.cell 7
  have a8 : W0.cell? ⟨w.heap.size, 8, none⟩ = some (.int .u64 x) := HI.out.cell 8
  have a9 : W0.cell? ⟨w.heap.size, 9, none⟩ = some (.int .i64 0) := HI.out.cell 9
  have a10 : W0.cell? ⟨w.heap.size, 10, none⟩ = some (.int .i64 0) := HI.out.cell 10
  have a11 : W0.cell? ⟨w.heap.size, 11, none⟩ = some (.int .u64 0) := HI.out.cell 11
  have a12 : W0.cell? ⟨w.heap.size, 12, none⟩ = some (.int .i64 0) := HI.out.cell 12
  have a13 : W0.cell? ⟨w.heap.size, 13, none⟩ = some (.int .u64 0) := HI.out.cell 13
  have ck := kCheck_any r x W0 (HR.out.gr HG.out)
  rw [HC.out] at ck
  go_wp2_with fail
  refine ck.mono ?_; rintro e w1 ⟨rfl, hg⟩
  go_wp2
  go_ret
  exact ⟨rfl, HG.out.trans hg⟩

set_option maxHeartbeats 4000000 in
set_option maxRecDepth 100000 in
theorem check_key_bad (r x : Int) (w : World) (hR : Ranks w) (hc : ckE r x = 20) : Calls Tryd.prog 14 #[.agg #[.int .i64 6, .int .u64 0, .int .i64 0, .bool false, .slice none 0 0, .int .i64 0, .int .u64 0, .int .i64 r, .int .u64 x, .int .i64 0, .int .i64 0, .int .u64 0, .int .i64 0, .int .u64 0]] w fun e w' => e = .returned (.int .i64 30) ∧ Gr w w' := by
  have ho := hide (fun w hR => own_key_bad r x w hR hc)
  have HR := hide hR
  clear hR hc
  have HI := hide (IsB.new w #[.int .i64 6, .int .u64 0, .int .i64 0, .bool false, .slice none 0 0, .int .i64 0, .int .u64 0, .int .i64 r, .int .u64 x, .int .i64 0, .int .i64 0, .int .u64 0, .int .i64 0, .int .u64 0] 34)
  have HG := hide (show Gr w (w.alloc (.cells #[.int .i64 6, .int .u64 0, .int .i64 0, .bool false, .slice none 0 0, .int .i64 0, .int .u64 0, .int .i64 r, .int .u64 x, .int .i64 0, .int .i64 0, .int .u64 0, .int .i64 0, .int .u64 0] 34)) from (Gr.refl w).alloc _)
  go_enter Tryd.func14, Tryd.ntmps14
  go_wp2_with fail
  generalize w.alloc (.cells #[.int .i64 6, .int .u64 0, .int .i64 0, .bool false, .slice none 0 0, .int .i64 0, .int .u64 0, .int .i64 r, .int .u64 x, .int .i64 0, .int .i64 0, .int .u64 0, .int .i64 0, .int .u64 0] 34) = W0 at HI HG ⊢
  have a0 : W0.cell? ⟨w.heap.size, 0, none⟩ = some (.int .i64 6) := HI.out.cell 0
  have a1 : W0.cell? ⟨w.heap.size, 1, none⟩ = some (.int .u64 0) := HI.out.cell 1
  have a2 : W0.cell? ⟨w.heap.size, 2, none⟩ = some (.int .i64 0) := HI.out.cell 2
  have a3 : W0.cell? ⟨w.heap.size, 3, none⟩ = some (.bool false) := HI.out.cell 3
  have a4 : W0.cell? ⟨w.heap.size, 4, none⟩ = some (.slice none 0 0) := HI.out.cell 4
  have a5 : W0.cell? ⟨w.heap.size, 5, none⟩ = some (.int .i64 0) := HI.out.cell 5
  have a6 : W0.cell? ⟨w.heap.size, 6, none⟩ = some (.int .u64 0) := HI.out.cell 6
  have a7 : W0.cell? ⟨w.heap.size, 7, none⟩ = some (.int .i64 r) := HI.out.cell 7
  have a8 : W0.cell? ⟨w.heap.size, 8, none⟩ = some (.int .u64 x) := HI.out.cell 8
  have a9 : W0.cell? ⟨w.heap.size, 9, none⟩ = some (.int .i64 0) := HI.out.cell 9
  have a10 : W0.cell? ⟨w.heap.size, 10, none⟩ = some (.int .i64 0) := HI.out.cell 10
  have a11 : W0.cell? ⟨w.heap.size, 11, none⟩ = some (.int .u64 0) := HI.out.cell 11
  have a12 : W0.cell? ⟨w.heap.size, 12, none⟩ = some (.int .i64 0) := HI.out.cell 12
  have a13 : W0.cell? ⟨w.heap.size, 13, none⟩ = some (.int .u64 0) := HI.out.cell 13
  refine (isKind_yes 6 (by omega) (by omega) _).mono ?_; rintro e w1 ⟨rfl, rfl⟩
  go_wp2_with fail
  clear a0 a1 a2 a3 a4 a5 a6 a7 a8 a9 a10 a11 a12 a13
  refine (ho.out _ (HR.out.gr HG.out)).mono ?_; rintro e w2 ⟨rfl, hg⟩
  replace HG := hide (HG.out.trans hg)
  clear hg
  go_wp2
  go_ret
  exact ⟨rfl, HG.out⟩

set_option maxHeartbeats 8000000 in
set_option maxRecDepth 100000 in
theorem size_bad (b o cap len : Nat) (fs : List (Fd × List Int)) (f : Fd) (w : World) (hF : FieldsAt w b o fs) (hfl : len ≤ 1000) (hlen : fs.length < len) (htot : (allOf fs).length ≤ 1099511627776)
    (hC : ∀ j, j < 14 → w.cell? ⟨b, o + fs.length * 14 + j, none⟩ = f.cs[j]?) (hbad : ∀ w', RowKit.Below w.heap.size w w' → Calls Tryd.prog 14 #[.agg f.cs] w' fun e w'' => e = .returned (.int .i64 30) ∧ RowKit.Below w'.heap.size w' w'') :
    Calls Tryd.prog 12 #[.slice (some ⟨b, o, none⟩) len cap] w fun e w' => e = .returned (.tuple #[.int .i64 0, .int .i64 30]) ∧ RowKit.Below w.heap.size w w' := by
  have HF := hide hF
  obtain ⟨y0, y1, y2, y3, y4, y5, y6, y7, y8, y9, y10, y11, y12, y13, y14, y15⟩ := f
  replace hC := hide hC
  replace hbad := hide hbad
  clear hF
  go_enter Tryd.func12, Tryd.ntmps12
  go_wp2
  go_loopw [4, 10] (fun v i wr => ∃ k : Nat, k ≤ fs.length ∧ i = .int .i64 (k : Int) ∧ v = .int .i64 ((allOf (fs.take k)).length : Int) ∧ RowKit.Below w.heap.size w wr) (fun _ i _ => fs.length - (intOf i).toNat)
  case atStart => exact ⟨0, by omega, rfl, rfl, Below.refl _ _⟩
  case round =>
    obtain ⟨k, hk, rfl, rfl, hb⟩ := hrel
    have HB := hide hb
    have htk := allOf_le fs k
    clear hb
    by_cases hlt : k < fs.length
    · obtain ⟨hP, hD⟩ := HF.out k fs[k] (List.getElem?_eq_getElem hlt)
      have HS := hide (allOf_snoc fs k fs[k] (List.getElem?_eq_getElem hlt))
      have htk1 := allOf_le fs (k + 1)
      rw [HS.out, List.length_append] at htk1
      generalize fs[k] = p at *
      obtain ⟨fq, l⟩ := p
      obtain ⟨f0, f1, f2, f3, f4, f5, f6, f7, f8, f9, f10, f11, f12, f13, f14, f15⟩ := fq
      simp only [] at hP hD htk1
      have HP := hide hP
      clear hP
      have d0 : wr.cell? ⟨b, o + k * 14, none⟩ = some (.int .i64 f0) := (HB.out.cell (lt_of_cell (hD 0 (by omega)))).trans (hD 0 (by omega))
      have d1 : wr.cell? ⟨b, o + k * 14 + 1, none⟩ = some (.int .u64 f1) := (HB.out.cell (lt_of_cell (hD 1 (by omega)))).trans (hD 1 (by omega))
      have d2 : wr.cell? ⟨b, o + k * 14 + 2, none⟩ = some (.int .i64 f2) := (HB.out.cell (lt_of_cell (hD 2 (by omega)))).trans (hD 2 (by omega))
      have d3 : wr.cell? ⟨b, o + k * 14 + 3, none⟩ = some (.bool f3) := (HB.out.cell (lt_of_cell (hD 3 (by omega)))).trans (hD 3 (by omega))
      have d4 : wr.cell? ⟨b, o + k * 14 + 4, none⟩ = some (.slice f4 f5 f6) := (HB.out.cell (lt_of_cell (hD 4 (by omega)))).trans (hD 4 (by omega))
      have d5 : wr.cell? ⟨b, o + k * 14 + 5, none⟩ = some (.int .i64 f7) := (HB.out.cell (lt_of_cell (hD 5 (by omega)))).trans (hD 5 (by omega))
      have d6 : wr.cell? ⟨b, o + k * 14 + 6, none⟩ = some (.int .u64 f8) := (HB.out.cell (lt_of_cell (hD 6 (by omega)))).trans (hD 6 (by omega))
      have d7 : wr.cell? ⟨b, o + k * 14 + 7, none⟩ = some (.int .i64 f9) := (HB.out.cell (lt_of_cell (hD 7 (by omega)))).trans (hD 7 (by omega))
      have d8 : wr.cell? ⟨b, o + k * 14 + 8, none⟩ = some (.int .u64 f10) := (HB.out.cell (lt_of_cell (hD 8 (by omega)))).trans (hD 8 (by omega))
      have d9 : wr.cell? ⟨b, o + k * 14 + 9, none⟩ = some (.int .i64 f11) := (HB.out.cell (lt_of_cell (hD 9 (by omega)))).trans (hD 9 (by omega))
      have d10 : wr.cell? ⟨b, o + k * 14 + 10, none⟩ = some (.int .i64 f12) := (HB.out.cell (lt_of_cell (hD 10 (by omega)))).trans (hD 10 (by omega))
      have d11 : wr.cell? ⟨b, o + k * 14 + 11, none⟩ = some (.int .u64 f13) := (HB.out.cell (lt_of_cell (hD 11 (by omega)))).trans (hD 11 (by omega))
      have d12 : wr.cell? ⟨b, o + k * 14 + 12, none⟩ = some (.int .i64 f14) := (HB.out.cell (lt_of_cell (hD 12 (by omega)))).trans (hD 12 (by omega))
      have d13 : wr.cell? ⟨b, o + k * 14 + 13, none⟩ = some (.int .u64 f15) := (HB.out.cell (lt_of_cell (hD 13 (by omega)))).trans (hD 13 (by omega))
      clear hD
      have HI := hide (IsB.new wr #[.int .i64 f0, .int .u64 f1, .int .i64 f2, .bool f3, .slice f4 f5 f6, .int .i64 f7, .int .u64 f8, .int .i64 f9, .int .u64 f10, .int .i64 f11, .int .i64 f12, .int .u64 f13, .int .i64 f14, .int .u64 f15] 34)
      replace HB := hide (HB.out.alloc HB.out.size (.cells #[.int .i64 f0, .int .u64 f1, .int .i64 f2, .bool f3, .slice f4 f5 f6, .int .i64 f7, .int .u64 f8, .int .i64 f9, .int .u64 f10, .int .i64 f11, .int .i64 f12, .int .u64 f13, .int .i64 f14, .int .u64 f15] 34))
      go_wp2_with fail
      clear d0 d1 d2 d3 d4 d5 d6 d7 d8 d9 d10 d11 d12 d13
      generalize hU : wr.heap.size = U at HI ⊢
      generalize wr.alloc (.cells #[.int .i64 f0, .int .u64 f1, .int .i64 f2, .bool f3, .slice f4 f5 f6, .int .i64 f7, .int .u64 f8, .int .i64 f9, .int .u64 f10, .int .i64 f11, .int .i64 f12, .int .u64 f13, .int .i64 f14, .int .u64 f15] 34) = W1 at HI HB ⊢
      clear hU
      refine (HP.out.check W1 HB.out).mono ?_; rintro e w2 ⟨rfl, hb⟩
      replace HI := hide (HI.out.setB hb)
      replace HB := hide (HB.out.trans (hb.mono HB.out.size))
      clear hb
      have e0 : w2.cell? ⟨U, 0, none⟩ = some (.int .i64 f0) := HI.out.cell 0
      have e1 : w2.cell? ⟨U, 1, none⟩ = some (.int .u64 f1) := HI.out.cell 1
      have e2 : w2.cell? ⟨U, 2, none⟩ = some (.int .i64 f2) := HI.out.cell 2
      have e3 : w2.cell? ⟨U, 3, none⟩ = some (.bool f3) := HI.out.cell 3
      have e4 : w2.cell? ⟨U, 4, none⟩ = some (.slice f4 f5 f6) := HI.out.cell 4
      have e5 : w2.cell? ⟨U, 5, none⟩ = some (.int .i64 f7) := HI.out.cell 5
      have e6 : w2.cell? ⟨U, 6, none⟩ = some (.int .u64 f8) := HI.out.cell 6
      have e7 : w2.cell? ⟨U, 7, none⟩ = some (.int .i64 f9) := HI.out.cell 7
      have e8 : w2.cell? ⟨U, 8, none⟩ = some (.int .u64 f10) := HI.out.cell 8
      have e9 : w2.cell? ⟨U, 9, none⟩ = some (.int .i64 f11) := HI.out.cell 9
      have e10 : w2.cell? ⟨U, 10, none⟩ = some (.int .i64 f12) := HI.out.cell 10
      have e11 : w2.cell? ⟨U, 11, none⟩ = some (.int .u64 f13) := HI.out.cell 11
      have e12 : w2.cell? ⟨U, 12, none⟩ = some (.int .i64 f14) := HI.out.cell 12
      have e13 : w2.cell? ⟨U, 13, none⟩ = some (.int .u64 f15) := HI.out.cell 13
      go_wp2_with fail
      clear e0 e1 e2 e3 e4 e5 e6 e7 e8 e9 e10 e11 e12 e13
      refine (HP.out.size w2 HB.out).mono ?_; rintro e w3 ⟨rfl, hb⟩
      replace HB := hide (HB.out.trans (hb.mono HB.out.size))
      clear hb
      go_wp2
      go_roundw
      case rel => exact ⟨k + 1, by omega, by go_num, by rw [HS.out, List.length_append]; go_num, HB.out⟩
      case measure => simp [intOf]; omega
    · obtain rfl : k = fs.length := by omega
      have d0 : wr.cell? ⟨b, o + fs.length * 14, none⟩ = some (.int .i64 y0) := (HB.out.cell (lt_of_cell (hC.out 0 (by omega)))).trans (hC.out 0 (by omega))
      have d1 : wr.cell? ⟨b, o + fs.length * 14 + 1, none⟩ = some (.int .u64 y1) := (HB.out.cell (lt_of_cell (hC.out 1 (by omega)))).trans (hC.out 1 (by omega))
      have d2 : wr.cell? ⟨b, o + fs.length * 14 + 2, none⟩ = some (.int .i64 y2) := (HB.out.cell (lt_of_cell (hC.out 2 (by omega)))).trans (hC.out 2 (by omega))
      have d3 : wr.cell? ⟨b, o + fs.length * 14 + 3, none⟩ = some (.bool y3) := (HB.out.cell (lt_of_cell (hC.out 3 (by omega)))).trans (hC.out 3 (by omega))
      have d4 : wr.cell? ⟨b, o + fs.length * 14 + 4, none⟩ = some (.slice y4 y5 y6) := (HB.out.cell (lt_of_cell (hC.out 4 (by omega)))).trans (hC.out 4 (by omega))
      have d5 : wr.cell? ⟨b, o + fs.length * 14 + 5, none⟩ = some (.int .i64 y7) := (HB.out.cell (lt_of_cell (hC.out 5 (by omega)))).trans (hC.out 5 (by omega))
      have d6 : wr.cell? ⟨b, o + fs.length * 14 + 6, none⟩ = some (.int .u64 y8) := (HB.out.cell (lt_of_cell (hC.out 6 (by omega)))).trans (hC.out 6 (by omega))
      have d7 : wr.cell? ⟨b, o + fs.length * 14 + 7, none⟩ = some (.int .i64 y9) := (HB.out.cell (lt_of_cell (hC.out 7 (by omega)))).trans (hC.out 7 (by omega))
      have d8 : wr.cell? ⟨b, o + fs.length * 14 + 8, none⟩ = some (.int .u64 y10) := (HB.out.cell (lt_of_cell (hC.out 8 (by omega)))).trans (hC.out 8 (by omega))
      have d9 : wr.cell? ⟨b, o + fs.length * 14 + 9, none⟩ = some (.int .i64 y11) := (HB.out.cell (lt_of_cell (hC.out 9 (by omega)))).trans (hC.out 9 (by omega))
      have d10 : wr.cell? ⟨b, o + fs.length * 14 + 10, none⟩ = some (.int .i64 y12) := (HB.out.cell (lt_of_cell (hC.out 10 (by omega)))).trans (hC.out 10 (by omega))
      have d11 : wr.cell? ⟨b, o + fs.length * 14 + 11, none⟩ = some (.int .u64 y13) := (HB.out.cell (lt_of_cell (hC.out 11 (by omega)))).trans (hC.out 11 (by omega))
      have d12 : wr.cell? ⟨b, o + fs.length * 14 + 12, none⟩ = some (.int .i64 y14) := (HB.out.cell (lt_of_cell (hC.out 12 (by omega)))).trans (hC.out 12 (by omega))
      have d13 : wr.cell? ⟨b, o + fs.length * 14 + 13, none⟩ = some (.int .u64 y15) := (HB.out.cell (lt_of_cell (hC.out 13 (by omega)))).trans (hC.out 13 (by omega))
      replace HB := hide (HB.out.alloc HB.out.size (.cells #[.int .i64 y0, .int .u64 y1, .int .i64 y2, .bool y3, .slice y4 y5 y6, .int .i64 y7, .int .u64 y8, .int .i64 y9, .int .u64 y10, .int .i64 y11, .int .i64 y12, .int .u64 y13, .int .i64 y14, .int .u64 y15] 34))
      go_wp2_with fail
      clear d0 d1 d2 d3 d4 d5 d6 d7 d8 d9 d10 d11 d12 d13
      generalize wr.alloc (.cells #[.int .i64 y0, .int .u64 y1, .int .i64 y2, .bool y3, .slice y4 y5 y6, .int .i64 y7, .int .u64 y8, .int .i64 y9, .int .u64 y10, .int .i64 y11, .int .i64 y12, .int .u64 y13, .int .i64 y14, .int .u64 y15] 34) = W1 at HB ⊢
      refine (hbad.out W1 HB.out).mono ?_; rintro e w2 ⟨rfl, hb⟩
      replace HB := hide (HB.out.trans (hb.mono HB.out.size))
      clear hb
      go_wp2
      go_ret2
      exact ⟨rfl, HB.out⟩

set_option maxHeartbeats 1000000 in
theorem pack_bad (b o cap len : Nat) (fs : List (Fd × List Int)) (f : Fd) (w : World) (hF : FieldsAt w b o fs) (hfl : len ≤ 1000) (hlen : fs.length < len) (htot : (allOf fs).length ≤ 1099511627776)
    (hC : ∀ j, j < 14 → w.cell? ⟨b, o + fs.length * 14 + j, none⟩ = f.cs[j]?) (hbad : ∀ w', RowKit.Below w.heap.size w w' → Calls Tryd.prog 14 #[.agg f.cs] w' fun e w'' => e = .returned (.int .i64 30) ∧ RowKit.Below w'.heap.size w' w'') :
    Calls Tryd.prog 10 #[.slice (some ⟨b, o, none⟩) len cap] w fun e w' => e = .returned (.tuple #[.slice none 0 0, .int .i64 30]) ∧ RowKit.Below w.heap.size w w' := by
  have hs := hide (size_bad b o cap len fs f w hF hfl hlen htot hC hbad)
  clear hF hC hbad
  go_enter Tryd.func10, Tryd.ntmps10
  go_wp2_with fail
  refine hs.out.mono ?_; rintro e w1 ⟨rfl, hb⟩
  go_wp2
  go_ret2
  exact ⟨rfl, hb⟩

end Go.Proofs.YtmhcmlegdoapdaaDoor
