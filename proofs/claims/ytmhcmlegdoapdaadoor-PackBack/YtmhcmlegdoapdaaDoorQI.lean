/- Package pack: Size and Pack, of any fields that may be. -/
import Derived.Test.YtmhcmlegdoapdaaDoorQB
namespace Go.Proofs.YtmhcmlegdoapdaaDoor
open Go.RowKit

/-- A field's parts, as they lie in memory. -/
structure Fd where
  f0 : Int
  f1 : Int
  f2 : Int
  f3 : Bool
  f4 : Option Addr
  f5 : Nat
  f6 : Nat
  f7 : Int
  f8 : Int
  f9 : Int
  f10 : Int
  f11 : Int
  f12 : Int
  f13 : Int
  f14 : Int
  f15 : Int
/-- Its cells. -/
def Fd.cs : Fd → Array Value
  | ⟨f0, f1, f2, f3, f4, f5, f6, f7, f8, f9, f10, f11, f12, f13, f14, f15⟩ => #[.int .i64 f0, .int .u64 f1, .int .i64 f2, .bool f3, .slice f4 f5 f6, .int .i64 f7, .int .u64 f8, .int .i64 f9, .int .u64 f10, .int .i64 f11, .int .i64 f12, .int .u64 f13, .int .i64 f14, .int .u64 f15]

/-- What is asked of a field: Check says yes, it has so many bytes, and these are put. -/
structure PackOf (W0 : World) (f : Fd) (l : List Int) : Prop where
  check : ∀ w, RowKit.Below W0.heap.size W0 w → Calls Tryd.prog 14 #[.agg f.cs] w fun e w' => e = .returned (.int .i64 0) ∧ RowKit.Below w.heap.size w w'
  size : ∀ w, RowKit.Below W0.heap.size W0 w → Calls Tryd.prog 28 #[.agg f.cs] w fun e w' => e = .returned (.int .i64 (l.length : Int)) ∧ RowKit.Below w.heap.size w w'
  put : ∀ w base g n cap xs, RowKit.Below W0.heap.size W0 w → W0.heap.size ≤ g → w.ownsRow base 5 1 (.slice (some ⟨g, 0, none⟩) n cap) n (u8s xs) → n + l.length ≤ cap →
    Calls Tryd.prog 26 #[.slice (some ⟨g, 0, none⟩) n cap, .agg f.cs] w fun e w' => e = .returned (.slice (some ⟨g, 0, none⟩) (n + l.length) cap) ∧ Put w w' base g n cap xs l

/-- The fields lie there, one behind the other. -/
def FieldsAt (w : World) (b o : Nat) (fs : List (Fd × List Int)) : Prop :=
  ∀ (i : Nat) (p : Fd × List Int), fs[i]? = some p → PackOf w p.1 p.2 ∧ ∀ j, j < 14 → w.cell? ⟨b, o + i * 14 + j, none⟩ = p.1.cs[j]?

/-- All their bytes. -/
def allOf (fs : List (Fd × List Int)) : List Int := fs.flatMap (·.2)
theorem allOf_snoc (fs : List (Fd × List Int)) (k : Nat) (p : Fd × List Int) (h : fs[k]? = some p) : allOf (fs.take (k + 1)) = allOf (fs.take k) ++ p.2 := by
  unfold allOf
  obtain ⟨hk, e⟩ := List.getElem?_eq_some_iff.1 h
  rw [List.take_succ_eq_append_getElem hk, e, List.flatMap_append]
  simp
theorem allOf_le (fs : List (Fd × List Int)) (k : Nat) : (allOf (fs.take k)).length ≤ (allOf fs).length := by
  have h : allOf fs = allOf (fs.take k) ++ allOf (fs.drop k) := by
    unfold allOf; rw [← List.flatMap_append, List.take_append_drop]
  rw [h, List.length_append]; omega

set_option maxHeartbeats 8000000 in
set_option maxRecDepth 100000 in
theorem size_any (b o cap : Nat) (fs : List (Fd × List Int)) (w : World) (hF : FieldsAt w b o fs) (hfl : fs.length ≤ 1000) (htot : (allOf fs).length ≤ 1099511627776) :
    Calls Tryd.prog 12 #[.slice (some ⟨b, o, none⟩) fs.length cap] w fun e w' => e = .returned (.tuple #[.int .i64 ((allOf fs).length : Int), .int .i64 0]) ∧ RowKit.Below w.heap.size w w' := by
  have HF := hide hF
  clear hF
  go_enter Tryd.func12, Tryd.ntmps12
  go_wp2
  go_loopw [4, 10] (fun v i wr => ∃ k : Nat, k ≤ fs.length ∧ i = .int .i64 (k : Int) ∧ v = .int .i64 ((allOf (fs.take k)).length : Int) ∧ RowKit.Below w.heap.size w wr) (fun _ i _ => fs.length - (intOf i).toNat)
  case atStart => exact ⟨0, by omega, rfl, rfl, Below.refl _ _⟩
  case round =>
    obtain ⟨k, hk, rfl, rfl, hb⟩ := hrel
    have HB := hide hb
    have htk := allOf_le fs k
    clear hb
    by_cases hlt : k < fs.length
    · obtain ⟨hP, hC⟩ := HF.out k fs[k] (List.getElem?_eq_getElem hlt)
      have HS := hide (allOf_snoc fs k fs[k] (List.getElem?_eq_getElem hlt))
      have htk1 := allOf_le fs (k + 1)
      rw [HS.out, List.length_append] at htk1
      generalize fs[k] = p at *
      obtain ⟨f, l⟩ := p
      obtain ⟨f0, f1, f2, f3, f4, f5, f6, f7, f8, f9, f10, f11, f12, f13, f14, f15⟩ := f
      simp only [] at hP hC htk1
      have HP := hide hP
      clear hP
      have d0 : wr.cell? ⟨b, o + k * 14, none⟩ = some (.int .i64 f0) := (HB.out.cell (lt_of_cell (hC 0 (by omega)))).trans (hC 0 (by omega))
      have d1 : wr.cell? ⟨b, o + k * 14 + 1, none⟩ = some (.int .u64 f1) := (HB.out.cell (lt_of_cell (hC 1 (by omega)))).trans (hC 1 (by omega))
      have d2 : wr.cell? ⟨b, o + k * 14 + 2, none⟩ = some (.int .i64 f2) := (HB.out.cell (lt_of_cell (hC 2 (by omega)))).trans (hC 2 (by omega))
      have d3 : wr.cell? ⟨b, o + k * 14 + 3, none⟩ = some (.bool f3) := (HB.out.cell (lt_of_cell (hC 3 (by omega)))).trans (hC 3 (by omega))
      have d4 : wr.cell? ⟨b, o + k * 14 + 4, none⟩ = some (.slice f4 f5 f6) := (HB.out.cell (lt_of_cell (hC 4 (by omega)))).trans (hC 4 (by omega))
      have d5 : wr.cell? ⟨b, o + k * 14 + 5, none⟩ = some (.int .i64 f7) := (HB.out.cell (lt_of_cell (hC 5 (by omega)))).trans (hC 5 (by omega))
      have d6 : wr.cell? ⟨b, o + k * 14 + 6, none⟩ = some (.int .u64 f8) := (HB.out.cell (lt_of_cell (hC 6 (by omega)))).trans (hC 6 (by omega))
      have d7 : wr.cell? ⟨b, o + k * 14 + 7, none⟩ = some (.int .i64 f9) := (HB.out.cell (lt_of_cell (hC 7 (by omega)))).trans (hC 7 (by omega))
      have d8 : wr.cell? ⟨b, o + k * 14 + 8, none⟩ = some (.int .u64 f10) := (HB.out.cell (lt_of_cell (hC 8 (by omega)))).trans (hC 8 (by omega))
      have d9 : wr.cell? ⟨b, o + k * 14 + 9, none⟩ = some (.int .i64 f11) := (HB.out.cell (lt_of_cell (hC 9 (by omega)))).trans (hC 9 (by omega))
      have d10 : wr.cell? ⟨b, o + k * 14 + 10, none⟩ = some (.int .i64 f12) := (HB.out.cell (lt_of_cell (hC 10 (by omega)))).trans (hC 10 (by omega))
      have d11 : wr.cell? ⟨b, o + k * 14 + 11, none⟩ = some (.int .u64 f13) := (HB.out.cell (lt_of_cell (hC 11 (by omega)))).trans (hC 11 (by omega))
      have d12 : wr.cell? ⟨b, o + k * 14 + 12, none⟩ = some (.int .i64 f14) := (HB.out.cell (lt_of_cell (hC 12 (by omega)))).trans (hC 12 (by omega))
      have d13 : wr.cell? ⟨b, o + k * 14 + 13, none⟩ = some (.int .u64 f15) := (HB.out.cell (lt_of_cell (hC 13 (by omega)))).trans (hC 13 (by omega))
      clear hC
      have HI := hide (IsB.new wr #[.int .i64 f0, .int .u64 f1, .int .i64 f2, .bool f3, .slice f4 f5 f6, .int .i64 f7, .int .u64 f8, .int .i64 f9, .int .u64 f10, .int .i64 f11, .int .i64 f12, .int .u64 f13, .int .i64 f14, .int .u64 f15] 34)
      replace HB := hide (HB.out.alloc HB.out.size (.cells #[.int .i64 f0, .int .u64 f1, .int .i64 f2, .bool f3, .slice f4 f5 f6, .int .i64 f7, .int .u64 f8, .int .i64 f9, .int .u64 f10, .int .i64 f11, .int .i64 f12, .int .u64 f13, .int .i64 f14, .int .u64 f15] 34))
      go_wp2_with fail
      clear d0 d1 d2 d3 d4 d5 d6 d7 d8 d9 d10 d11 d12 d13
      generalize hU : wr.heap.size = U at HI ⊢
      generalize wr.alloc (.cells #[.int .i64 f0, .int .u64 f1, .int .i64 f2, .bool f3, .slice f4 f5 f6, .int .i64 f7, .int .u64 f8, .int .i64 f9, .int .u64 f10, .int .i64 f11, .int .i64 f12, .int .u64 f13, .int .i64 f14, .int .u64 f15] 34) = W1 at HI HB ⊢
      clear hU
      refine (HP.out.check W1 HB.out).mono ?_; rintro e w2 ⟨rfl, hb⟩
      replace HI := hide (HI.out.setB hb)
      replace HB := hide (HB.out.trans (hb.mono HB.out.size))
      clear hb
      have e0 : w2.cell? ⟨U, 0, none⟩ = some (.int .i64 f0) := HI.out.cell 0
      have e1 : w2.cell? ⟨U, 1, none⟩ = some (.int .u64 f1) := HI.out.cell 1
      have e2 : w2.cell? ⟨U, 2, none⟩ = some (.int .i64 f2) := HI.out.cell 2
      have e3 : w2.cell? ⟨U, 3, none⟩ = some (.bool f3) := HI.out.cell 3
      have e4 : w2.cell? ⟨U, 4, none⟩ = some (.slice f4 f5 f6) := HI.out.cell 4
      have e5 : w2.cell? ⟨U, 5, none⟩ = some (.int .i64 f7) := HI.out.cell 5
      have e6 : w2.cell? ⟨U, 6, none⟩ = some (.int .u64 f8) := HI.out.cell 6
      have e7 : w2.cell? ⟨U, 7, none⟩ = some (.int .i64 f9) := HI.out.cell 7
      have e8 : w2.cell? ⟨U, 8, none⟩ = some (.int .u64 f10) := HI.out.cell 8
      have e9 : w2.cell? ⟨U, 9, none⟩ = some (.int .i64 f11) := HI.out.cell 9
      have e10 : w2.cell? ⟨U, 10, none⟩ = some (.int .i64 f12) := HI.out.cell 10
      have e11 : w2.cell? ⟨U, 11, none⟩ = some (.int .u64 f13) := HI.out.cell 11
      have e12 : w2.cell? ⟨U, 12, none⟩ = some (.int .i64 f14) := HI.out.cell 12
      have e13 : w2.cell? ⟨U, 13, none⟩ = some (.int .u64 f15) := HI.out.cell 13
      go_wp2_with fail
      clear e0 e1 e2 e3 e4 e5 e6 e7 e8 e9 e10 e11 e12 e13
      refine (HP.out.size w2 HB.out).mono ?_; rintro e w3 ⟨rfl, hb⟩
      replace HB := hide (HB.out.trans (hb.mono HB.out.size))
      clear hb
      go_wp2
      go_roundw
      case rel => exact ⟨k + 1, by omega, by go_num, by rw [HS.out, List.length_append]; go_num, HB.out⟩
      case measure => simp [intOf]; omega
    · obtain rfl : k = fs.length := by omega
      have HT := hide (show fs.take fs.length = fs from List.take_length)
      go_wp2
      go_ret2
      rw [HT.out]
      exact ⟨rfl, HB.out⟩

set_option maxHeartbeats 8000000 in
set_option maxRecDepth 100000 in
theorem pack_any (b o cap : Nat) (fs : List (Fd × List Int)) (w : World) (hF : FieldsAt w b o fs) (hfl : fs.length ≤ 1000) (htot : (allOf fs).length ≤ 1099511627776) :
    Calls Tryd.prog 10 #[.slice (some ⟨b, o, none⟩) fs.length cap] w fun e w' => ∃ g, w.heap.size ≤ g ∧ e = .returned (.tuple #[.slice (some ⟨g, 0, none⟩) (allOf fs).length (allOf fs).length, .int .i64 0]) ∧ w'.ownsRow w.heap.size 5 1 (.slice (some ⟨g, 0, none⟩) (allOf fs).length (allOf fs).length) (allOf fs).length (u8s (allOf fs)) ∧ RowKit.Below w.heap.size w w' := by
  obtain ⟨i0, hi, hz0, hz1, hz2⟩ := info_parts Tryd.infoU8
  have hsz := size_any b o cap fs w hF hfl htot
  have HF := hide hF
  clear hF
  go_enter Tryd.func10, Tryd.ntmps10
  go_wp2_with fail
  refine hsz.mono ?_; rintro e w1 ⟨rfl, hb⟩
  have HB := hide hb
  clear hb hsz
  go_wp2_with (at_make; refine wpList_make_own _ rfl _ _ 25 rfl w.heap.size 5 i0 (.int .u8 0) 1 Tryd.underlying25 hi hz0 hz1 .i64 .i64 _ (allOf fs).length rfl rfl (by omega) (by rw [hz2]; omega) (by unfold maxLen; omega) HB.out.size ?_; intro w2 hown2 hgrow2)
  have hgl := HB.out.size
  have HB2 := hide (HB.out.grown hgrow2 HB.out.size (by simp))
  clear hgrow2 HB
  generalize hG : w1.heap.size = G at hown2 hgl ⊢
  clear hG
  go_loopw [6, 21] (fun v i wr => ∃ k : Nat, k ≤ fs.length ∧ i = .int .i64 (k : Int) ∧ v = .slice (some ⟨G, 0, none⟩) (allOf (fs.take k)).length (allOf fs).length ∧ wr.ownsRow w.heap.size 5 1 (.slice (some ⟨G, 0, none⟩) (allOf (fs.take k)).length (allOf fs).length) (allOf (fs.take k)).length (u8s (allOf (fs.take k))) ∧ RowKit.Below w.heap.size w wr) (fun _ i _ => fs.length - (intOf i).toNat)
  case atStart => exact ⟨0, by omega, rfl, rfl, hown2, HB2.out⟩
  case round =>
    obtain ⟨k, hk, rfl, rfl, hown, hb⟩ := hrel
    have HB := hide hb
    have htk := allOf_le fs k
    clear hb hown2 HB2
    by_cases hlt : k < fs.length
    · obtain ⟨hP, hC⟩ := HF.out k fs[k] (List.getElem?_eq_getElem hlt)
      have HS := hide (allOf_snoc fs k fs[k] (List.getElem?_eq_getElem hlt))
      have htk1 := allOf_le fs (k + 1)
      rw [HS.out, List.length_append] at htk1
      generalize fs[k] = p at *
      obtain ⟨f, l⟩ := p
      obtain ⟨f0, f1, f2, f3, f4, f5, f6, f7, f8, f9, f10, f11, f12, f13, f14, f15⟩ := f
      simp only [] at hP hC htk1
      have HP := hide hP
      clear hP
      have d0 : wr.cell? ⟨b, o + k * 14, none⟩ = some (.int .i64 f0) := (HB.out.cell (lt_of_cell (hC 0 (by omega)))).trans (hC 0 (by omega))
      have d1 : wr.cell? ⟨b, o + k * 14 + 1, none⟩ = some (.int .u64 f1) := (HB.out.cell (lt_of_cell (hC 1 (by omega)))).trans (hC 1 (by omega))
      have d2 : wr.cell? ⟨b, o + k * 14 + 2, none⟩ = some (.int .i64 f2) := (HB.out.cell (lt_of_cell (hC 2 (by omega)))).trans (hC 2 (by omega))
      have d3 : wr.cell? ⟨b, o + k * 14 + 3, none⟩ = some (.bool f3) := (HB.out.cell (lt_of_cell (hC 3 (by omega)))).trans (hC 3 (by omega))
      have d4 : wr.cell? ⟨b, o + k * 14 + 4, none⟩ = some (.slice f4 f5 f6) := (HB.out.cell (lt_of_cell (hC 4 (by omega)))).trans (hC 4 (by omega))
      have d5 : wr.cell? ⟨b, o + k * 14 + 5, none⟩ = some (.int .i64 f7) := (HB.out.cell (lt_of_cell (hC 5 (by omega)))).trans (hC 5 (by omega))
      have d6 : wr.cell? ⟨b, o + k * 14 + 6, none⟩ = some (.int .u64 f8) := (HB.out.cell (lt_of_cell (hC 6 (by omega)))).trans (hC 6 (by omega))
      have d7 : wr.cell? ⟨b, o + k * 14 + 7, none⟩ = some (.int .i64 f9) := (HB.out.cell (lt_of_cell (hC 7 (by omega)))).trans (hC 7 (by omega))
      have d8 : wr.cell? ⟨b, o + k * 14 + 8, none⟩ = some (.int .u64 f10) := (HB.out.cell (lt_of_cell (hC 8 (by omega)))).trans (hC 8 (by omega))
      have d9 : wr.cell? ⟨b, o + k * 14 + 9, none⟩ = some (.int .i64 f11) := (HB.out.cell (lt_of_cell (hC 9 (by omega)))).trans (hC 9 (by omega))
      have d10 : wr.cell? ⟨b, o + k * 14 + 10, none⟩ = some (.int .i64 f12) := (HB.out.cell (lt_of_cell (hC 10 (by omega)))).trans (hC 10 (by omega))
      have d11 : wr.cell? ⟨b, o + k * 14 + 11, none⟩ = some (.int .u64 f13) := (HB.out.cell (lt_of_cell (hC 11 (by omega)))).trans (hC 11 (by omega))
      have d12 : wr.cell? ⟨b, o + k * 14 + 12, none⟩ = some (.int .i64 f14) := (HB.out.cell (lt_of_cell (hC 12 (by omega)))).trans (hC 12 (by omega))
      have d13 : wr.cell? ⟨b, o + k * 14 + 13, none⟩ = some (.int .u64 f15) := (HB.out.cell (lt_of_cell (hC 13 (by omega)))).trans (hC 13 (by omega))
      clear hC
      have HI := hide (IsB.new wr #[.int .i64 f0, .int .u64 f1, .int .i64 f2, .bool f3, .slice f4 f5 f6, .int .i64 f7, .int .u64 f8, .int .i64 f9, .int .u64 f10, .int .i64 f11, .int .i64 f12, .int .u64 f13, .int .i64 f14, .int .u64 f15] 34)
      have hown1 := hown.alloc (.cells #[.int .i64 f0, .int .u64 f1, .int .i64 f2, .bool f3, .slice f4 f5 f6, .int .i64 f7, .int .u64 f8, .int .i64 f9, .int .u64 f10, .int .i64 f11, .int .i64 f12, .int .u64 f13, .int .i64 f14, .int .u64 f15] 34)
      replace HB := hide (HB.out.alloc HB.out.size (.cells #[.int .i64 f0, .int .u64 f1, .int .i64 f2, .bool f3, .slice f4 f5 f6, .int .i64 f7, .int .u64 f8, .int .i64 f9, .int .u64 f10, .int .i64 f11, .int .i64 f12, .int .u64 f13, .int .i64 f14, .int .u64 f15] 34))
      clear hown
      go_wp2_with fail
      clear d0 d1 d2 d3 d4 d5 d6 d7 d8 d9 d10 d11 d12 d13
      generalize wr.alloc (.cells #[.int .i64 f0, .int .u64 f1, .int .i64 f2, .bool f3, .slice f4 f5 f6, .int .i64 f7, .int .u64 f8, .int .i64 f9, .int .u64 f10, .int .i64 f11, .int .i64 f12, .int .u64 f13, .int .i64 f14, .int .u64 f15] 34) = W1 at HI HB hown1 ⊢
      refine (HP.out.put W1 w.heap.size G _ _ _ HB.out hgl hown1 (by omega)).mono ?_; rintro e w2 ⟨rfl, hput⟩
      have HO := hide hput.1
      replace HB := hide (HB.out.grown hput.2 HB.out.size (fun j hj => by simp at hj; omega))
      clear hput hown1
      go_wp2
      go_roundw
      case rel => exact ⟨k + 1, by omega, by go_num, by rw [HS.out, List.length_append], by rw [HS.out, List.length_append]; exact HO.out, HB.out⟩
      case measure => simp [intOf]; omega
    · obtain rfl : k = fs.length := by omega
      have HT := hide (show fs.take fs.length = fs from List.take_length)
      have HO := hide hown
      clear hown
      go_wp2
      go_ret2
      have ho := HO.out
      rw [HT.out] at ho ⊢
      exact ⟨G, hgl, rfl, ho, HB.out⟩

end Go.Proofs.YtmhcmlegdoapdaaDoor
