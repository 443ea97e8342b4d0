/- Package pack: First and Unpack of any fields' bytes. -/
import Derived.Test.YtmhcmlegdoapdaaDoorQY
namespace Go.Proofs.YtmhcmlegdoapdaaDoor
open Go.RowKit

theorem FV.kind_le (v : FV) : 1 ≤ v.kind ∧ v.kind ≤ 7 := by cases v <;> simp [FV.kind]

/-- What is read: these fields, in memory that was not there. -/
def ReadTo (w w' : World) (vs : List FV) (fa : Option Addr) (fc : Nat) : Prop :=
  ∃ fs : List Fd, fs.length = vs.length ∧ w'.ownsRow w.heap.size 34 14 (.slice fa vs.length fc) vs.length (cellsOf fs) ∧ (∀ (j : Nat) (v : FV) (f : Fd), vs[j]? = some v → fs[j]? = some f → v.At w' w.heap.size f) ∧ RowKit.Below w.heap.size w w'

set_option maxHeartbeats 4000000 in
set_option maxRecDepth 100000 in
theorem first_ok (vs : List FV) (hvs : ∀ v ∈ vs, Reads v) (hn : vs.length ≤ 1000) (b o len cap kb ko kc : Nat) (w : World) (hR : Ranks w) (hb : b < w.heap.size) (hlen : (encs vs).length ≤ len) (hcap : len ≤ cap) (hcap2 : cap ≤ 100000000)
    (hC : ∀ j (hj : j < (encs vs).length), w.cell? ⟨b, o + j, none⟩ = some (.int .u8 (encs vs)[j])) (hK : ∀ (j : Nat) (v : FV), vs[j]? = some v → w.cell? ⟨kb, ko + j, none⟩ = some (.int .i64 v.kind)) :
    Calls Tryd.prog 20 #[.slice (some ⟨b, o, none⟩) len cap, .slice (some ⟨kb, ko, none⟩) vs.length kc] w fun e w' => ∃ fa fc, e = .returned (.tuple #[.slice fa vs.length fc, .int .i64 ((encs vs).length : Int), .int .i64 0]) ∧ ReadTo w w' vs fa fc := by
  have hr := hide (readFields_ok vs hvs hn b o len cap kb ko kc w hR hb hlen hcap hcap2 hC hK)
  have HK := hide hK
  clear hC hK hvs hR
  go_enter Tryd.func20, Tryd.ntmps20
  go_wp2
  go_loop [11] (fun i => ∃ k : Nat, k ≤ vs.length ∧ i = .int .i64 (k : Int)) (fun i => vs.length - (intOf i).toNat)
  case atStart => exact ⟨0, by omega, rfl⟩
  case round =>
    obtain ⟨k, hk, rfl⟩ := hrel
    by_cases hlt : k < vs.length
    · have hkc := HK.out k _ (List.getElem?_eq_getElem hlt)
      obtain ⟨hq1, hq2⟩ := vs[k].kind_le
      generalize vs[k].kind = q at hkc hq1 hq2
      go_wp2_with fail
      refine (isKind_yes q hq1 hq2 _).mono ?_; rintro e w1 ⟨rfl, rfl⟩
      go_wp2
      go_round
      case rel => exact ⟨k + 1, by omega, by go_num⟩
      case measure => simp [intOf]; omega
    · obtain rfl : k = vs.length := by omega
      go_wp2_with fail
      refine hr.out.mono ?_; rintro e w1 ⟨fa, fc, fs, rfl, h1, h2, h3, h4⟩
      have H := hide (show ReadTo w w1 vs fa fc from ⟨fs, h1, h2, h3, h4⟩)
      clear h1 h2 h3 h4 hr
      go_wp2
      go_ret3
      exact ⟨fa, fc, rfl, H.out⟩

set_option maxHeartbeats 4000000 in
set_option maxRecDepth 100000 in
theorem unpack_ok (vs : List FV) (hvs : ∀ v ∈ vs, Reads v) (hn : vs.length ≤ 1000) (b o cap kb ko kc : Nat) (w : World) (hR : Ranks w) (hb : b < w.heap.size) (hcap : (encs vs).length ≤ cap) (hcap2 : cap ≤ 100000000)
    (hC : ∀ j (hj : j < (encs vs).length), w.cell? ⟨b, o + j, none⟩ = some (.int .u8 (encs vs)[j])) (hK : ∀ (j : Nat) (v : FV), vs[j]? = some v → w.cell? ⟨kb, ko + j, none⟩ = some (.int .i64 v.kind)) :
    Calls Tryd.prog 19 #[.slice (some ⟨b, o, none⟩) (encs vs).length cap, .slice (some ⟨kb, ko, none⟩) vs.length kc] w fun e w' => ∃ fa fc, e = .returned (.tuple #[.slice fa vs.length fc, .int .i64 0, .int .i64 0]) ∧ ReadTo w w' vs fa fc := by
  have hr := hide (first_ok vs hvs hn b o _ cap kb ko kc w hR hb (Nat.le_refl _) hcap hcap2 hC hK)
  clear hC hK hvs hR
  go_enter Tryd.func19, Tryd.ntmps19
  go_wp2_with fail
  refine hr.out.mono ?_; rintro e w1 ⟨fa, fc, rfl, h⟩
  have H := hide h
  clear h hr
  go_wp2
  go_ret3
  exact ⟨fa, fc, rfl, H.out⟩

end Go.Proofs.YtmhcmlegdoapdaaDoor
