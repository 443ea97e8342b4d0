/- Package pack: what is left of bytes, read on. -/
import Derived.Test.YtmhcmlegdoapdaaDoorQA
import Derived.BigRegion
namespace Go.Proofs.YtmhcmlegdoapdaaDoor
open Go.RowKit

theorem IsB.set01 {w : World} {b : Nat} {x y z : Value} {t : TypeId} (h : IsB w b #[x, y, z] t) (u v : Value) : IsB ((w.setCell ⟨b, 0, none⟩ u).setCell ⟨b, 1, none⟩ v) b #[u, v, z] t := by
  unfold IsB at *
  rw [Sort.setCell_eq, Sort.setCell_eq]
  simp only [Sort.mapBlock, Array.getElem?_modify, if_true, h, Option.map_some, Sort.onCells]
  rfl
theorem IsB.set2 {w : World} {b : Nat} {x y z : Value} {t : TypeId} (h : IsB w b #[x, y, z] t) (v : Value) : IsB (w.setCell ⟨b, 2, none⟩ v) b #[x, y, v] t := by
  unfold IsB at *
  rw [Sort.setCell_eq]
  simp only [Sort.mapBlock, Array.getElem?_modify, if_true, h, Option.map_some, Sort.onCells]
  rfl
theorem size_setCell (w : World) (a : Addr) (u : Value) : (w.setCell a u).heap.size = w.heap.size := by simp
theorem grown_set (w : World) (R j : Nat) (u : Value) : w.grownBy (w.setCell ⟨R, j, none⟩ u) (some R) :=
  ⟨rfl, rfl, rfl, by rw [size_setCell]; exact Nat.le_refl _, fun k _ hne => Below.heap_setCell w _ u k (by simpa using hne)⟩
theorem grown_set2 (w : World) (R : Nat) (u v : Value) : w.grownBy ((w.setCell ⟨R, 0, none⟩ u).setCell ⟨R, 1, none⟩ v) (some R) := grown_trans (grown_set w R 0 u) (grown_set _ R 1 v)

/-- The reader lies in block R: what is left, how many bytes were taken, the fields. -/
def Rd (w : World) (R : Nat) (a : Option Addr) (len cap : Nat) (at' : Int) (fl : Value) : Prop := IsB w R #[.slice a len cap, .int .i64 at', fl] 96

/-- A panic with a fault. -/
def flt (at' e : Int) : List PanicEntry := [{ v := .iface 92 (.agg #[.int .i64 at', .int .i64 e]), recovered := false }]

set_option maxHeartbeats 400000 in
theorem must_yes (p : Option Addr) (w : World) : Calls Tryd.prog 76 #[.pointer p, .bool true] w fun e w' => e = .returned (.tuple #[]) ∧ w' = w := by
  go_enter Tryd.func76, Tryd.ntmps76
  go_wp2
  go_end0
  exact ⟨rfl, rfl⟩

set_option maxHeartbeats 400000 in
theorem must_no (R len cap : Nat) (a : Option Addr) (at' : Int) (h0 : 1 ≤ at') (h1 : at' ≤ 1099511627776) (fl : Value) (w : World) (hR : Rd w R a len cap at' fl) :
    Calls Tryd.prog 76 #[.pointer (some ⟨R, 0, none⟩), .bool false] w fun e w' => e = .panicked (flt (at' - 1) 31) ∧ w' = w := by
  have a1 : w.cell? ⟨R, 1, none⟩ = some (.int .i64 at') := hR.cell 1
  go_enter Tryd.func76, Tryd.ntmps76
  go_wp2
  exact ⟨rfl, rfl, rfl⟩

set_option maxHeartbeats 2000000 in
set_option maxRecDepth 100000 in
theorem take_ok (R len cap n : Nat) (b o : Nat) (at' : Int) (h0 : 0 ≤ at') (h1 : at' ≤ 1099511627776) (fl : Value) (w : World) (hR : Rd w R (some ⟨b, o, none⟩) len cap at' fl) (hn : n ≤ len) (hc : len ≤ cap) (hc2 : len ≤ 4611686018427387904 ∧ cap ≤ 9223372036854775807) :
    Calls Tryd.prog 79 #[.pointer (some ⟨R, 0, none⟩), .int .i64 (n : Int)] w fun e w' => e = .returned (.slice (some ⟨b, o, none⟩) n cap) ∧ ∃ o', (n < len → o' = o + n) ∧ Rd w' R (some ⟨b, o', none⟩) (len - n) (cap - n) (at' + n) fl ∧ w.grownBy w' (some R) := by
  obtain ⟨hl2, hc2⟩ := hc2
  have a0 : w.cell? ⟨R, 0, none⟩ = some (.slice (some ⟨b, o, none⟩) len cap) := hR.cell 0
  have a1 : w.cell? ⟨R, 1, none⟩ = some (.int .i64 at') := hR.cell 1
  have f0 := hR.free 0
  have f1 := hR.free 1
  by_cases hcn : cap = n
  · obtain rfl : len = n := by omega
    subst hcn
    have HR := hide (hR.set01 (.slice (some ⟨b, o, none⟩) 0 0) (.int .i64 (at' + (cap : Int))))
    have HG := hide (grown_set2 w R (.slice (some ⟨b, o, none⟩) 0 0) (.int .i64 (at' + (cap : Int))))
    clear hR
    go_enter Tryd.func79, Tryd.ntmps79
    go_wp2
    go_region
    clear a0 a1 f0 f1
    go_wp2
    go_ret
    rw [Nat.sub_self]
    exact ⟨rfl, o, fun h => by omega, HR.out, grown_trans HG.out (grown_of_gr ((Gr.refl _).drew) _)⟩
  · have HR := hide (hR.set01 (.slice (some ⟨b, o + n, none⟩) (len - n) (cap - n)) (.int .i64 (at' + (n : Int))))
    have HG := hide (grown_set2 w R (.slice (some ⟨b, o + n, none⟩) (len - n) (cap - n)) (.int .i64 (at' + (n : Int))))
    clear hR
    go_enter Tryd.func79, Tryd.ntmps79
    go_wp2
    go_region
    clear a0 a1 f0 f1
    go_wp2
    go_ret
    exact ⟨rfl, o + n, fun _ => rfl, HR.out, grown_trans HG.out (grown_of_gr ((Gr.refl _).drew) _)⟩

set_option maxHeartbeats 2000000 in
set_option maxRecDepth 100000 in
theorem one_ok (R len cap : Nat) (b o : Nat) (at' c : Int) (h0 : 0 ≤ at') (h1 : at' ≤ 1099511627776) (fl : Value) (w : World) (hR : Rd w R (some ⟨b, o, none⟩) len cap at' fl) (hn : 1 ≤ len) (hc : len ≤ cap) (hc2 : len ≤ 4611686018427387904 ∧ cap ≤ 9223372036854775807) (hne : b ≠ R) (hb : w.cell? ⟨b, o, none⟩ = some (.int .u8 c)) :
    Calls Tryd.prog 75 #[.pointer (some ⟨R, 0, none⟩)] w fun e w' => e = .returned (.int .u8 c) ∧ ∃ o', (1 < len → o' = o + 1) ∧ Rd w' R (some ⟨b, o', none⟩) (len - 1) (cap - 1) (at' + 1) fl ∧ w.grownBy w' (some R) := by
  have ht := take_ok R len cap 1 b o at' h0 h1 fl w hR hn hc hc2
  have hbl := lt_of_cell hb
  go_enter Tryd.func75, Tryd.ntmps75
  go_wp2_with fail
  refine ht.mono ?_; rintro e w1 ⟨rfl, o', ho, hr, hg⟩
  have hb1 : w1.cell? ⟨b, o, none⟩ = some (.int .u8 c) := hg.cell hb (by simpa using hne)
  have HR := hide hr
  have HG := hide hg
  have HO := hide ho
  clear ht hr hg ho hb hR
  go_wp2
  go_ret
  exact ⟨rfl, o', HO.out, HR.out, HG.out⟩

end Go.Proofs.YtmhcmlegdoapdaaDoor
