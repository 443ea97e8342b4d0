/- Package pack: the deferred closure of readFields, of a frame that panics with a fault, and of one that returns. -/
import Derived.Test.YtmhcmlegdoapdaaDoorQK
import Derived.Defers
import Derived.Recover
namespace Go.Proofs.YtmhcmlegdoapdaaDoor
open Go.RowKit

theorem IsB.set0 {w : World} {b : Nat} {x : Value} {t : TypeId} (h : IsB w b #[x] t) (v : Value) : IsB (w.setCell ⟨b, 0, none⟩ v) b #[v] t := by
  unfold IsB at *
  rw [Sort.setCell_eq]
  simp only [Sort.mapBlock, Array.getElem?_modify, if_true, h, Option.map_some, Sort.onCells]
  rfl
theorem assert_fault (v : Value) (w : World) : (Instr.typeAssert (.iface 92 v) 20 92 false).run Tryd.prog w = .ok v w := by kernel_rfl

set_option maxHeartbeats 4000000 in
set_option maxRecDepth 100000 in
theorem catch_fault (A B C : Nat) (x : Value) (y z : Int) (at' er : Int) (w : World) (hA : IsB w A #[x] 22) (hB : IsB w B #[.int .i64 y] 3) (hC : IsB w C #[.int .i64 z] 36) (hab : A ≠ B) (hac : A ≠ C) (hbc : B ≠ C) :
    CallsD Tryd.prog 55 #[.pointer (some ⟨A, 0, none⟩), .pointer (some ⟨B, 0, none⟩), .pointer (some ⟨C, 0, none⟩)] (.panicking (flt at' er)) w fun e u' w' =>
      e = .returned (.tuple #[]) ∧ u' = .panicking [{ v := .iface 92 (.agg #[.int .i64 at', .int .i64 er]), recovered := true }] ∧ IsB w' A #[.slice none 0 0] 22 ∧ IsB w' B #[.int .i64 at'] 3 ∧ IsB w' C #[.int .i64 er] 36 ∧
        (∀ L, L ≤ A → L ≤ B → L ≤ C → L ≤ w.heap.size → RowKit.Below L w w') := by
  have mixed : Tryd.prog.follows .mixedOrders = true := by kernel_rfl
  unfold flt
  refine callsD_of_wpS Tryd.func55 rfl fun c₀ cs hu => ?_
  apply wpS_seq
  apply wpS_region
  simp [wpOpsS, go_sem, recoverD, hu, Tryd.ntmps55, Exit.thenS]
  refine wpS_of_wp ?_
  have e : (#[Value.pointer (some ⟨A, 0, none⟩), Value.pointer (some ⟨B, 0, none⟩), Value.pointer (some ⟨C, 0, none⟩)] ++ ((Array.replicate 11 undef).setIfInBounds 2 (Value.iface 92 (Value.agg #[.int .i64 at', .int .i64 er]))).setIfInBounds 0 (Value.iface 92 (Value.agg #[.int .i64 at', .int .i64 er])) : Array Value) =
      #[.pointer (some ⟨A, 0, none⟩), .pointer (some ⟨B, 0, none⟩), .pointer (some ⟨C, 0, none⟩), .iface 92 (.agg #[.int .i64 at', .int .i64 er]), undef, .iface 92 (.agg #[.int .i64 at', .int .i64 er]), undef, undef, undef, undef, undef, undef, undef, undef] := by
    simp [Array.replicate]
  rw [e]
  clear e
  have hta := assert_fault
  have HA := hA.alloc (.cells #[.int .i64 at', .int .i64 er] 92)
  have HBq := hB.alloc (.cells #[.int .i64 at', .int .i64 er] 92)
  have HC := hC.alloc (.cells #[.int .i64 at', .int .i64 er] 92)
  have HF := IsB.new w #[.int .i64 at', .int .i64 er] 92
  have lA := hA.lt
  have lB := hB.lt
  have lC := hC.lt
  have HG := hide (show Gr w (w.alloc (.cells #[.int .i64 at', .int .i64 er] 92)) from (Gr.refl w).alloc _)
  clear hA hB hC
  go_wp2
  generalize w.alloc (.cells #[.int .i64 at', .int .i64 er] 92) = W1 at HA HBq HC HF HG ⊢
  have a0 : W1.cell? ⟨A, 0, none⟩ = some x := HA.cell 0
  have b0 : W1.cell? ⟨B, 0, none⟩ = some (.int .i64 y) := HBq.cell 0
  have c0 : W1.cell? ⟨C, 0, none⟩ = some (.int .i64 z) := HC.cell 0
  have d0 : W1.cell? ⟨w.heap.size, 0, none⟩ = some (.int .i64 at') := HF.cell 0
  have d1 : W1.cell? ⟨w.heap.size, 1, none⟩ = some (.int .i64 er) := HF.cell 1
  have f0 := HA.free 0
  have f1 := HBq.free 0
  have f2 := HC.free 0
  have n1 : w.heap.size ≠ A := by omega
  have n2 : w.heap.size ≠ B := by omega
  have n3 : w.heap.size ≠ C := by omega
  go_region
  refine ⟨rfl, _, rfl, _, results_none rfl _ _ _, rfl, rfl, ?_, ?_, ?_, ?_⟩
  · exact ((HA.set0 _).setOther (by simpa using hab) _).setOther (by simpa using hac) _
  · exact ((HBq.setOther (by simpa using Ne.symm hab) _).set0 _).setOther (by simpa using hbc) _
  · exact ((HC.setOther (by simpa using Ne.symm hac) _).setOther (by simpa using Ne.symm hbc) _).set0 _
  · intro L h1 h2 h3 h4
    exact ((((HG.out.below.mono h4).setCell (by exact h1) _).setCell (by exact h2) _).setCell (by exact h3) _).drew

set_option maxHeartbeats 400000 in
theorem catch_idle (A B C : Nat) (w : World) :
    CallsD Tryd.prog 55 #[.pointer (some ⟨A, 0, none⟩), .pointer (some ⟨B, 0, none⟩), .pointer (some ⟨C, 0, none⟩)] .returning w fun e u' w' => e = .returned (.tuple #[]) ∧ u' = .returning ∧ w' = w := by
  refine callsD_of_wpS Tryd.func55 rfl fun c₀ cs hu => ?_
  apply wpS_seq
  apply wpS_region
  simp [wpOpsS, go_sem, recoverD, hu, Tryd.ntmps55, Exit.thenS]
  refine wpS_of_wp ?_
  have e : (#[Value.pointer (some ⟨A, 0, none⟩), Value.pointer (some ⟨B, 0, none⟩), Value.pointer (some ⟨C, 0, none⟩)] ++ ((Array.replicate 11 undef).setIfInBounds 2 Value.nilIface).setIfInBounds 0 Value.nilIface : Array Value) =
      #[.pointer (some ⟨A, 0, none⟩), .pointer (some ⟨B, 0, none⟩), .pointer (some ⟨C, 0, none⟩), .nilIface, undef, .nilIface, undef, undef, undef, undef, undef, undef, undef, undef] := by
    simp [Array.replicate]
  rw [e]
  clear e
  go_wp2
  cases c₀
  simp only at hu
  subst hu
  exact ⟨rfl, _, rfl, _, results_none rfl _ _ _, rfl, rfl, rfl⟩

end Go.Proofs.YtmhcmlegdoapdaaDoor
