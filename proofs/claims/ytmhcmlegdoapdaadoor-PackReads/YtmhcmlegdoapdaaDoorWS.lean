/- The document's Same: two fields that read alike. -/
import Derived.Test.YtmhcmlegdoapdaaDoorRA
namespace Go.Proofs.YtmhcmlegdoapdaaDoor
open Go.RowKit

theorem eq_vec (a b : Int) (w : World) : (binOp .eql 27 (.agg #[.int .i64 a, .int .u64 b]) (.agg #[.int .i64 a, .int .u64 b])).run Tryd.prog w = .ok (.bool true) w := by
  have u1 := Tryd.underlying3
  have a1 := Tryd.isAgg3
  have z1 := Tryd.sizeOf3
  have u2 := Tryd.underlying24
  have a2 := Tryd.isAgg24
  have z2 := Tryd.sizeOf24
  have hS : Tryd.prog.underlying 27 = some (.struct (Tryd.prog.fieldsOf 27)) := by kernel_rfl
  have hp : Tryd.prog.stoodInHeld 27 = false := by kernel_rfl
  rw [run_eql_struct, show (10000 : Nat) = 9999 + 1 from rfl, run_equalIn_agg w 9999 27 _ _ hS hp]
  simp only [Program.fieldsOf, Tryd.underlying27]
  go_simp

theorem eq_key (a b : Int) (w : World) : (binOp .eql 30 (.agg #[.int .i64 a, .int .u64 b]) (.agg #[.int .i64 a, .int .u64 b])).run Tryd.prog w = .ok (.bool true) w := by
  have u1 := Tryd.underlying28
  have a1 := Tryd.isAgg28
  have z1 := Tryd.sizeOf28
  have u2 := Tryd.underlying24
  have a2 := Tryd.isAgg24
  have z2 := Tryd.sizeOf24
  have hS : Tryd.prog.underlying 30 = some (.struct (Tryd.prog.fieldsOf 30)) := by kernel_rfl
  have hp : Tryd.prog.stoodInHeld 30 = false := by kernel_rfl
  rw [run_eql_struct, show (10000 : Nat) = 9999 + 1 from rfl, run_equalIn_agg w 9999 30 _ _ hS hp]
  simp only [Program.fieldsOf, Tryd.underlying30]
  go_simp

theorem eq_ref (i a b c d : Int) (w : World) : (binOp .eql 32 (.agg #[.int .i64 i, .int .i64 a, .int .u64 b, .int .i64 c, .int .u64 d]) (.agg #[.int .i64 i, .int .i64 a, .int .u64 b, .int .i64 c, .int .u64 d])).run Tryd.prog w = .ok (.bool true) w := by
  have u0 := Tryd.underlying28
  have a0 := Tryd.isAgg28
  have z0 := Tryd.sizeOf28
  have u1 := Tryd.underlying3
  have a1 := Tryd.isAgg3
  have z1 := Tryd.sizeOf3
  have u2 := Tryd.underlying24
  have a2 := Tryd.isAgg24
  have z2 := Tryd.sizeOf24
  have u3 := Tryd.isAgg30
  have u4 := Tryd.sizeOf30
  have u5 := Tryd.isAgg27
  have u6 := Tryd.sizeOf27
  have hS : Tryd.prog.underlying 32 = some (.struct (Tryd.prog.fieldsOf 32)) := by kernel_rfl
  have hp : Tryd.prog.stoodInHeld 32 = false := by kernel_rfl
  have hS1 : Tryd.prog.underlying 30 = some (.struct (Tryd.prog.fieldsOf 30)) := by kernel_rfl
  have hp1 : Tryd.prog.stoodInHeld 30 = false := by kernel_rfl
  have hS2 : Tryd.prog.underlying 27 = some (.struct (Tryd.prog.fieldsOf 27)) := by kernel_rfl
  have hp2 : Tryd.prog.stoodInHeld 27 = false := by kernel_rfl
  obtain ⟨dd, hd⟩ : ∃ dd, (10000 : Nat) = dd + 1 + 1 + 1 := ⟨9997, rfl⟩
  rw [run_eql_struct, hd, run_equalIn_agg w (dd + 1 + 1) 32 _ _ hS hp]
  clear hd hS
  simp only [Program.fieldsOf, Tryd.underlying32]
  have e1 : ∀ (x y : Int) w, (Op.equalIn (dd + 1 + 1) 30 (.agg #[.int .i64 x, .int .u64 y]) (.agg #[.int .i64 x, .int .u64 y])).run Tryd.prog w = .ok true w := fun x y w => by
    rw [run_equalIn_agg w (dd + 1) 30 _ _ hS1 hp1]
    simp only [Program.fieldsOf, Tryd.underlying30]
    go_simp
  have e2 : ∀ (x y : Int) w, (Op.equalIn (dd + 1 + 1) 27 (.agg #[.int .i64 x, .int .u64 y]) (.agg #[.int .i64 x, .int .u64 y])).run Tryd.prog w = .ok true w := fun x y w => by
    rw [run_equalIn_agg w (dd + 1) 27 _ _ hS2 hp2]
    simp only [Program.fieldsOf, Tryd.underlying27]
    go_simp
  go_simp

set_option maxHeartbeats 8000000 in
set_option maxRecDepth 100000 in
theorem rsame_parts (f0 f1 f2 : Int) (f3 : Bool) (a a' : Option Addr) (n n' c c' : Nat) (f7 f8 f9 f10 f11 f12 f13 f14 f15 : Int) (S : ByteArray) (w : World) (h1 : Txt w (.slice a n c) S) (h2 : Txt w (.slice a' n' c') S) :
    Calls Tryd.prog 17 #[.agg #[.int .i64 f0, .int .u64 f1, .int .i64 f2, .bool f3, .slice a n c, .int .i64 f7, .int .u64 f8, .int .i64 f9, .int .u64 f10, .int .i64 f11, .int .i64 f12, .int .u64 f13, .int .i64 f14, .int .u64 f15], .agg #[.int .i64 f0, .int .u64 f1, .int .i64 f2, .bool f3, .slice a' n' c', .int .i64 f7, .int .u64 f8, .int .i64 f9, .int .u64 f10, .int .i64 f11, .int .i64 f12, .int .u64 f13, .int .i64 f14, .int .u64 f15]] w fun e w' => e = .returned (.bool true) ∧ Below w.heap.size w w' := by
  have hv := eq_vec
  have hk := eq_key
  have hr := eq_ref
  have bel := ((Below.refl w.heap.size w).alloc (Nat.le_refl _) (.cells #[.int .i64 f0, .int .u64 f1, .int .i64 f2, .bool f3, .slice a n c, .int .i64 f7, .int .u64 f8, .int .i64 f9, .int .u64 f10, .int .i64 f11, .int .i64 f12, .int .u64 f13, .int .i64 f14, .int .u64 f15] 34)).alloc (by simp) (.cells #[.int .i64 f0, .int .u64 f1, .int .i64 f2, .bool f3, .slice a' n' c', .int .i64 f7, .int .u64 f8, .int .i64 f9, .int .u64 f10, .int .i64 f11, .int .i64 f12, .int .u64 f13, .int .i64 f14, .int .u64 f15] 34)
  have t1 := h1 _ bel
  have t2 := h2 _ bel
  replace bel := hide bel
  clear h1 h2
  go_enter Tryd.func17, Tryd.ntmps17
  go_wp2
  go_ret
  exact ⟨rfl, bel.out⟩

end Go.Proofs.YtmhcmlegdoapdaaDoor
