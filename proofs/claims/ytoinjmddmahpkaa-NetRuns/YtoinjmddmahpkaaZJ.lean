/- One act on both networks: an act of no kind. -/
import Derived.Test.YtoinjmddmahpkaaZI
namespace Go.Proofs.Ytoinjmddmahpkaa
open Go.RowKit Go.Maps

set_option maxHeartbeats 4000000 in
set_option maxRecDepth 100000 in
theorem step_other (x y : Value) (kd : Int) (hk : ∀ i : Int, 1 ≤ i → i ≤ 8 → kd ≠ i) (fa : Bool) (fn : Int) (ta : Bool) (tn : Int) (a : Option Addr) (len cap : Nat) (I K : Int) (w : World) :
    Calls Try.prog 9 #[x, y, .agg #[.int .i64 kd, .bool fa, .int .i64 fn, .bool ta, .int .i64 tn, .slice a len cap, .int .i64 I, .int .i64 K]] w fun e w' => e = .returned (.bool true) ∧ Below w.heap.size w w' := by
  have bel := hide ((Below.refl w.heap.size w).alloc (Nat.le_refl _) (.cells #[.int .i64 kd, .bool fa, .int .i64 fn, .bool ta, .int .i64 tn, .slice a len cap, .int .i64 I, .int .i64 K] 37))
  have k1 : ¬ kd = 1 := hk 1 (by omega) (by omega)
  have k2 : ¬ kd = 2 := hk 2 (by omega) (by omega)
  have k3 : ¬ kd = 3 := hk 3 (by omega) (by omega)
  have k4 : ¬ kd = 4 := hk 4 (by omega) (by omega)
  have k5 : ¬ kd = 5 := hk 5 (by omega) (by omega)
  have k6 : ¬ kd = 6 := hk 6 (by omega) (by omega)
  have k7 : ¬ kd = 7 := hk 7 (by omega) (by omega)
  have k8 : ¬ kd = 8 := hk 8 (by omega) (by omega)
  clear hk
  go_enter Try.func9, Try.ntmps9
  go_wp2
  go_ret
  exact ⟨rfl, bel.out⟩

end Go.Proofs.Ytoinjmddmahpkaa
