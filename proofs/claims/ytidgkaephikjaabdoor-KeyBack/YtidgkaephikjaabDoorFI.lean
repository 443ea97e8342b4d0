/- KeyBack, of any two keys. -/
import Derived.Test.YtidgkaephikjaabDoorFH
namespace Go.Proofs.YtidgkaephikjaabDoor
open Go.RowKit

theorem keyBack_any (r n s m : Int) (hn0 : 0 ≤ n) (hn : n < 18446744073709551616) (hm0 : 0 ≤ m) (hm : m < 18446744073709551616) (w : World) (hR : Ranks w ∧ Pows w) :
    Calls Tryd.prog 3 #[(.agg #[.int .i64 (r), .int .u64 (n)]), (.agg #[.int .i64 (s), .int .u64 (m)])] w fun e w' => e = .returned (.bool true) ∧ RowKit.Below w.heap.size w w' := by
  by_cases hc : ckE r n = 0
  · have hr : 1 ≤ r ∧ r ≤ 3 := by rcases ck_ok r n hc with h | h | h <;> omega
    obtain ⟨r', rfl⟩ := Int.eq_ofNat_of_zero_le (by omega : 0 ≤ r)
    obtain ⟨n', rfl⟩ := Int.eq_ofNat_of_zero_le hn0
    obtain ⟨m', rfl⟩ := Int.eq_ofNat_of_zero_le hm0
    exact keyBack_ok r' n' s m' (by omega) (by omega) w hR.1 hR.2 hc
  · exact keyBack_bad r n s m w hR.1 (ck_bad r n hc)

end Go.Proofs.YtidgkaephikjaabDoor
