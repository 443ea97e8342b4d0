/- Package key: Next, Prev, In; the document's Check, Compare, Less, Next, Prev, In. -/
import Derived.Test.YtidgkaephikjaabDoorD
namespace Go.Proofs.YtidgkaephikjaabDoor
open Go.RowKit

theorem ck_cases (r n : Int) : ckE r n = 20 ∧ ¬ (r = 2 ∨ (r = 1 ∨ r = 3) ∧ n = 0) ∨ ckE r n = 0 ∧ (r = 2 ∨ r = 1 ∧ n = 0 ∨ r = 3 ∧ n = 0) := by
  unfold ckE
  by_cases h : r = 2 ∨ (r = 1 ∨ r = 3) ∧ n = 0
  · rw [if_pos h]; exact Or.inr ⟨rfl, by omega⟩
  · rw [if_neg h]; exact Or.inl ⟨rfl, h⟩



theorem kcmp_lt {r n s m : Int} (h : r < s ∨ r = s ∧ n < m) : kcmp (r, n) (s, m) = -1 := by
  unfold kcmp
  show orI (cmpI r s) (cmpI n m) = -1
  rcases h with h | ⟨h, h2⟩
  · rw [cmpI_lt h, orI_nz _ (by omega)]
  · rw [cmpI_eq h, orI_z _ rfl, cmpI_lt h2]
theorem kcmp_eq (r n : Int) : kcmp (r, n) (r, n) = 0 := by
  unfold kcmp
  show orI (cmpI r r) (cmpI n n) = 0
  rw [cmpI_eq rfl, orI_z _ rfl, cmpI_eq rfl]
theorem kcmp_gt {r n s m : Int} (h : s < r ∨ r = s ∧ m < n) : kcmp (r, n) (s, m) = 1 := by
  unfold kcmp
  show orI (cmpI r s) (cmpI n m) = 1
  rcases h with h | ⟨h, h2⟩
  · rw [cmpI_gt h, orI_nz _ (by omega)]
  · rw [cmpI_eq h, orI_z _ rfl, cmpI_gt h2]





/-- What Next tells. -/
def nxE (r n : Int) : Int × Int × Bool := if ckE r n = 20 ∨ r = 3 then (0, 0, false) else if r = 1 then (2, 0, true) else if n = 18446744073709551615 then (3, 0, true) else (2, n + 1, true)
/-- What Prev tells. -/
def pvE (r n : Int) : Int × Int × Bool := if ckE r n = 20 ∨ r = 1 then (0, 0, false) else if r = 3 then (2, 18446744073709551615, true) else if n = 0 then (1, 0, true) else (2, n - 1, true)
def keyB (x : Int × Int × Bool) : Value := .tuple #[(.agg #[.int .i64 (x.1), .int .u64 (x.2.1)]), .bool x.2.2]

end Go.Proofs.YtidgkaephikjaabDoor
