/- A list is parted by the next bit: maths. -/
import Derived.Test.YtifmbcfdhjhacaaDoorNX
import Derived.Test.YtifmbcfdhjhacaaDoorGG
namespace Go.Proofs.YtifmbcfdhjhacaaDoor

theorem fl_len (p : Rf → Bool) : ∀ l : List Rf, (l.filter p).length + (l.filter fun r => !p r).length = l.length
  | [] => rfl
  | a :: l => by
    have := fl_len p l
    cases h : p a <;> simp [h] <;> omega
theorem fl_yes (p : Rf → Bool) (l : List Rf) (n : Nat) (h : n < l.length) (hp : p l[n] = true) : ((l.take (n + 1)).filter p).length = ((l.take n).filter p).length + 1 := by
  rw [List.take_succ_eq_append_getElem h, List.filter_append]
  simp [hp]
theorem fl_no (p : Rf → Bool) (l : List Rf) (n : Nat) (h : n < l.length) (hp : p l[n] = false) : ((l.take (n + 1)).filter p).length = ((l.take n).filter p).length := by
  rw [List.take_succ_eq_append_getElem h, List.filter_append]
  simp [hp]
theorem fl_at (p : Rf → Bool) (l : List Rf) (n : Nat) (h : n < l.length) (hp : p l[n] = true) : (l.filter p)[((l.take n).filter p).length]? = some l[n] := by
  have e : l = l.take n ++ (l[n] :: l.drop (n + 1)) := by rw [← List.drop_eq_getElem_cons h, List.take_append_drop]
  have e2 : l.filter p = (l.take n).filter p ++ (l[n] :: (l.drop (n + 1)).filter p) := by
    conv => lhs; rw [e]
    rw [List.filter_append, List.filter_cons, if_pos hp]
  rw [e2, List.getElem?_append_right (Nat.le_refl _), Nat.sub_self]
  rfl
theorem fl_in (p : Rf → Bool) (l : List Rf) (i : Nat) (r : Rf) (h : (l.filter p)[i]? = some r) : p r = true := by
  have := List.mem_of_getElem? h
  rw [List.mem_filter] at this
  exact this.2
/-- The next bit is 0. -/
def zrB (x y : Int) (r : Rf) : Bool := decide (prV (x + 1) r = (x + 1, 2 * y))
theorem half {h x y : Int} {r : Rf} (hm : mayR h r = true) (h0 : 0 ≤ x) (hx : x < h) : decide (prV x r = (x, y)) = (decide (prV (x + 1) r = (x + 1, 2 * y)) || decide (prV (x + 1) r = (x + 1, 2 * y + 1))) ∧ ¬(prV (x + 1) r = (x + 1, 2 * y) ∧ prV (x + 1) r = (x + 1, 2 * y + 1)) := by
  unfold mayR at hm
  simp only [Bool.and_eq_true, decide_eq_true_eq] at hm
  have hl := hm.2.2.2.2
  have e1 : pre r.ln.toNat r.bt.toNat x.toNat = pre r.ln.toNat r.bt.toNat (x + 1).toNat / 2 := by
    unfold pre
    have : r.ln.toNat - x.toNat = (r.ln.toNat - (x + 1).toNat) + 1 := by omega
    rw [this, Nat.pow_succ, Nat.div_div_eq_div_mul]
  unfold prV
  rw [e1]
  generalize pre r.ln.toNat r.bt.toNat (x + 1).toNat = q
  constructor
  · rw [Bool.eq_iff_iff, Bool.or_eq_true, decide_eq_true_eq, decide_eq_true_eq, decide_eq_true_eq, Prod.mk.injEq, Prod.mk.injEq, Prod.mk.injEq]
    omega
  · rw [Prod.mk.injEq, Prod.mk.injEq]
    omega
theorem parts {h x y : Int} {m : List Rf} (hm : ∀ r ∈ m, mayR h r = true) (h0 : 0 ≤ x) (hx : x < h) : flt (x + 1) (x + 1, 2 * y) m = (flt x (x, y) m).filter (zrB x y) ∧ flt (x + 1) (x + 1, 2 * y + 1) m = (flt x (x, y) m).filter (fun r => !zrB x y r) := by
  unfold flt
  rw [List.filter_filter, List.filter_filter]
  constructor
  · apply List.filter_congr
    intro r hr
    obtain ⟨e1, e2⟩ := half (y := y) (hm r hr) h0 hx
    rw [e1]
    unfold zrB
    by_cases c : prV (x + 1) r = (x + 1, 2 * y)
    · simp [c]
    · simp [c]
  · apply List.filter_congr
    intro r hr
    obtain ⟨e1, e2⟩ := half (y := y) (hm r hr) h0 hx
    rw [e1]
    unfold zrB
    by_cases c : prV (x + 1) r = (x + 1, 2 * y)
    · have : ¬prV (x + 1) r = (x + 1, 2 * y + 1) := fun d => e2 ⟨c, d⟩
      rw [decide_eq_false this, decide_eq_true c]
      rfl
    · rw [decide_eq_false c]
      simp

end Go.Proofs.YtifmbcfdhjhacaaDoor
