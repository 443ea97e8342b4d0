/- What is read of a map: plain facts. -/
import Derived.Test.YtfnpapaibgbjpaaZS
namespace Go.Proofs.Ytfnpapaibgbjpaa
open Go.RowKit Go.Maps

theorem low_iff {l : List It} (ho : okM l) (x : Int) (j : Nat) (hj : j < l.length) : x ≤ l[j].k ↔ pl x l ≤ j := by
  constructor
  · intro h
    apply Nat.le_of_not_lt
    intro hlt
    have : l[j] ∈ l.take (pl x l) := by
      rw [List.mem_take_iff_getElem]
      exact ⟨j, by omega, rfl⟩
    have := pl_lt _ this
    omega
  · intro h
    have : l[j] ∈ l.drop (pl x l) := by
      rw [List.mem_drop_iff_getElem]
      refine ⟨j - pl x l, by omega, ?_⟩
      congr 1
      omega
    exact pl_ge ho _ this
theorem ph_in {l : List It} {x : Int} (j : Nat) (hj : j < l.length) (h : j < ph x l) : l[j].k ≤ x := by
  have : l[j] ∈ l.takeWhile fun it => decide (it.k ≤ x) := by
    rw [← tw_take, List.mem_take_iff_getElem]
    exact ⟨j, by unfold ph at h; omega, rfl⟩
  exact of_decide_eq_true (tw_mem _ _ _ this)
theorem ph_out {l : List It} (ho : okM l) {x : Int} (j : Nat) (hj : j < l.length) (h : ph x l ≤ j) : x < l[j].k := by
  have h1 : ¬l[ph x l].k ≤ x := of_decide_eq_false (tw_not (fun it => decide (it.k ≤ x)) l (by unfold ph at h; omega))
  have := okM_le ho h hj
  omega
/-- How many stand in a range. -/
def cnt (l : List It) (low high : Int) : Nat := ph high (l.drop (pl low l))
theorem cnt_le (l : List It) (low high : Int) : pl low l + cnt l low high ≤ l.length := by
  have h1 := ph_le high (l.drop (pl low l))
  have h2 := pl_le low l
  rw [List.length_drop] at h1
  unfold cnt
  omega
theorem high_iff {l : List It} (ho : okM l) (low high : Int) (j : Nat) (hj : j < l.length) (hp : pl low l ≤ j) : l[j].k ≤ high ↔ j < pl low l + cnt l low high := by
  have e : (l.drop (pl low l))[j - pl low l]'(by rw [List.length_drop]; omega) = l[j] := by
    rw [List.getElem_drop]
    congr 1
    omega
  constructor
  · intro h
    apply Nat.lt_of_not_le
    intro hle
    have := ph_out (okM_drop ho (pl low l)) (x := high) (j - pl low l) (by rw [List.length_drop]; omega) (by unfold cnt at hle; omega)
    rw [e] at this
    omega
  · intro h
    have := ph_in (l := l.drop (pl low l)) (x := high) (j - pl low l) (by rw [List.length_drop]; omega) (by unfold cnt at h; omega)
    rw [e] at this
    exact this
theorem kfind_pl {l : List It} (ho : okM l) (low : Int) (h : pl low l < l.length) : kfind l[pl low l].k l = some l[pl low l] :=
  kfind_at h rfl (fun q hq hql => by have := okM_lt2 ho hq h; omega)
/-- What the least key tells. -/
theorem ceil_yes {l : List It} {low : Int} (h : pl low l < l.length) : tl l 4 low 0 = (0, l[pl low l].k, l[pl low l].bs, [], true) := by
  simp [tl, List.getElem?_eq_getElem h]
theorem ceil_no {l : List It} {low : Int} (h : ¬pl low l < l.length) : tl l 4 low 0 = (101, 0, [], [], false) := by
  simp [tl, List.getElem?_eq_none (Nat.le_of_not_lt h)]
theorem range_large {l : List It} {low high : Int} (h : 64 < cnt l low high) : tl l 5 low high = (102, 0, [], [], false) := by
  simp only [tl]
  simp only [rgV]
  unfold cnt at h
  simp [h]
theorem range_all {l : List It} {low high : Int} (h : ¬64 < cnt l low high) : tl l 5 low high = (0, 0, [], ((l.drop (pl low l)).take (cnt l low high)).map It.val, false) := by
  simp only [tl]
  simp only [rgV]
  unfold cnt at *
  simp [h]
theorem range_at {l il : List It} {low high : Int} (h : il.map It.val = ((l.drop (pl low l)).take (cnt l low high)).map It.val) : il.length = cnt l low high ∧ ∀ j (hj : j < l.length) (_ : pl low l ≤ j) (_ : j < pl low l + cnt l low high) (hn : j - pl low l < il.length), il[j - pl low l].k = l[j].k ∧ il[j - pl low l].bs = l[j].bs := by
  have hc := cnt_le l low high
  have hl : il.length = cnt l low high := by
    have := congrArg List.length h
    simp at this
    omega
  refine ⟨hl, fun j hj h1 h2 hn => ?_⟩
  have h3 : (il.map It.val)[j - pl low l]? = (((l.drop (pl low l)).take (cnt l low high)).map It.val)[j - pl low l]? := by rw [h]
  rw [List.getElem?_map, List.getElem?_map, List.getElem?_eq_getElem hn, List.getElem?_take, if_pos (by omega), List.getElem?_drop, show pl low l + (j - pl low l) = j by omega, List.getElem?_eq_getElem hj] at h3
  simp [It.val] at h3
  exact h3

end Go.Proofs.Ytfnpapaibgbjpaa
