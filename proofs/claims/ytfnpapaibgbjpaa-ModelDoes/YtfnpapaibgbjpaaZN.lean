/- What calls, one behind the other, make of a map: plain facts. -/
import Derived.Test.YtfnpapaibgbjpaaZM
import Derived.Test.YtfnpapaibgbjpaaZC
namespace Go.Proofs.Ytfnpapaibgbjpaa
open Go.RowKit Go.Maps

abbrev Kv := Int × List UInt8
/-- A map, by what its items say. -/
def okP (A : List Kv) : Prop := A.Pairwise (fun a b => a.1 < b.1) ∧ ∀ a ∈ A, a.2.length ≤ 1024
theorem okM_iff (l : List It) : okM l ↔ okP (l.map It.val) := by
  constructor
  · intro h
    refine ⟨?_, fun a ha => ?_⟩
    · rw [List.pairwise_iff_getElem]
      intro i j hi hj hij
      simp at hi hj
      simp only [List.getElem_map, It.val]
      exact okM_lt2 h hij hj
    · obtain ⟨it, hi, rfl⟩ := List.mem_map.1 ha
      obtain ⟨j, hj, rfl⟩ := List.getElem_of_mem hi
      exact (h j hj).1
  · intro h j hj
    refine ⟨h.2 _ (List.mem_map.2 ⟨_, List.getElem_mem hj, rfl⟩), fun h0 => ?_⟩
    have := List.pairwise_iff_getElem.1 h.1 (j - 1) j (by simp; omega) (by simpa using hj) (by omega)
    simpa [It.val] using this
theorem tw_map (p : Kv → Bool) (l : List It) : (l.takeWhile fun it => p it.val).length = ((l.map It.val).takeWhile p).length := by
  induction l with
  | nil => rfl
  | cons a l ih =>
    simp only [List.takeWhile, List.map_cons]
    cases p a.val with
    | true => simp [ih]
    | false => rfl
theorem pl_val (x : Int) (l : List It) : pl x l = ((l.map It.val).takeWhile fun a => decide (a.1 < x)).length := tw_map (fun a => decide (a.1 < x)) l
theorem ph_val (x : Int) (l : List It) : ph x l = ((l.map It.val).takeWhile fun a => decide (a.1 ≤ x)).length := tw_map (fun a => decide (a.1 ≤ x)) l
theorem pl_congr {l m : List It} (h : l.map It.val = m.map It.val) (x : Int) : pl x l = pl x m := by rw [pl_val, pl_val, h]
theorem get_val (l : List It) (i : Nat) : (l.map It.val)[i]? = (l[i]?).map It.val := List.getElem?_map
theorem th_val (l : List It) (x : Int) : th l x = (match (l.map It.val)[pl x l]? with | some a => a.1 == x | none => false) := by
  unfold th
  rw [get_val]
  cases l[pl x l]? <;> rfl
theorem th_congr {l m : List It} (h : l.map It.val = m.map It.val) (x : Int) : th l x = th m x := by rw [th_val, th_val, pl_congr h, h]
theorem rg_congr {l m : List It} (h : l.map It.val = m.map It.val) (x : Int) : rgV l x = rgV m x := by
  unfold rgV
  have hp : ph x l = ph x m := by rw [ph_val, ph_val, h]
  rw [hp, List.map_take, List.map_take, h]
theorem tl_congr {l m : List It} (h : l.map It.val = m.map It.val) (kd key high : Int) : tl l kd key high = tl m kd key high := by
  unfold tl
  have hg : (l[pl key m]?).map It.val = (m[pl key m]?).map It.val := by rw [← get_val, ← get_val, h]
  rw [th_congr h, pl_congr h, rg_congr (show (l.drop (pl key m)).map It.val = (m.drop (pl key m)).map It.val by rw [List.map_drop, List.map_drop, h])]
  revert hg
  generalize l[pl key m]? = a
  generalize m[pl key m]? = b
  intro hg
  cases a with
  | none =>
    cases b with
    | none => rfl
    | some b => cases hg
  | some a =>
    cases b with
    | none => cases hg
    | some b =>
      simp [It.val] at hg
      simp only [hg.1, hg.2]
theorem wv_congr {l m : List It} (h : l.map It.val = m.map It.val) (kd key : Int) (cb : List UInt8) (er : Int) : wv l kd key cb er = wv m kd key cb er := by
  unfold wv
  rw [h, pl_congr h]
theorem tw_take (p : It → Bool) : ∀ l : List It, l.take (l.takeWhile p).length = l.takeWhile p
  | [] => rfl
  | a :: l => by
    cases h : p a with
    | true => simp [h, tw_take p l]
    | false => simp [h]
theorem tw_mem (p : It → Bool) : ∀ (l : List It) (a : It), a ∈ l.takeWhile p → p a = true
  | [], a, h => by simp at h
  | b :: l, a, h => by
    cases hb : p b with
    | true =>
      rw [List.takeWhile_cons_of_pos hb] at h
      rcases List.mem_cons.1 h with rfl | h
      · exact hb
      · exact tw_mem p l a h
    | false => simp [hb] at h
theorem tw_not (p : It → Bool) : ∀ (l : List It) (h : (l.takeWhile p).length < l.length), p l[(l.takeWhile p).length] = false
  | [], h => by simp at h
  | b :: l, h => by
    cases hb : p b with
    | true =>
      have := tw_not p l (by simpa [hb] using h)
      simpa [hb] using this
    | false => simp [hb]
theorem pl_lt {l : List It} {x : Int} : ∀ it ∈ l.take (pl x l), it.k < x := fun it hi => by
  unfold pl at hi
  rw [tw_take] at hi
  exact of_decide_eq_true (tw_mem _ _ _ hi)
theorem pl_at {l : List It} {x : Int} (h : pl x l < l.length) : ¬l[pl x l].k < x := of_decide_eq_false (tw_not (fun it => decide (it.k < x)) l h)
theorem pl_ge {l : List It} (ho : okM l) {x : Int} : ∀ it ∈ l.drop (pl x l), x ≤ it.k := fun it hi => by
  obtain ⟨j, hj, rfl⟩ := List.getElem_of_mem hi
  rw [List.length_drop] at hj
  rw [List.getElem_drop]
  have h1 := pl_at (l := l) (x := x) (by omega)
  have := okM_le ho (i := pl x l) (j := pl x l + j) (by omega) (by omega)
  omega
/-- The items behind the place of a key that is not there are above it. -/
theorem pl_gt {l : List It} (ho : okM l) {x : Int} (hn : th l x = false) : ∀ it ∈ l.drop (pl x l), x < it.k := fun it hi => by
  have h1 := pl_ge ho it hi
  obtain ⟨j, hj, rfl⟩ := List.getElem_of_mem hi
  rw [List.length_drop] at hj
  rw [List.getElem_drop] at *
  unfold th at hn
  rw [List.getElem?_eq_getElem (by omega)] at hn
  have h2 : ¬l[pl x l].k = x := by simpa using hn
  have h3 := pl_at (l := l) (x := x) (by omega)
  have h4 := okM_le ho (i := pl x l) (j := pl x l + j) (by omega) (by omega)
  omega
theorem th_lt {l : List It} {x : Int} (h : th l x = true) : pl x l < l.length := by
  unfold th at h
  cases hq : l[pl x l]? with
  | none => rw [hq] at h; cases h
  | some a => exact (List.getElem?_eq_some_iff.1 hq).1
/-- A map stays one. -/
theorem wv_ok {l : List It} (ho : okM l) (kd key high : Int) (cb : List UInt8) (hc : okC kd high cb.length = true) : okP (wv l kd key cb (tl l kd key high).1) := by
  have h0 := (okM_iff l).1 ho
  unfold wv
  split
  · rename_i h1
    obtain ⟨h1, rfl⟩ := h1
    have hcl : cb.length ≤ 1024 := by
      unfold okC at hc
      have := of_decide_eq_true hc
      omega
    have hnt : th l key = false := by
      cases h : th l key with
      | false => rfl
      | true => simp [tl, h] at h1
    refine ⟨?_, fun a ha => ?_⟩
    · rw [List.pairwise_append]
      refine ⟨h0.1.sublist (List.take_sublist _ _), ?_, fun a ha b hb => ?_⟩
      · rw [List.pairwise_cons]
        refine ⟨fun b hb => ?_, h0.1.sublist (List.drop_sublist _ _)⟩
        rw [← List.map_drop] at hb
        obtain ⟨it, hi, rfl⟩ := List.mem_map.1 hb
        exact pl_gt ho hnt it hi
      · rw [← List.map_take] at ha
        obtain ⟨it, hi, rfl⟩ := List.mem_map.1 ha
        have h2 := pl_lt it hi
        rcases List.mem_cons.1 hb with rfl | hb
        · exact h2
        · rw [← List.map_drop] at hb
          obtain ⟨it2, hi2, rfl⟩ := List.mem_map.1 hb
          have h3 := pl_gt ho hnt it2 hi2
          show it.k < it2.k
          omega
    · rcases List.mem_append.1 ha with ha | ha
      · exact h0.2 a (List.mem_of_mem_take ha)
      · rcases List.mem_cons.1 ha with rfl | ha
        · exact hcl
        · exact h0.2 a (List.mem_of_mem_drop ha)
  · split
    · refine ⟨?_, fun a ha => ?_⟩
      · rw [List.pairwise_append]
        refine ⟨h0.1.sublist (List.take_sublist _ _), h0.1.sublist (List.drop_sublist _ _), fun a ha b hb => ?_⟩
        rw [← List.map_take] at ha
        rw [← List.map_drop] at hb
        obtain ⟨i, hi, rfl⟩ := List.getElem_of_mem ha
        obtain ⟨j, hj, rfl⟩ := List.getElem_of_mem hb
        simp at hi hj
        simp only [List.getElem_map, List.getElem_take, List.getElem_drop, It.val]
        exact okM_lt2 ho (by omega) (by omega)
      · rcases List.mem_append.1 ha with ha | ha
        · exact h0.2 a (List.mem_of_mem_take ha)
        · exact h0.2 a (List.mem_of_mem_drop ha)
    · exact h0

/-- A call, as it lies there. -/
structure Ca where
  kd : Int
  key : Int
  high : Int
  a : Option Addr
  c : Nat
  bs : List UInt8
def Ca.ok (c : Ca) : Bool := okC c.kd c.high c.bs.length
/-- Items that say this. -/
def up (A : List Kv) : List It := A.map fun a => ⟨a.1, none, 0, a.2⟩
theorem up_val (A : List Kv) : (up A).map It.val = A := by
  unfold up
  rw [List.map_map]
  exact List.map_id _
def Ca.told (c : Ca) (l : List It) : RV := tl l c.kd c.key c.high
def Ca.wrote (c : Ca) (l : List It) : List Kv := wv l c.kd c.key c.bs (c.told l).1
/-- What calls make of a map, what they tell, and the error. -/
def runs : List Ca → List It → List Kv × List RV × Int
  | [], l => (l.map It.val, [], 0)
  | c :: cs, l => if c.ok then ((runs cs (up (c.wrote l))).1, c.told l :: (runs cs (up (c.wrote l))).2.1, (runs cs (up (c.wrote l))).2.2) else (l.map It.val, [], 104)
theorem told_congr {l m : List It} (h : l.map It.val = m.map It.val) (c : Ca) : c.told l = c.told m := tl_congr h _ _ _
theorem wrote_congr {l m : List It} (h : l.map It.val = m.map It.val) (c : Ca) : c.wrote l = c.wrote m := by
  unfold Ca.wrote
  rw [told_congr h, wv_congr h]
theorem runs_congr {l m : List It} (h : l.map It.val = m.map It.val) : ∀ cs : List Ca, runs cs l = runs cs m
  | [] => by simp [runs, h]
  | c :: cs => by simp [runs, h, told_congr h, wrote_congr h]
theorem wrote_ok {l : List It} (ho : okM l) {c : Ca} (hc : c.ok = true) : okP (c.wrote l) := wv_ok ho _ _ _ _ hc

end Go.Proofs.Ytfnpapaibgbjpaa
