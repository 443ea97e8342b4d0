/- Two calls that write unlike keys: plain facts. -/
import Derived.Test.YtfnpapaibgbjpaaZS
namespace Go.Proofs.Ytfnpapaibgbjpaa
open Go.RowKit Go.Maps

def fnd (A : List Kv) (x : Int) : Option Kv := A.find? fun a => a.1 == x
theorem fnd_iff {A : List Kv} (h : okP A) (a : Kv) : fnd A a.1 = some a ↔ a ∈ A := by
  constructor
  · intro h1
    exact List.mem_of_find?_eq_some h1
  · intro hm
    obtain ⟨j, hj, rfl⟩ := List.getElem_of_mem hm
    unfold fnd
    rw [List.find?_eq_some_iff_getElem]
    refine ⟨by simp, j, hj, rfl, fun q hq => ?_⟩
    have := List.pairwise_iff_getElem.1 h.1 q j (by omega) hj hq
    simp
    omega
/-- A map is known by what it tells of each key. -/
theorem okP_ext : ∀ {A B : List Kv}, A.Pairwise (fun a b => a.1 < b.1) → B.Pairwise (fun a b => a.1 < b.1) → (∀ a, a ∈ A ↔ a ∈ B) → A = B
  | [], [], _, _, _ => rfl
  | [], b :: B, _, _, h => by have := (h b).2 (by simp); simp at this
  | a :: A, [], _, _, h => by have := (h a).1 (by simp); simp at this
  | a :: A, b :: B, hA, hB, h => by
    rw [List.pairwise_cons] at hA hB
    have hab : a = b := by
      rcases List.mem_cons.1 ((h a).1 (by simp)) with e | e
      · exact e
      · rcases List.mem_cons.1 ((h b).2 (by simp)) with e2 | e2
        · exact e2.symm
        · have h1 := hB.1 a e
          have h2 := hA.1 b e2
          omega
    subst hab
    congr 1
    refine okP_ext hA.2 hB.2 (fun c => ?_)
    constructor
    · intro hc
      rcases List.mem_cons.1 ((h c).1 (by simp [hc])) with e | e
      · subst e
        have := hA.1 c hc
        omega
      · exact e
    · intro hc
      rcases List.mem_cons.1 ((h c).2 (by simp [hc])) with e | e
      · subst e
        have := hB.1 c hc
        omega
      · exact e
theorem okP_fnd {A B : List Kv} (hA : okP A) (hB : okP B) (h : ∀ x, fnd A x = fnd B x) : A = B :=
  okP_ext hA.1 hB.1 (fun a => by rw [← fnd_iff hA, ← fnd_iff hB, h])
theorem th_fnd {l : List It} (ho : okM l) (x : Int) : th l x = (fnd (l.map It.val) x).isSome := by
  have hp := (okM_iff l).1 ho
  cases ht : th l x with
  | true =>
    have hlt := th_lt ht
    have hk : l[pl x l].k = x := by
      unfold th at ht
      rw [List.getElem?_eq_getElem hlt] at ht
      simpa using ht
    have hm : l[pl x l].val ∈ l.map It.val := List.mem_map.2 ⟨_, List.getElem_mem hlt, rfl⟩
    have := (fnd_iff hp _).2 hm
    rw [show l[pl x l].val.1 = x from hk] at this
    rw [this]
    rfl
  | false =>
    cases hf : fnd (l.map It.val) x with
    | none => rfl
    | some a =>
      exfalso
      have hm : a ∈ l.map It.val := List.mem_of_find?_eq_some hf
      have hax : a.1 = x := by
        have := List.find?_some hf
        simpa using this
      obtain ⟨it, hi, rfl⟩ := List.mem_map.1 hm
      have hkx : it.k = x := hax
      rw [← List.take_append_drop (pl x l) l] at hi
      rcases List.mem_append.1 hi with hi | hi
      · have := pl_lt it hi; omega
      · have := pl_gt ho ht it hi; omega
/-- What a call that wrote left of its own key. -/
theorem wrote_own {l : List It} {c : Ca} (ho : okM l) (hc : c.ok = true) : fnd (c.wrote l) c.key = if (c.told l).1 = 0 ∧ c.kd = 1 then some (c.key, c.bs) else if (c.told l).1 = 0 ∧ c.kd = 2 then none else fnd (l.map It.val) c.key := by
  have hw := wrote_ok ho hc
  by_cases h1 : (c.told l).1 = 0 ∧ c.kd = 1
  · rw [if_pos h1]
    refine (fnd_iff hw (c.key, c.bs)).2 ?_
    unfold Ca.wrote wv
    rw [if_pos h1]
    simp
  · rw [if_neg h1]
    by_cases h2 : (c.told l).1 = 0 ∧ c.kd = 2
    · rw [if_pos h2]
      cases hf : fnd (c.wrote l) c.key with
      | none => rfl
      | some a =>
        exfalso
        have hm : a ∈ c.wrote l := List.mem_of_find?_eq_some hf
        have hax : a.1 = c.key := by
          have := List.find?_some hf
          simpa using this
        have ht : th l c.key = true := by
          cases h : th l c.key with
          | true => rfl
          | false =>
            have := h2.1
            simp [Ca.told, tl, h2.2, h] at this
        have hlt := th_lt ht
        have hk : l[pl c.key l].k = c.key := by
          unfold th at ht
          rw [List.getElem?_eq_getElem hlt] at ht
          simpa using ht
        unfold Ca.wrote wv at hm
        rw [if_neg h1, if_pos h2] at hm
        rcases List.mem_append.1 hm with hm | hm
        · rw [← List.map_take] at hm
          obtain ⟨it, hi, rfl⟩ := List.mem_map.1 hm
          have := pl_lt it hi
          have h9 : it.k = c.key := hax
          omega
        · rw [← List.map_drop] at hm
          obtain ⟨it, hi, rfl⟩ := List.mem_map.1 hm
          obtain ⟨j, hj, rfl⟩ := List.getElem_of_mem hi
          rw [List.length_drop] at hj
          have h9 : (l.drop (pl c.key l + 1))[j].k = c.key := hax
          rw [List.getElem_drop] at h9
          have := okM_lt2 ho (i := pl c.key l) (j := pl c.key l + 1 + j) (by omega) (by omega)
          omega
    · rw [if_neg h2]
      unfold Ca.wrote wv
      rw [if_neg h1, if_neg h2]
/-- What a call that writes tells, another one that writes an unlike key does not turn. -/
theorem told_apart {l m : List It} {a b : Ca} (ho : okM l) (ha : a.ok = true) (hb : wrB b.kd = true) (hne : a.key ≠ b.key) (hm : m.map It.val = a.wrote l) : b.told m = b.told l := by
  have hom : okM m := by rw [okM_iff, hm]; exact wrote_ok ho ha
  have ht : th m b.key = th l b.key := by
    rw [th_fnd hom, th_fnd ho, hm]
    unfold fnd
    rw [wrote_other (fun h => hne h.symm)]
  have hk : b.kd = 1 ∨ b.kd = 2 := by
    unfold wrB at hb
    simpa using hb
  unfold Ca.told tl
  rcases hk with hk | hk
  · rw [hk, ht]
    simp
  · rw [hk, ht]
    simp
theorem fnd_other {l : List It} {c : Ca} {x : Int} (hx : x ≠ c.key) : fnd (c.wrote l) x = fnd (l.map It.val) x := wrote_other hx
/-- Either order: the same map. -/
theorem wrote_apart {l m n : List It} {a b : Ca} (ho : okM l) (ha : a.ok = true) (hb : b.ok = true) (hwa : wrB a.kd = true) (hwb : wrB b.kd = true) (hne : a.key ≠ b.key) (hm : m.map It.val = a.wrote l) (hn : n.map It.val = b.wrote l) : b.wrote m = a.wrote n := by
  have hom : okM m := by rw [okM_iff, hm]; exact wrote_ok ho ha
  have hon : okM n := by rw [okM_iff, hn]; exact wrote_ok ho hb
  refine okP_fnd (wrote_ok hom hb) (wrote_ok hon ha) (fun x => ?_)
  have ta := told_apart ho hb hwa (fun h => hne h.symm) hn
  have tb := told_apart ho ha hwb hne hm
  by_cases hxa : x = a.key
  · subst hxa
    rw [fnd_other hne, hm, wrote_own ho ha, wrote_own hon ha, ta, hn, fnd_other hne]
  · by_cases hxb : x = b.key
    · subst hxb
      rw [wrote_own hom hb, tb, fnd_other hxa, hn, wrote_own ho hb, hm, fnd_other hxa]
    · rw [fnd_other hxb, hm, fnd_other hxa, fnd_other hxa, hn, fnd_other hxb]

end Go.Proofs.Ytfnpapaibgbjpaa
