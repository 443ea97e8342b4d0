/- One call changes its own key alone: plain facts; few. -/
import Derived.Test.YtfnpapaibgbjpaaZR
import Derived.Test.YtfnpapaibgbjpaaZD
import Derived.Test.YtfnpapaibgbjpaaZQ
namespace Go.Proofs.Ytfnpapaibgbjpaa
open Go.RowKit Go.Maps

theorem Sl.cut {w : World} {a : Option Addr} {n c : Nat} {l : List It} (h : Sl w (.slice a n c) l) (m : Nat) (hm : m ≤ l.length) : Sl w (.slice a m c) (l.take m) := by
  refine ⟨?_, fun it hi => h.2 it (List.mem_of_mem_take hi)⟩
  rcases h.1 with ⟨h1, rfl⟩ | ⟨g, o, c', h1, h2, h3, h4, h5⟩
  · injection h1 with h1 _ h2
    have : m = 0 := by simpa using hm
    subst this h1 h2
    exact Or.inl ⟨rfl, rfl⟩
  · injection h1 with h1 h6 h7
    subst h1 h7
    refine Or.inr ⟨g, o, c, by rw [List.length_take, Nat.min_eq_left hm], by rw [List.length_take]; omega, by omega, h4, fun j u hu => ?_⟩
    rw [← its_take, List.getElem?_take] at hu
    split at hu
    · exact h5 j u hu
    · cases hu
set_option maxHeartbeats 1000000 in
theorem few_any (v : Value) (l : List It) (w : World) (h : Sl w v l) : Calls Try.prog 9 #[v] w fun e w' => ∃ v', e = .returned v' ∧ Sl w v' (l.take 200) ∧ w' = w := by
  obtain ⟨va, vc, rfl, h1, h2⟩ := h.shape
  have h2 : vc ≤ 9223372036854775807 := by unfold maxLen at h2; omega
  by_cases hn : l.length ≤ 200
  · have HS : Hid (Sl w (.slice va l.length vc) (l.take 200)) := by
      show Sl _ _ _
      rw [List.take_of_length_le hn]
      exact h
    have hd : decide ((200 : Int) < (l.length : Int)) = false := by simp; omega
    clear h
    generalize l.length = n at *
    go_enter Try.func9, Try.ntmps9
    go_wp2
    go_ret
    exact ⟨_, rfl, HS.out, rfl⟩
  · have HS := hide (h.cut 200 (by omega))
    have hd : decide ((200 : Int) < (l.length : Int)) = true := by simp; omega
    clear h
    generalize l.length = n at *
    have hc : 200 ≤ vc := by omega
    go_enter Try.func9, Try.ntmps9
    go_wp2
    go_ret
    exact ⟨_, rfl, HS.out, rfl⟩

/-- A key's value, by what items say. -/
theorem kfind_val (x : Int) : ∀ l : List It, (kfind x l).map It.val = (l.map It.val).find? (fun a => a.1 == x)
  | [] => rfl
  | a :: l => by
    unfold kfind
    rw [List.find?_cons, List.map_cons, List.find?_cons]
    show Option.map It.val (match a.k == x with | true => some a | false => l.find? fun it => it.k == x) = match a.k == x with | true => some a.val | false => (l.map It.val).find? fun a => a.1 == x
    cases a.k == x with
    | true => rfl
    | false => exact kfind_val x l
theorem kB_val (x : Int) (l : List It) : kB x l = ((l.map It.val).find? (fun a => a.1 == x)).isSome := by
  unfold kB
  rw [← kfind_val]
  cases kfind x l <;> rfl
theorem kS_val (x : Int) (l : List It) : kS x l = (match (l.map It.val).find? (fun a => a.1 == x) with | some a => a.2 | none => []) := by
  unfold kS
  rw [← kfind_val]
  cases kfind x l <;> rfl
theorem split_val (l : List It) (i : Nat) : l.map It.val = (l.map It.val).take i ++ (l.map It.val).drop i := (List.take_append_drop i _).symm
/-- What a call wrote: another key's value is as it was. -/
theorem wrote_other {l : List It} {c : Ca} {x : Int} (hx : x ≠ c.key) : (c.wrote l).find? (fun a => a.1 == x) = (l.map It.val).find? (fun a => a.1 == x) := by
  unfold Ca.wrote wv
  split
  · rename_i h1
    rw [List.find?_append, List.find?_cons]
    have : (c.key == x) = false := by simpa using fun h => hx h.symm
    rw [this]
    conv => rhs; rw [split_val l (pl c.key l), List.find?_append]
  · split
    · rename_i h1 h2
      have ht : th l c.key = true := by
        cases h : th l c.key with
        | true => rfl
        | false => 
          have := h2.1
          simp [Ca.told, tl, h2.2, h] at this
      have hlt := th_lt ht
      have hk : l[pl c.key l].k = c.key := by
        unfold th at ht
        rw [List.getElem?_eq_getElem hlt] at ht
        simpa using ht
      conv => rhs; rw [split_val l (pl c.key l), List.find?_append]
      rw [List.find?_append]
      congr 1
      have hd : (l.map It.val).drop (pl c.key l) = l[pl c.key l].val :: (l.map It.val).drop (pl c.key l + 1) := by
        rw [List.drop_eq_getElem_cons (by simpa using hlt)]
        simp
      rw [hd, List.find?_cons]
      have : (l[pl c.key l].val.1 == x) = false := by
        show (l[pl c.key l].k == x) = false
        rw [hk]
        simpa using fun h => hx h.symm
      rw [this]
    · rfl
theorem wrote_kB {l m : List It} {c : Ca} (hm : m.map It.val = c.wrote l) {x : Int} (hx : x ≠ c.key) : kB x m = kB x l := by rw [kB_val, kB_val, hm, wrote_other hx]
theorem wrote_kS {l m : List It} {c : Ca} (hm : m.map It.val = c.wrote l) {x : Int} (hx : x ≠ c.key) : kS x m = kS x l := by rw [kS_val, kS_val, hm, wrote_other hx]
theorem wrote_same {l m : List It} {c : Ca} (hm : m.map It.val = c.wrote l) (h : wrB c.kd = false ∨ (c.told l).1 ≠ 0) : sameL l m = true := by
  unfold sameL
  rw [beq_iff_eq, hm]
  unfold Ca.wrote wv
  have h1 : ¬((c.told l).1 = 0 ∧ c.kd = 1) := fun h2 => by
    rcases h with h | h
    · simp [wrB, h2.2] at h
    · exact h h2.1
  have h2 : ¬((c.told l).1 = 0 ∧ c.kd = 2) := fun h2 => by
    rcases h with h | h
    · simp [wrB, h2.2] at h
    · exact h h2.1
  rw [if_neg h1, if_neg h2]
/-- Behind an insert that told OK, a delete of that key leaves the map as it was. -/
theorem ins_del {l m : List It} {c : Ca} (ho : okM l) (hc : c.ok = true) (hk : c.kd = 1) (he : (c.told l).1 = 0) (hm : m.map It.val = c.wrote l) : okM m ∧ th m c.key = true ∧ wv m 2 c.key [] 0 = l.map It.val := by
  have hom : okM m := by rw [okM_iff, hm]; exact wrote_ok ho hc
  have hw : c.wrote l = (l.map It.val).take (pl c.key l) ++ (c.key, c.bs) :: (l.map It.val).drop (pl c.key l) := by
    unfold Ca.wrote wv
    rw [if_pos ⟨he, hk⟩]
  have hlen : ((l.map It.val).take (pl c.key l)).length = pl c.key l := by
    have := pl_le c.key l
    simp
    omega
  have hp : pl c.key m = pl c.key l := by
    rw [pl_val, hm, hw, List.takeWhile_append_of_pos, List.takeWhile_cons_of_neg]
    · rw [List.append_nil, hlen]
    · simp
    · intro a ha
      rw [← List.map_take] at ha
      obtain ⟨it, hi, rfl⟩ := List.mem_map.1 ha
      exact decide_eq_true (pl_lt it hi)
  refine ⟨hom, ?_, ?_⟩
  · rw [th_val, hp, hm, hw, List.getElem?_append_right (by rw [hlen]; exact Nat.le_refl _), hlen]
    simp
  · unfold wv
    rw [if_neg (fun h => absurd h.2 (by decide)), if_pos ⟨rfl, rfl⟩, hp, hm, hw, List.take_left' hlen]
    have e : (List.take (pl c.key l) (l.map It.val) ++ (c.key, c.bs) :: List.drop (pl c.key l) (l.map It.val)).drop (pl c.key l + 1) = List.drop (pl c.key l) (l.map It.val) := by
      rw [List.drop_append, hlen, List.drop_of_length_le (by rw [hlen]; omega)]
      simp
    rw [e, List.take_append_drop]

end Go.Proofs.Ytfnpapaibgbjpaa
