/- A map of vectors to rows is ranged over: what has come so far. -/
import Derived.Test.YtfcmmchppcffmaaDoorGM
import Derived.Maps.RangeRun
import Derived.Maps.RangeWalk
namespace Go.Proofs.YtfcmmchppcffmaaDoor
open Go.RowKit Go.Maps Go.ChangeMaps

/-- Block r goes over the map m: the entries of these places have come. -/
def VRg (w : World) (m r : Nat) (L : List (Vc × Value)) (I : List Nat) : Prop :=
  ∃ es cl since seen c0, w.heap[m]? = some (.map es cl) ∧ es.toList.map (fun x => (x.key, x.val)) = L.map (fun x => (vv x.1, x.2)) ∧ MapKept.Stamped es cl ∧ w.heap[r]? = some (.mapIter (some m) since seen c0) ∧
    (∀ x ∈ es.toList, x.born < since) ∧ since ≤ c0 ∧ since ≤ cl ∧ I.Nodup ∧ (∀ i ∈ I, i < L.length) ∧ (∀ i (hi : i < es.toList.length), es.toList[i].born ∈ seen.toList ↔ i ∈ I)
theorem VRg.ne {w : World} {m r : Nat} {L : List (Vc × Value)} {I : List Nat} (h : VRg w m r L I) : r ≠ m := by
  rintro rfl
  obtain ⟨es, cl, since, seen, c0, h1, -, -, h2, -⟩ := h
  rw [h1] at h2
  cases h2
theorem VRg.lt {w : World} {m r : Nat} {L : List (Vc × Value)} {I : List Nat} (h : VRg w m r L I) : r < w.heap.size ∧ m < w.heap.size := by
  obtain ⟨es, cl, since, seen, c0, h1, -, -, h2, -⟩ := h
  exact ⟨lt_of_heap h2, lt_of_heap h1⟩
theorem VRg.kept {w w' : World} {m r : Nat} {L : List (Vc × Value)} {I : List Nat} (h : VRg w m r L I) (h1 : w'.heap[m]? = w.heap[m]?) (h2 : w'.heap[r]? = w.heap[r]?) : VRg w' m r L I := by
  obtain ⟨es, cl, since, seen, c0, g1, g2, g3, g4, g5⟩ := h
  exact ⟨es, cl, since, seen, c0, h1.trans g1, g2, g3, h2.trans g4, g5⟩
theorem VRg.below {w w' : World} {m r : Nat} {L : List (Vc × Value)} {I : List Nat} (h : VRg w m r L I) (hb : Below w.heap.size w w') : VRg w' m r L I := h.kept (hb.block _ h.lt.2) (hb.block _ h.lt.1)
theorem VRg.kp {S : List Nat} {w w' : World} {m r : Nat} {L : List (Vc × Value)} {I : List Nat} (h : VRg w m r L I) (hk : Kp S w w') (h1 : m ∉ S) (h2 : r ∉ S) : VRg w' m r L I := h.kept (hk.block _ h.lt.2 h1) (hk.block _ h.lt.1 h2)
theorem VRg.off {w : World} {m r b : Nat} {L : List (Vc × Value)} {I : List Nat} {cs : Array Value} {t : TypeId} (h : VRg w m r L I) (hb : w.heap[b]? = some (.cells cs t (0, 0))) : m ≠ b ∧ r ≠ b := by
  obtain ⟨es, cl, since, seen, c0, h1, -, -, h2, -⟩ := h
  constructor
  · rintro rfl
    rw [h1] at hb
    cases hb
  · rintro rfl
    rw [h2] at hb
    cases hb
theorem MV.range {w : World} {m : Nat} {L : List (Vc × Value)} (h : MV w m L) : ∃ w', (Instr.range 70 (.map (some m))).run Tryd.prog w = .ok (.pointer (some ⟨w.heap.size, 0, none⟩)) w' ∧ VRg w' m w.heap.size L [] ∧ Below w.heap.size w w' := by
  have hlt := h.lt
  obtain ⟨es, cl, h1, h2, h3, h4⟩ := h
  refine ⟨_, run_range_map w _ _ _ m es cl mapT h1, ⟨es, cl, cl, #[], cl, ?_, h2, h3, heap_new w _, ((MapKept.stamped_iff es cl).1 h3).1, Nat.le_refl _, Nat.le_refl _, by simp, by simp, by simp⟩, (Below.refl _ w).alloc (Nat.le_refl _) _⟩
  exact (((Below.refl w.heap.size w).alloc (Nat.le_refl _) _).block m hlt).trans h1
theorem len_of {es : Array MapEntry} {L : List (Vc × Value)} (h : es.toList.map (fun x => (x.key, x.val)) = L.map (fun x => (vv x.1, x.2))) : es.toList.length = L.length := by
  have := congrArg List.length h
  simpa using this
theorem born_one {l : List MapEntry} (hn : (l.map (·.born)).Nodup) {i j : Nat} (hi : i < l.length) (hj : j < l.length) (h : l[i].born = l[j].born) : i = j := by
  have hp := List.pairwise_iff_getElem.1 (List.pairwise_map.1 hn)
  rcases Nat.lt_trichotomy i j with q | q | q
  · exact absurd h (hp i j hi hj q)
  · exact q
  · exact absurd h.symm (hp j i hj hi q)
/-- The step. -/
theorem VRg.next {w : World} {m r : Nat} {L : List (Vc × Value)} {I : List Nat} (h : VRg w m r L I) (ty : TypeId) :
    ((∀ i, i < L.length → i ∈ I) ∧ (Instr.next (.pointer (some ⟨r, 0, none⟩)) false ty).run Tryd.prog w = .ok (.tuple #[.bool false]) w) ∨
    ∃ (i : Nat) (v : Vc) (rb : Value) (w' : World), i ∉ I ∧ L[i]? = some (v, rb) ∧ (Instr.next (.pointer (some ⟨r, 0, none⟩)) false ty).run Tryd.prog w = .ok (.tuple #[.bool true, vv v, rb]) w' ∧
      (Instr.entry (.pointer (some ⟨r, 0, none⟩))).run Tryd.prog w' = .ok (.tuple #[vv v, rb]) w' ∧ VRg w' m r L (I ++ [i]) ∧ Kp [r] w w' := by
  have hne := h.ne
  have hlts := h.lt
  obtain ⟨es, cl, since, seen, c0, h1, h2, h3, h4, h5, h6, hsc, h7, h8, h9⟩ := h
  have hlen := len_of h2
  have hst := (MapKept.stamped_iff es cl).1 h3
  rcases run_next_at (P := Tryd.prog) w ty r m since c0 seen es cl h4 h1 h5 h6 with ⟨g1, g2⟩ | ⟨e, he, w1, hal, hrun⟩
  · refine Or.inl ⟨fun i hi => ?_, g2⟩
    have hi2 : i < es.toList.length := by omega
    rw [← h9 i hi2]
    have hx : leftOf es seen = #[] := Array.eq_empty_of_size_eq_zero g1
    unfold leftOf at hx
    rw [Array.filter_eq_empty_iff] at hx
    have := hx es.toList[i] (by simp)
    simpa using this
  · have hem : e ∈ es.toList ∧ e.born ∉ seen.toList := by
      unfold leftOf at he
      simp at he
      exact ⟨by simpa using he.1, by simpa using he.2⟩
    obtain ⟨i, hi, rfl⟩ := List.getElem_of_mem hem.1
    have hi2 : i < L.length := by omega
    obtain ⟨⟨v, rb⟩, hL⟩ : ∃ p, L[i]? = some p := ⟨L[i], List.getElem?_eq_getElem hi2⟩
    have hkv : (es.toList.map (fun x => (x.key, x.val)))[i]? = (L.map (fun x => (vv x.1, x.2)))[i]? := by rw [h2]
    rw [List.getElem?_map, List.getElem?_map, List.getElem?_eq_getElem hi, hL] at hkv
    simp only [Option.map_some, Option.some.injEq, Prod.mk.injEq] at hkv
    obtain ⟨k1, k2⟩ := hkv
    have hnI : i ∉ I := fun q => hem.2 ((h9 i hi).2 q)
    have hw1 : w1.heap = w.heap ∧ w1.os = w.os ∧ w1.tape = w.tape ∧ w1.output = w.output := by rcases hal with rfl | rfl <;> exact ⟨rfl, rfl, rfl, rfl⟩
    have hr : (setBlock w1 r (.mapIter (some m) since (seen.push es.toList[i].born) cl)).heap[r]? = some (.mapIter (some m) since (seen.push es.toList[i].born) cl) := heap_setBlock _ (by rw [hw1.1]; exact hlts.1)
    have hm : (setBlock w1 r (.mapIter (some m) since (seen.push es.toList[i].born) cl)).heap[m]? = some (.map es cl) := by
      rw [(grown_setBlock w1 r _).block m (by rw [hw1.1]; exact hlts.2) (by simp; exact fun e => hne e.symm), hw1.1]
      exact h1
    rw [k1, k2] at hrun
    refine Or.inr ⟨i, v, rb, _, hnI, hL, hrun, ?_, ⟨es, cl, since, _, cl, hm, h2, h3, hr, h5, ?_, ?_, ?_, ?_, ?_⟩, ?_⟩
    · have := run_entry_at (P := Tryd.prog) _ r m since seen es cl es.toList[i] hr hm (List.getElem_mem hi) hst.2.1
      rw [k1, k2] at this
      exact this
    · exact hsc
    · exact hsc
    · rw [List.nodup_append]
      exact ⟨h7, by simp, fun a ha b hb => by simp at hb; subst hb; exact fun e => hnI (e ▸ ha)⟩
    · intro j hj
      rcases List.mem_append.1 hj with hj | hj
      · exact h8 j hj
      · simp at hj
        omega
    · intro j hj
      simp only [Array.toList_push, List.mem_append, List.mem_cons, List.not_mem_nil, or_false]
      rw [h9 j hj]
      constructor
      · rintro (q | q)
        · exact Or.inl q
        · exact Or.inr (born_one hst.2.1 hj hi q)
      · rintro (q | q)
        · exact Or.inl q
        · exact Or.inr (by subst q; rfl)
    · have g := grown_setBlock w1 r (.mapIter (some m) since (seen.push es.toList[i].born) cl)
      refine ⟨g.os.trans hw1.2.1, g.tape.trans hw1.2.2.1, g.output.trans hw1.2.2.2, by have := g.size; rw [hw1.1] at this; exact this, fun k hk hn => ?_⟩
      rw [g.block k (by rw [hw1.1]; exact hk) (by simp; exact fun e => hn (by simp [e])), hw1.1]
/-- All have come: they are the map's entries, in some order. -/
theorem perm_range {n : Nat} {I : List Nat} (h1 : I.Nodup) (h2 : ∀ i ∈ I, i < n) (h3 : ∀ i, i < n → i ∈ I) : I.Perm (List.range n) := by
  rw [List.perm_iff_count]
  intro a
  by_cases ha : a < n
  · rw [List.Nodup.count h1, List.Nodup.count List.nodup_range]
    simp [h3 a ha, ha]
  · rw [List.count_eq_zero.2 (fun q => ha (h2 a q)), List.count_eq_zero.2 (by simpa using ha)]

end Go.Proofs.YtfcmmchppcffmaaDoor
