/- What a sorted row of keys, each once, is: one list alone. -/
import Derived.Test.YtidgkaephikjaaaDoorSF
namespace Go.Proofs.YtidgkaephikjaaaDoor
open Go.Shelf Go.RowKit Go.Lib Go.Sort

/-- Rising, each once. -/
def Rises (l : List (Int × Int)) : Prop := l.Pairwise (fun a b => klt a b = true)

theorem compact_rises {d : Array (Int × Int)} (hs : SortedIn klt 0 d.size d) : Rises (compactUpTo d d.size) := by
  unfold Rises compactUpTo
  rw [List.pairwise_map]
  have h1 : ((List.range d.size).filter (keeps d)).Pairwise (· < ·) := List.Pairwise.filter _ List.pairwise_lt_range
  refine h1.imp_of_mem ?_
  intro i j hi hj hij
  obtain ⟨hj1, hj2⟩ := List.mem_filter.1 hj
  have hjs : j < d.size := List.mem_range.1 hj1
  have kj : d[j]! ≠ d[j - 1]! := by
    intro e
    rw [keeps_neg (by omega) e] at hj2
    cases hj2
  have s1 : klt d[j]! d[j - 1]! = false := hs (j - 1) j (Nat.zero_le _) (by omega) hjs
  have s2 : klt d[j - 1]! d[i]! = false := by
    rcases (by omega : i = j - 1 ∨ i < j - 1) with e | e
    · rw [e, klt_false]; omega
    · exact hs i (j - 1) (Nat.zero_le _) e (by omega)
  have kj2 : ¬ (d[j]!.1 = d[j - 1]!.1 ∧ d[j]!.2 = d[j - 1]!.2) := fun h => kj (Prod.ext h.1 h.2)
  rw [klt_false] at s1 s2
  rw [klt_iff]
  omega

theorem compact_mem (d : Array (Int × Int)) (x : Int × Int) : ∀ m, x ∈ compactUpTo d m ↔ ∃ j, j < m ∧ d[j]! = x
  | 0 => by simp [compactUpTo]
  | m + 1 => by
    rw [compactUpTo_succ, List.mem_append, compact_mem d x m]
    constructor
    · rintro (⟨j, hj, e⟩ | h)
      · exact ⟨j, by omega, e⟩
      · by_cases hk : keeps d m = true
        · rw [if_pos hk] at h
          exact ⟨m, by omega, (List.mem_singleton.1 h).symm⟩
        · rw [if_neg hk] at h; cases h
    · rintro ⟨j, hj, e⟩
      rcases (by omega : j < m ∨ j = m) with h | h
      · exact Or.inl ⟨j, h, e⟩
      · subst h
        by_cases hk : keeps d j = true
        · right; rw [if_pos hk, e]; exact List.mem_singleton.2 rfl
        · left
          have h0 : j ≠ 0 := fun h0 => hk (keeps_lt_one d j (by omega))
          refine ⟨j - 1, by omega, ?_⟩
          by_cases e2 : d[j]! = d[j - 1]!
          · rw [← e2]; exact e
          · exact absurd (keeps_pos e2) hk

theorem sortedOf_rises {l S : List (Int × Int)} (h : SortedOf l S) : Rises S ∧ ∀ x, x ∈ S ↔ x ∈ l := by
  obtain ⟨d', hp, hs, rfl⟩ := h
  have hsz : d'.size = l.length := by rw [hp.1]; simp
  have e1 : d'.extract 0 l.length = d' := by rw [← hsz]; simp
  have e2 : l.toArray.extract 0 l.length = l.toArray := by
    have : l.length = l.toArray.size := by simp
    rw [this]; simp
  have hperm := hp.2.2
  rw [e1, e2] at hperm
  refine ⟨compact_rises (by rw [hsz]; exact hs), fun x => ?_⟩
  rw [compact_mem]
  have hm : x ∈ d'.toList ↔ x ∈ l := by simpa using hperm.mem_iff (a := x)
  rw [← hm, List.mem_iff_getElem]
  constructor
  · rintro ⟨j, hj, e⟩
    exact ⟨j, by simpa using hj, by rw [← e, getElem!_pos d' j hj]; simp⟩
  · rintro ⟨j, hj, e⟩
    have hj' : j < d'.size := by simpa using hj
    exact ⟨j, hj', by rw [← e, getElem!_pos d' j hj']; simp⟩

theorem klt_irrefl (x : Int × Int) : klt x x = false := by rw [klt_false]; omega
theorem klt_asymm {x y : Int × Int} (h : klt x y = true) : klt y x = false := by rw [klt_iff] at h; rw [klt_false]; omega

theorem rises_ext : ∀ (a b : List (Int × Int)), Rises a → Rises b → (∀ x, x ∈ a ↔ x ∈ b) → a = b
  | [], [], _, _, _ => rfl
  | [], y :: b, _, _, h => by have := (h y).2 (List.mem_cons_self ..); cases this
  | x :: a, [], _, _, h => by have := (h x).1 (List.mem_cons_self ..); cases this
  | x :: a, y :: b, ha, hb, h => by
    obtain ⟨ha1, ha2⟩ := List.pairwise_cons.1 ha
    obtain ⟨hb1, hb2⟩ := List.pairwise_cons.1 hb
    have exy : x = y := by
      rcases List.mem_cons.1 ((h x).1 (List.mem_cons_self ..)) with e | e
      · exact e
      · rcases List.mem_cons.1 ((h y).2 (List.mem_cons_self ..)) with e' | e'
        · exact e'.symm
        · have := klt_asymm (hb1 x e)
          rw [ha1 y e'] at this; cases this
    subst exy
    congr 1
    refine rises_ext a b ha2 hb2 fun z => ?_
    have hz := h z
    constructor
    · intro hza
      rcases List.mem_cons.1 (hz.1 (List.mem_cons_of_mem _ hza)) with e | e
      · subst e; have := ha1 z hza; rw [klt_irrefl] at this; cases this
      · exact e
    · intro hzb
      rcases List.mem_cons.1 (hz.2 (List.mem_cons_of_mem _ hzb)) with e | e
      · subst e; have := hb1 z hzb; rw [klt_irrefl] at this; cases this
      · exact e

end Go.Proofs.YtidgkaephikjaaaDoor
