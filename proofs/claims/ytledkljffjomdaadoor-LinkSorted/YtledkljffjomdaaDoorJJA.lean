/- What All's row tells of each record. -/
import Derived.Test.YtledkljffjomdaaDoorKG
import Derived.Test.YtledkljffjomdaaDoorJT
namespace Go.Proofs.YtledkljffjomdaaDoor
open Go.RowKit Go.Maps

theorem RsRow.cellS {w : World} {g n cp : Nat} {As : List Sx} (h : RsRow w (.slice (some ⟨g, 0, none⟩) n cp) As) (hn : As.length = n) {i : Nat} (hi : i < As.length) {c : Nat} (hc : c < 16) : w.cell? ⟨g, i * 16 + c, none⟩ = (encS As[i])[c]? := by
  have h1 := h.row
  rw [hn] at h1
  have hj : i * 16 + c < n * 16 := by omega
  rw [h1.cellAt (i * 16 + c) hj, flatS_get _ _ (by omega)]
  have e1 : (i * 16 + c) / 16 = i := by omega
  have e2 : (i * 16 + c) % 16 = c := by omega
  have e3 : As.toArray[i]! = As[i] := by simp [hi]
  rw [e1, e2, e3]
  have hl : c < (encS As[i]).length := by rw [encS_len]; exact hc
  rw [List.getElem?_eq_getElem hl, getElem!_pos (encS As[i]) c hl]

/-- What is true of a record of a table. -/
structure Fx (me : Rf) (x : Sx) : Prop where
  may : may me x.1.1.1 = true
  l : sideL me x.1.1.2.1
  r : sideR me x.1.1.2.2.1
  held : x.1.1.2.2.2.1 = false → x.1.2.2.1 = 0
theorem fx_all {me : Rf} {L : Tb} {As : List Sx} {w : World} {v : Value} (hok : OkS me L) (hp : (As.map (·.1.1)).Perm (L.map (fun e => stA e.1 e.2.cn))) (hr : RsRow w v As) : ∀ x ∈ As, Fx me x := by
  intro x hx
  have h1 : x.1.1 ∈ As.map (·.1.1) := List.mem_map_of_mem hx
  obtain ⟨e, he, hxe⟩ := List.mem_map.1 (hp.mem_iff.1 h1)
  obtain ⟨-, h1, h2, h3⟩ := hok e he
  obtain ⟨a, c, hs, -, -⟩ := (hr.qs x hx).shape
  injection hs with _ hl _
  refine ⟨?_, ?_, ?_, fun hh => ?_⟩
  · rw [← hxe]; exact h1
  · rw [← hxe]; exact h2
  · rw [← hxe]; exact h3
  · rw [hl]
    rw [← hxe] at hh ⊢
    simp only [stA, decide_eq_false_iff_not, Nat.not_lt] at hh ⊢
    rw [List.length_tail]
    omega
theorem keys_apart {L : Tb} {As : List Sx} (hnd : (L.map (·.1)).Nodup) (hp : (As.map (·.1.1)).Perm (L.map (fun e => stA e.1 e.2.cn))) : ∀ (i k : Nat) (hi : i < As.length) (hk : k < i), (As[k]'(by omega)).1.1.1 ≠ As[i].1.1.1 := by
  have h1 : (As.map (fun x => x.1.1.1)).Perm (L.map (·.1)) := by
    have := hp.map (fun s : RSt => s.1)
    rw [List.map_map, List.map_map] at this
    exact this
  have h2 := List.pairwise_iff_getElem.1 (h1.nodup_iff.2 hnd)
  intro i k hi hk e
  refine h2 k i (by simp; omega) (by simpa using hi) hk ?_
  simpa using e
theorem may_rt {me : Rf} {v : Vc} (h : may me v = true) : rt v.1 v.2 = true := by
  unfold may mayA at h
  split at h
  · unfold bgS at h
    simp only [Bool.and_eq_true] at h
    exact h.1.1.2
  · simp only [Bool.and_eq_true] at h
    exact h.1
theorem LK.pos {w : World} {base p m : Nat} {me : Rf} {L : Tb} (h : LK w base p m me L) : ∀ e ∈ L, 0 ≤ e.1.2 := by
  intro e he
  obtain ⟨es, cl, -, -, -, h4⟩ := h.map
  exact okV.pos (h4 (pair e) (List.mem_map_of_mem he))
theorem sideL_far {me x : Rf} (h : sideL me x) (hn : ¬ (x = (0, 0, 0, 0, 0) ∧ me.2.1 = 1)) : (x.1 == 0 && (x.2.1 == 0 && x.2.2.1 == 0) && (x.2.2.2.1 == 0 && x.2.2.2.2 == 0)) = false ∧ ckE x.2.1 x.2.2.1 = 0 ∧ klt (x.2.1, x.2.2.1) (me.2.1, me.2.2.1) = true := by
  rcases h with h | h
  · exact absurd h hn
  · unfold toL at h
    simp only [Bool.and_eq_true, decide_eq_true_eq] at h
    refine ⟨?_, h.1, h.2⟩
    have hz : ¬ (x.2.1 = 0 ∧ x.2.2.1 = 0) := fun hz => by rw [hz.1, hz.2] at h; exact absurd h.1 (by decide)
    cases hb : (x.1 == 0 && (x.2.1 == 0 && x.2.2.1 == 0) && (x.2.2.2.1 == 0 && x.2.2.2.2 == 0)) with
    | false => rfl
    | true =>
      simp only [Bool.and_eq_true, beq_iff_eq] at hb
      exact absurd hb.1.2 hz
theorem sideR_far {me x : Rf} (h : sideR me x) (hn : ¬ (x = (0, 0, 0, 0, 0) ∧ me.2.1 = 3)) : (x.1 == 0 && (x.2.1 == 0 && x.2.2.1 == 0) && (x.2.2.2.1 == 0 && x.2.2.2.2 == 0)) = false ∧ ckE x.2.1 x.2.2.1 = 0 ∧ klt (me.2.1, me.2.2.1) (x.2.1, x.2.2.1) = true := by
  rcases h with h | h
  · exact absurd h hn
  · unfold toR at h
    simp only [Bool.and_eq_true, decide_eq_true_eq] at h
    refine ⟨?_, h.1, h.2⟩
    have hz : ¬ (x.2.1 = 0 ∧ x.2.2.1 = 0) := fun hz => by rw [hz.1, hz.2] at h; exact absurd h.1 (by decide)
    cases hb : (x.1 == 0 && (x.2.1 == 0 && x.2.2.1 == 0) && (x.2.2.2.1 == 0 && x.2.2.2.2 == 0)) with
    | false => rfl
    | true =>
      simp only [Bool.and_eq_true, beq_iff_eq] at hb
      exact absurd hb.1.2 hz

end Go.Proofs.YtledkljffjomdaaDoor
