/- Going left, level by level: plain facts. -/
import Derived.Test.YtfcmmchppcffmaaDoorGO
namespace Go.Proofs.YtfcmmchppcffmaaDoor
open Go.RowKit Go.Maps Go.ChangeMaps

theorem nodup_inj {l : List Int} (hn : l.Nodup) {i j : Nat} (hi : i < l.length) (hj : j < l.length) (h : l[i] = l[j]) : i = j := by
  unfold List.Nodup at hn
  rw [List.pairwise_iff_getElem] at hn
  rcases Nat.lt_trichotomy i j with e | e | e
  · exact absurd h (hn i j hi hj e)
  · exact e
  · exact absurd h.symm (hn j i hj hi e)
theorem mem_tw {α : Type} {p : α → Bool} : ∀ {l : List α} {x : α}, x ∈ l.takeWhile p → p x = true
  | [], x, h => by simp at h
  | a :: l, x, h => by
    rw [List.takeWhile_cons] at h
    split at h
    · rename_i hp
      rcases List.mem_cons.1 h with rfl | h
      · exact hp
      · exact mem_tw h
    · simp at h
/-- Members as a graph has them. -/
structure Mem (h : Int) (m : List Rf) : Prop where
  h0 : 0 ≤ h
  h32 : h ≤ 32
  len : m.length ≤ 1000
  ok : ∀ r ∈ m, mayR h r = true ∧ 0 ≤ r.bt
  ids : (m.map (·.id)).Nodup
theorem Mem.of {h : Int} {l m : List Rf} (hg : okG h l) (hbt : ∀ x ∈ l, 0 ≤ x.bt) (hl : l.length ≤ 1000) (hp : m.Perm l) : Mem h m :=
  ⟨hg.1.1, hg.1.2, by rw [hp.length_eq]; exact hl, perm_ok hg hbt hp, ((hp.map _).nodup_iff).2 hg.2.1.2⟩
/-- One of a graph: its vector is of the height. -/
def okR (h : Int) (r : Rf) : Prop := rt r.ln r.bt = true ∧ 0 ≤ r.bt ∧ r.ln = h
theorem Mem.end_ok {h : Int} {m : List Rf} (M : Mem h m) : okR h (hdR h) ∧ okR h (tlR h) := by
  have : rt h 0 = true := decide_eq_true ⟨M.h0, M.h32, Int.pow_pos (by omega)⟩
  exact ⟨⟨this, by simp [hdR], rfl⟩, ⟨this, by simp [tlR], rfl⟩⟩
theorem Mem.mem_ok {h : Int} {m : List Rf} (M : Mem h m) {r : Rf} (hr : r ∈ m) : okR h r := ⟨(mayR_rt (M.ok r hr).1).1, (M.ok r hr).2, (mayR_rt (M.ok r hr).1).2⟩
theorem Mem.row_ok {h : Int} {m : List Rf} (M : Mem h m) {k : Int} {u : Vc} {r : Rf} (hr : r ∈ rowL h (flt k u m)) : okR h r := by
  unfold rowL flt at hr
  simp only [List.mem_cons, List.mem_append, List.not_mem_nil, or_false, List.mem_filter] at hr
  rcases hr with rfl | hr | rfl
  · exact M.end_ok.1
  · exact M.mem_ok hr.1
  · exact M.end_ok.2
theorem Mem.row_ids {h : Int} {m : List Rf} (M : Mem h m) (k : Int) (u : Vc) : ((rowL h (flt k u m)).map (·.id)).Nodup := by
  unfold rowL
  rw [List.map_cons, List.map_append, List.nodup_cons]
  have hsub : ((flt k u m).map (·.id)).Nodup := M.ids.sublist (List.Sublist.map _ List.filter_sublist)
  have hge : ∀ x ∈ flt k u m, 2 ≤ x.id := fun x hx => (mayR_id (M.ok x (List.mem_filter.1 hx).1).1).1
  refine ⟨?_, ?_⟩
  · intro hm
    rcases List.mem_append.1 hm with hm | hm
    · obtain ⟨x, hx, e⟩ := List.mem_map.1 hm
      have := hge x hx
      simp [hdR] at e
      omega
    · simp [hdR, tlR] at hm
  · rw [List.nodup_append]
    refine ⟨hsub, by simp, fun a ha b hb => ?_⟩
    obtain ⟨x, hx, rfl⟩ := List.mem_map.1 ha
    have := hge x hx
    simp [tlR] at hb
    omega
/-- Where one of a list stands. -/
theorem Mem.pos {h : Int} {m : List Rf} (M : Mem h m) {k : Int} {u : Vc} {r : Rf} (hr : r ∈ rowL h (flt k u m)) : ∃ i, ∃ hi : i < (rowL h (flt k u m)).length, plI r.id (rowL h (flt k u m)) = (i : Int) ∧ (rowL h (flt k u m))[i] = r := by
  obtain ⟨j, hj, hjr⟩ := List.getElem_of_mem hr
  rcases plI_cases r.id (rowL h (flt k u m)) with ⟨-, h1⟩ | ⟨i, hi, h1, h2⟩
  · exact absurd rfl (h1 r hr)
  · refine ⟨i, hi, h1, ?_⟩
    have hn := M.row_ids k u
    have e : i = j := by
      have h3 : ((rowL h (flt k u m)).map (·.id))[i]'(by simpa using hi) = ((rowL h (flt k u m)).map (·.id))[j]'(by simpa using hj) := by
        rw [List.getElem_map, List.getElem_map, h2, hjr]
      exact nodup_inj hn _ _ h3
    subst e
    exact hjr
theorem flt_zero (m : List Rf) (hm : ∀ r ∈ m, rt r.ln r.bt = true ∧ 0 ≤ r.bt) (u : Rf) (hu : rt u.ln u.bt = true ∧ 0 ≤ u.bt) : flt 0 (prV 0 u) m = m := by
  have pz : ∀ r : Rf, rt r.ln r.bt = true ∧ 0 ≤ r.bt → prV 0 r = (0, 0) := fun r hr => by
    have h := of_decide_eq_true hr.1
    unfold prV pre
    have h2 : r.bt.toNat < 2 ^ r.ln.toNat := by
      have h4 := h.2.2
      have h5 : ((r.bt.toNat : Nat) : Int) < ((2 ^ r.ln.toNat : Nat) : Int) := by
        rw [Int.toNat_of_nonneg hr.2]
        simpa using h4
      omega
    simp [Nat.div_eq_of_lt h2]
  unfold flt
  rw [List.filter_eq_self]
  intro r hr
  rw [pz r (hm r hr), pz u hu]
  simp
/-- A search that goes left stands on one that is not below its target. -/
def InvL (h : Int) (m : List Rf) (tg r : Rf) : Prop := (r ∈ m ∨ r = tlR h) ∧ ¬keyLt r tg
theorem InvL.row {h : Int} {m : List Rf} {tg r : Rf} (I : InvL h m tg r) (k : Int) : r ∈ rowL h (flt k (prV k r) m) := by
  unfold rowL
  rcases I.1 with hr | rfl
  · refine List.mem_cons_of_mem _ (List.mem_append_left _ ?_)
    unfold flt
    exact List.mem_filter.2 ⟨hr, by simp⟩
  · simp
/-- One level of a search that goes left: those onto which it comes. -/
def stepL (h : Int) (m : List Rf) (tg : Rf) (k : Int) (r : Rf) : List Rf :=
  lfL (rowL h (flt k (prV k r) m)) tg (plI r.id (rowL h (flt k (prV k r) m))).toNat ++ (if k = 0 then [(rowL h (flt k (prV k r) m)).getD ((plI r.id (rowL h (flt k (prV k r) m))).toNat - (lfL (rowL h (flt k (prV k r) m)) tg (plI r.id (rowL h (flt k (prV k r) m))).toNat).length - 1) zr] else [])
/-- All levels from one down: the hops, and where it stands then. -/
def goL (h : Int) (m : List Rf) (tg : Rf) : Nat → Rf → List Hp × Rf
  | 0, r => ((stepL h m tg 0 r).map (fun x => (0, x)), (stepL h m tg 0 r).getLastD r)
  | n + 1, r => ((stepL h m tg ((n + 1 : Nat) : Int) r).map (fun x => (((n + 1 : Nat) : Int), x)) ++ (goL h m tg n ((stepL h m tg ((n + 1 : Nat) : Int) r).getLastD r)).1, (goL h m tg n ((stepL h m tg ((n + 1 : Nat) : Int) r).getLastD r)).2)
theorem mem_lfL {ro : List Rf} {tg x : Rf} {i : Nat} (hx : x ∈ lfL ro tg i) : x ∈ ro ∧ ¬keyLt x tg := by
  unfold lfL at hx
  have h1 := mem_tw hx
  have h2 := (List.takeWhile_sublist (p := fun x => !decide (keyLt x tg)) (l := (ro.take i).reverse)).subset hx
  exact ⟨List.mem_of_mem_take (by simpa using h2), by simpa using h1⟩
/-- What is known of a search that goes left at one level. -/
theorem InvL.at {h : Int} {m : List Rf} (M : Mem h m) {tg r : Rf} (I : InvL h m tg r) (hh : keyLt (hdR h) tg) (k : Int) : ∃ i, ∃ hi : i < (rowL h (flt k (prV k r) m)).length, plI r.id (rowL h (flt k (prV k r) m)) = (i : Int) ∧ (rowL h (flt k (prV k r) m))[i] = r ∧ 0 < i ∧ (∃ j, ∃ hj : j < (rowL h (flt k (prV k r) m)).length, j < i ∧ keyLt (rowL h (flt k (prV k r) m))[j] tg) := by
  obtain ⟨i, hi, h1, h2⟩ := M.pos (I.row k)
  have h0 : 0 < i := by
    rcases Nat.eq_zero_or_pos i with e | e
    · subst e
      have h3 : (rowL h (flt k (prV k r) m))[0] = hdR h := rfl
      rw [h3] at h2
      rw [← h2] at I
      exact absurd hh I.2
    · exact e
  exact ⟨i, hi, h1, h2, h0, 0, by omega, h0, hh⟩
theorem InvL.next {h : Int} {m : List Rf} {tg r : Rf} (I : InvL h m tg r) (hh : keyLt (hdR h) tg) {k : Int} (hk : k ≠ 0) : InvL h m tg ((stepL h m tg k r).getLastD r) := by
  unfold stepL
  rw [if_neg hk, List.append_nil]
  rcases List.eq_nil_or_concat (lfL (rowL h (flt k (prV k r) m)) tg (plI r.id (rowL h (flt k (prV k r) m))).toNat) with e | ⟨ys, y, e⟩
  · rw [e]; exact I
  · have hy : y ∈ lfL (rowL h (flt k (prV k r) m)) tg (plI r.id (rowL h (flt k (prV k r) m))).toNat := by rw [e]; simp
    rw [e]
    simp only [List.concat_eq_append, List.getLastD_concat]
    obtain ⟨h1, h2⟩ := mem_lfL hy
    refine ⟨?_, h2⟩
    unfold rowL flt at h1
    simp only [List.mem_cons, List.mem_append, List.not_mem_nil, or_false, List.mem_filter] at h1
    rcases h1 with rfl | h1 | rfl
    · exact absurd hh h2
    · exact Or.inl h1.1
    · exact Or.inr rfl

end Go.Proofs.YtfcmmchppcffmaaDoor
