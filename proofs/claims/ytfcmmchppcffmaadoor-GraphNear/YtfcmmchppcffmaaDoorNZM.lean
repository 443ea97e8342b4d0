/- What a member more changes (maths). -/
import Derived.Test.YtfcmmchppcffmaaDoorNF
namespace Go.Proofs.YtfcmmchppcffmaaDoor
open Go.RowKit Go.Maps

theorem near_split {l m m2 : List Rf} {x : Rf} (hp : m.Perm l) (hs : m.Pairwise keyLt) (hp2 : m2.Perm (l ++ [x])) (hs2 : m2.Pairwise keyLt) : ∃ A B, m = A ++ B ∧ m2 = A ++ x :: B := by
  have hx : x ∈ m2 := hp2.mem_iff.2 (by simp)
  obtain ⟨A, B, rfl⟩ := List.append_of_mem hx
  refine ⟨A, B, ?_, rfl⟩
  have q1 : (x :: (A ++ B)).Perm (x :: l) := (List.perm_middle.symm.trans hp2).trans (List.perm_append_comm.trans (List.Perm.refl _))
  have q2 : (A ++ B).Perm l := List.Perm.cons_inv q1
  have q3 : (A ++ B).Pairwise keyLt := hs2.sublist (List.Sublist.append (List.Sublist.refl A) (List.sublist_cons_self x B))
  exact sorted_one hp q2 hs q3
theorem nr_low (A B : List Rf) (x : Rf) (i : Nat) (h : i + 1 < A.length) : besL (A ++ B) i = besL (A ++ x :: B) i ∧ besR (A ++ B) i = besR (A ++ x :: B) i := by
  unfold besL besR
  simp only [List.getD_eq_getElem?_getD]
  refine ⟨?_, ?_⟩
  · by_cases h0 : i = 0
    · rw [if_pos h0, if_pos h0]
    · rw [if_neg h0, if_neg h0, List.getElem?_append_left (by omega), List.getElem?_append_left (by omega)]
  · rw [List.getElem?_append_left h, List.getElem?_append_left h]
theorem nr_high (A B : List Rf) (x : Rf) (i : Nat) (h : A.length < i) : besL (A ++ B) i = besL (A ++ x :: B) (i + 1) ∧ besR (A ++ B) i = besR (A ++ x :: B) (i + 1) := by
  unfold besL besR
  simp only [List.getD_eq_getElem?_getD]
  refine ⟨?_, ?_⟩
  · rw [if_neg (by omega), if_neg (by omega), List.getElem?_append_right (by omega), List.getElem?_append_right (by omega), show i + 1 - 1 - A.length = (i - 1 - A.length) + 1 by omega, List.getElem?_cons_succ]
  · rw [List.getElem?_append_right (by omega), List.getElem?_append_right (by omega), show i + 1 + 1 - A.length = (i + 1 - A.length) + 1 by omega, List.getElem?_cons_succ]
theorem nr_at (A B : List Rf) (x : Rf) (ha : 0 < A.length) (hb : 0 < B.length) : besL (A ++ x :: B) A.length = (A ++ B)[A.length - 1]'(by rw [List.length_append]; omega) ∧ besR (A ++ x :: B) A.length = (A ++ B)[A.length]'(by rw [List.length_append]; omega) := by
  unfold besL besR
  simp only [List.getD_eq_getElem?_getD]
  refine ⟨?_, ?_⟩
  · rw [if_neg (by omega), List.getElem?_append_left (by omega), List.getElem_append_left (by omega), List.getElem?_eq_getElem (by omega)]
    rfl
  · rw [List.getElem?_append_right (by omega), List.getElem_append_right (by omega), show A.length + 1 - A.length = 0 + 1 by omega, List.getElem?_cons_succ]
    simp [List.getElem?_eq_getElem hb]
theorem flt_app2 (k : Int) (u : Vc) (l m : List Rf) : flt k u (l ++ m) = flt k u l ++ flt k u m := by unfold flt; rw [List.filter_append]
theorem flt_one (k : Int) (u : Vc) (x : Rf) (l : List Rf) : flt k u (x :: l) = (if prV k x = u then [x] else []) ++ flt k u l := by
  unfold flt
  by_cases h : prV k x = u <;> simp [h]
theorem besE_at {h : Int} {u : Vc} {m : List Rf} (hu : (rt u.1 u.2 && decide (u.1 ≤ h)) = true) {d : Int} {i : Nat} (hi : plI d (rowL h (flt u.1 u m)) = (i : Int)) : besE h u d m = (besL (rowL h (flt u.1 u m)) i, besR (rowL h (flt u.1 u m)) i, 0) := by
  unfold besE
  rw [if_pos hu, hi, if_neg (by omega), Int.toNat_natCast]
/-- A member more: it is in its own lists alone; who does not stand beside it there keeps those beside. -/
theorem near {h : Int} {A B : List Rf} {x : Rf} (M : Mem h (A ++ B)) (M2 : Mem h (A ++ x :: B)) {u : Vc} (hu : (rt u.1 u.2 && decide (u.1 ≤ h)) = true) :
    ((besE h u x.id (A ++ x :: B)).2.2 = 0 ↔ prV u.1 x = u) ∧ ∀ r ∈ rowL h (flt u.1 u (A ++ B)), (besE h u r.id (A ++ B)).2.2 = 0 ∧ (besE h u r.id (A ++ x :: B)).2.2 = 0 ∧
      (¬((besE h u x.id (A ++ x :: B)).2.2 = 0 ∧ (r = (besE h u x.id (A ++ x :: B)).1 ∨ r = (besE h u x.id (A ++ x :: B)).2.1)) → (besE h u r.id (A ++ B)).1 = (besE h u r.id (A ++ x :: B)).1 ∧ (besE h u r.id (A ++ B)).2.1 = (besE h u r.id (A ++ x :: B)).2.1) := by
  have hE : rowL h (flt u.1 u (A ++ B)) = (hdR h :: flt u.1 u A) ++ (flt u.1 u B ++ [tlR h]) := by rw [flt_app2]; simp [rowL]
  have hxm : x ∈ A ++ x :: B := by simp
  by_cases hv : prV u.1 x = u
  · have hE2 : rowL h (flt u.1 u (A ++ x :: B)) = (hdR h :: flt u.1 u A) ++ x :: (flt u.1 u B ++ [tlR h]) := by rw [flt_app2, flt_one, if_pos hv]; simp [rowL]
    have P1 := fun i hi => pos_at M (k := u.1) (u := u) (i := i) hi
    have P2 := fun i hi => pos_at M2 (k := u.1) (u := u) (i := i) hi
    have Q1 := fun d i hi => besE_at (m := A ++ B) hu (d := d) (i := i) hi
    have Q2 := fun d i hi => besE_at (m := A ++ x :: B) hu (d := d) (i := i) hi
    rw [hE] at P1 Q1
    rw [hE2] at P2 Q2
    rw [hE]
    have ha : 0 < (hdR h :: flt u.1 u A).length := by simp
    have hb : 0 < (flt u.1 u B ++ [tlR h]).length := by simp
    generalize hdR h :: flt u.1 u A = A' at *
    generalize flt u.1 u B ++ [tlR h] = B' at *
    have hx2 : besE h u x.id (A ++ x :: B) = (besL (A' ++ x :: B') A'.length, besR (A' ++ x :: B') A'.length, 0) := by
      refine Q2 x.id A'.length ?_
      have := P2 A'.length (by simp)
      rw [List.getElem_append_right (Nat.le_refl _)] at this
      simpa using this
    obtain ⟨n1, n2⟩ := nr_at A' B' x ha hb
    refine ⟨⟨fun _ => hv, fun _ => by rw [hx2]⟩, fun r hr => ?_⟩
    obtain ⟨i, hi, hri⟩ := List.getElem_of_mem hr
    have e1 := Q1 r.id i (by rw [← hri]; exact P1 i hi)
    rw [hx2, n1, n2, e1]
    rcases Nat.lt_or_ge i A'.length with hlt | hge
    · have e2 := Q2 r.id i (by
        have := P2 i (by rw [List.length_append]; omega)
        rw [List.getElem_append_left hlt] at this
        rw [← hri, List.getElem_append_left hlt]
        exact this)
      rw [e2]
      refine ⟨rfl, rfl, fun hn => ?_⟩
      have hne : i + 1 < A'.length := by
        rcases Nat.lt_or_ge (i + 1) A'.length with q | q
        · exact q
        · have : i = A'.length - 1 := by omega
          subst this
          exact absurd ⟨rfl, Or.inl hri.symm⟩ hn
      exact nr_low A' B' x i hne
    · have hiB : i < A'.length + B'.length := by rw [← List.length_append]; exact hi
      have e2 := Q2 r.id (i + 1) (by
        have := P2 (i + 1) (by rw [List.length_append, List.length_cons]; omega)
        rw [List.getElem_append_right (by omega)] at this
        rw [← hri, List.getElem_append_right hge]
        simp only [show i + 1 - A'.length = (i - A'.length) + 1 by omega, List.getElem_cons_succ] at this
        exact this)
      rw [e2]
      refine ⟨rfl, rfl, fun hn => ?_⟩
      have hne : A'.length < i := by
        rcases Nat.lt_or_ge A'.length i with q | q
        · exact q
        · have : i = A'.length := by omega
          subst this
          exact absurd ⟨rfl, Or.inr hri.symm⟩ hn
      exact nr_high A' B' x i hne
  · have hF : flt u.1 u (A ++ x :: B) = flt u.1 u (A ++ B) := by rw [flt_app2, flt_one, if_neg hv, flt_app2]; simp
    have hS : ∀ d, besE h u d (A ++ x :: B) = besE h u d (A ++ B) := fun d => by unfold besE; rw [hF]
    have hno : plI x.id (rowL h (flt u.1 u (A ++ B))) < 0 := by
      rw [plI_no]
      · omega
      · intro q hq e
        have hr := List.getElem_mem hq
        have hxi := mayR_id (M2.ok x hxm).1
        have hids := M2.ids
        rw [List.map_append, List.map_cons, List.nodup_append] at hids
        have hmem : (rowL h (flt u.1 u (A ++ B)))[q] ∈ rowL h (flt u.1 u (A ++ B)) := hr
        generalize (rowL h (flt u.1 u (A ++ B)))[q] = y at *
        unfold rowL flt at hmem
        simp only [List.mem_cons, List.mem_append, List.not_mem_nil, or_false, List.mem_filter] at hmem
        rcases hmem with rfl | ⟨hm | hm, -⟩ | rfl
        · simp [hdR] at e; omega
        · exact hids.2.2 y.id (List.mem_map.2 ⟨y, hm, rfl⟩) x.id (by simp) e
        · exact (List.nodup_cons.1 hids.2.1).1 (List.mem_map.2 ⟨y, hm, e⟩)
        · simp [tlR] at e; omega
    have hx2 : (besE h u x.id (A ++ x :: B)).2.2 = 111 := by
      rw [hS]
      unfold besE
      rw [if_pos hu, if_pos hno]
    refine ⟨⟨fun e => absurd (hx2.symm.trans e) (by decide), fun e => absurd e hv⟩, fun r hr => ?_⟩
    obtain ⟨i, hi, h1, -⟩ := M.pos hr
    have e1 := besE_at hu h1
    rw [hS, e1]
    exact ⟨rfl, rfl, fun _ => ⟨rfl, rfl⟩⟩

end Go.Proofs.YtfcmmchppcffmaaDoor
