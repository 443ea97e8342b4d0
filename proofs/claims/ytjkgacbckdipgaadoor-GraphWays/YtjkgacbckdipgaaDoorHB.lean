/- Where searches end, and how they come there: plain facts. -/
import Derived.Test.YtjkgacbckdipgaaDoorHA
namespace Go.Proofs.YtjkgacbckdipgaaDoor
open Go.RowKit Go.Maps Go.ChangeMaps

theorem join_pw {α : Type} {K : α → α → Prop} (ht : ∀ x y z, K x y → K y z → K x z) {r : α} {A B : List α} (hA : (r :: A).Pairwise K) (hB : ((A.getLastD r) :: B).Pairwise K) : (r :: (A ++ B)).Pairwise K := by
  rcases List.eq_nil_or_concat A with rfl | ⟨ys, y, rfl⟩
  · simpa using hB
  · simp only [List.concat_eq_append, List.getLastD_concat] at *
    have hb := List.pairwise_cons.1 hB
    rw [← List.cons_append, List.pairwise_append]
    refine ⟨hA, hb.2, fun x hx b hbm => ?_⟩
    have hyb := hb.1 b hbm
    rw [← List.cons_append, List.pairwise_append] at hA
    rcases List.mem_append.1 (show x ∈ (r :: ys) ++ [y] from hx) with hx | hx
    · exact ht _ _ _ (hA.2.2 x hx y (by simp)) hyb
    · simp at hx; subst hx; exact hyb
theorem tw_stop {α : Type} {p : α → Bool} : ∀ (X : List α) (h : (X.takeWhile p).length < X.length), p X[(X.takeWhile p).length] = false
  | [], h => by simp at h
  | x :: X, h => by
    by_cases hp : p x = true
    · have e : (x :: X).takeWhile p = x :: X.takeWhile p := by rw [List.takeWhile_cons, if_pos hp]
      have h2 : (X.takeWhile p).length < X.length := by rw [e] at h; simpa using h
      have := tw_stop X h2
      simp only [e, List.length_cons, List.getElem_cons_succ]
      exact this
    · have e : (x :: X).takeWhile p = [] := by rw [List.takeWhile_cons, if_neg hp]
      simp only [e, List.length_nil, List.getElem_cons_zero]
      simpa using hp
theorem tw_take {α : Type} (p : α → Bool) (X : List α) : X.takeWhile p = X.take (X.takeWhile p).length := List.prefix_iff_eq_take.1 (List.takeWhile_prefix p)
theorem tw_short {α : Type} {p : α → Bool} {X : List α} {x : α} (hx : x ∈ X) (hp : p x = false) : (X.takeWhile p).length < X.length := by
  rcases Nat.lt_or_ge (X.takeWhile p).length X.length with h | h
  · exact h
  · have e := tw_take p X
    rw [List.take_of_length_le h] at e
    rw [← e] at hx
    have := mem_tw hx
    rw [hp] at this
    cases this
/-- Levels, one by one, by any step. -/
def goG (st : Int → Rf → List Rf) : Nat → Rf → List Hp × Rf
  | 0, r => ((st 0 r).map (fun x => (0, x)), (st 0 r).getLastD r)
  | n + 1, r => ((st ((n + 1 : Nat) : Int) r).map (fun x => (((n + 1 : Nat) : Int), x)) ++ (goG st n ((st ((n + 1 : Nat) : Int) r).getLastD r)).1, (goG st n ((st ((n + 1 : Nat) : Int) r).getLastD r)).2)
theorem goL_goG (h : Int) (m : List Rf) (tg : Rf) : ∀ n r, goL h m tg n r = goG (stepL h m tg) n r
  | 0, _ => rfl
  | n + 1, r => by unfold goL goG; rw [goL_goG h m tg n]
theorem goR_goG (h : Int) (m : List Rf) (tg : Rf) : ∀ n r, goR h m tg n r = goG (stepR h m tg) n r
  | 0, _ => rfl
  | n + 1, r => by unfold goR goG; rw [goR_goG h m tg n]
theorem map_snd (k : Int) (A : List Rf) : (A.map (fun x => ((k, x) : Hp))).map (·.2) = A := by simp [List.map_map, Function.comp_def]
theorem goG_keys {st : Int → Rf → List Rf} {I : Rf → Prop} {K : Rf → Rf → Prop} (ht : ∀ x y z, K x y → K y z → K x z) (hs : ∀ k r, I r → (r :: st k r).Pairwise K) (hn : ∀ k r, k ≠ 0 → I r → I ((st k r).getLastD r)) : ∀ (n : Nat) (r : Rf), I r → (r :: (goG st n r).1.map (·.2)).Pairwise K
  | 0, r, i => by unfold goG; simp only [map_snd]; exact hs 0 r i
  | n + 1, r, i => by
    unfold goG
    simp only [List.map_append, map_snd]
    exact join_pw ht (hs _ r i) (goG_keys ht hs hn n _ (hn _ r (by omega) i))
theorem goG_levels {st : Int → Rf → List Rf} : ∀ (n : Nat) (r : Rf) (lv : Int), (n : Int) ≤ lv → (lv :: (goG st n r).1.map (·.1)).Pairwise (fun x y => y ≤ x) ∧ ∀ x ∈ (goG st n r).1, x.1 ≤ (n : Int)
  | 0, r, lv, hl => by
    unfold goG
    have e : ((st 0 r).map (fun x => (((0 : Int), x) : Hp))).map (·.1) = List.replicate (st 0 r).length 0 := by simp [List.map_map, Function.comp_def, List.map_const']
    simp only [e]
    refine ⟨List.pairwise_cons.2 ⟨fun x hx => by rw [List.eq_of_mem_replicate hx]; exact hl, by simp [List.pairwise_replicate]⟩, fun x hx => ?_⟩
    obtain ⟨y, -, rfl⟩ := List.mem_map.1 hx
    simp
  | n + 1, r, lv, hl => by
    have ih := goG_levels (st := st) n ((st ((n + 1 : Nat) : Int) r).getLastD r) ((n + 1 : Nat) : Int) (by omega)
    unfold goG
    have e : ((st ((n + 1 : Nat) : Int) r).map (fun x => ((((n + 1 : Nat) : Int), x) : Hp))).map (·.1) = List.replicate (st ((n + 1 : Nat) : Int) r).length ((n + 1 : Nat) : Int) := by simp [List.map_map, Function.comp_def, List.map_const']
    simp only [List.map_append, e]
    have h2 := List.pairwise_cons.1 ih.1
    refine ⟨List.pairwise_cons.2 ⟨fun x hx => ?_, List.pairwise_append.2 ⟨by simp [List.pairwise_replicate], h2.2, fun x hx y hy => ?_⟩⟩, fun x hx => ?_⟩
    · rcases List.mem_append.1 hx with hx | hx
      · rw [List.eq_of_mem_replicate hx]; exact hl
      · have := h2.1 x hx; omega
    · rw [List.eq_of_mem_replicate hx]; exact h2.1 y hy
    · rcases List.mem_append.1 hx with hx | hx
      · obtain ⟨y, -, rfl⟩ := List.mem_map.1 hx
        simp
      · have := ih.2 x hx; omega
theorem lastD_app (A B : List Rf) (r : Rf) : (A ++ B).getLastD r = B.getLastD (A.getLastD r) := by
  rcases List.eq_nil_or_concat B with rfl | ⟨ys, y, rfl⟩
  · simp
  · rw [List.concat_eq_append, ← List.append_assoc, List.getLastD_concat, List.getLastD_concat]
theorem goG_last {st : Int → Rf → List Rf} : ∀ (n : Nat) (r : Rf), ((goG st n r).1.map (·.2)).getLastD r = (goG st n r).2
  | 0, r => by unfold goG; simp only [map_snd]
  | n + 1, r => by
    unfold goG
    simp only [List.map_append, map_snd]
    rw [lastD_app]
    exact goG_last n _
/-- A list with its ends is sorted. -/
theorem Mem.row_sorted {h : Int} {m : List Rf} (M : Mem h m) (hso : m.Pairwise keyLt) (k : Int) (u : Vc) : (rowL h (flt k u m)).Pairwise keyLt := by
  have hrk : ∀ x ∈ flt k u m, x.rk = 2 := fun x hx => by
    have h1 := (M.ok x (List.mem_filter.1 hx).1).1
    unfold mayR at h1
    simp at h1
    exact h1.2.2.1
  unfold rowL
  refine List.pairwise_cons.2 ⟨fun x hx => ?_, List.pairwise_append.2 ⟨hso.sublist List.filter_sublist, by simp, fun x hx y hy => ?_⟩⟩
  · rcases List.mem_append.1 hx with hx | hx
    · have := hrk x hx
      unfold keyLt hdR
      left
      simp
      omega
    · simp at hx
      subst hx
      unfold keyLt hdR tlR
      simp
  · simp at hy
    subst hy
    have := hrk x hx
    unfold keyLt tlR
    left
    simp
    omega
theorem stepR_keys {h : Int} {m : List Rf} (M : Mem h m) (hso : m.Pairwise keyLt) {tg : Rf} (k : Int) (r : Rf) (hr : r ∈ rowL h (flt k (prV k r) m)) : (r :: stepR h m tg k r).Pairwise keyLt := by
  obtain ⟨i, hi, h1, h2⟩ := M.pos hr
  rw [stepR_eq h1]
  have hp := M.row_sorted hso k (prV k r)
  generalize rowL h (flt k (prV k r) m) = ro at *
  have hs : (r :: rgL ro tg i).Sublist ro := by
    have e : ro.drop i = r :: ro.drop (i + 1) := by rw [List.drop_eq_getElem_cons hi, h2]
    refine List.Sublist.trans ?_ (List.drop_sublist i ro)
    rw [e]
    exact (List.takeWhile_sublist _).cons_cons r
  exact hp.sublist hs
theorem goR_keys {h : Int} {m : List Rf} (M : Mem h m) (hso : m.Pairwise keyLt) {tg : Rf} (hh : ¬keyLt (tlR h) tg) (n : Nat) (r : Rf) (I : InvR h m tg r) : (r :: (goR h m tg n r).1.map (·.2)).Pairwise keyLt := by
  rw [goR_goG]
  exact goG_keys (I := InvR h m tg) (K := keyLt) (fun _ _ _ h1 h2 => keyLt_trans h1 h2) (fun k r i => stepR_keys M hso k r (i.row k)) (fun k r _ i => i.next hh k) n r I
theorem last_drop {ro : List Rf} {i : Nat} (t : Nat) (h : i + t < ro.length) : ((ro.drop (i + 1)).take t).getLastD (ro[i]'(by omega)) = ro[i + t] := by
  cases t with
  | zero => simp
  | succ t =>
    rw [List.take_succ_eq_append_getElem (by simp; omega), List.getLastD_concat, List.getElem_drop]
    congr 1
    omega
theorem rev_at {ro : List Rf} {i : Nat} (hi : i < ro.length) (t : Nat) (ht : t < (ro.take i).reverse.length) (ht2 : i - t - 1 < ro.length) : (ro.take i).reverse[t] = ro[i - t - 1] := by
  rw [List.getElem_reverse, List.getElem_take]
  congr 1
  simp
  omega
theorem last_rev {ro : List Rf} {i : Nat} (hi : i < ro.length) (t : Nat) (h : t ≤ i) : ((ro.take i).reverse.take t).getLastD ro[i] = ro[i - t]'(by omega) := by
  cases t with
  | zero => simp
  | succ t =>
    rw [List.take_succ_eq_append_getElem (by simp; omega), List.getLastD_concat, rev_at hi t (by simp; omega) (by omega)]
    rfl
/-- The place behind the one where it stops. -/
theorem rgL_end {ro : List Rf} {tg : Rf} {i : Nat} (hi : i < ro.length) (hs : ∃ j, ∃ hj : j < ro.length, i < j ∧ ¬keyLt ro[j] tg) : ∃ hj : i + (rgL ro tg i).length + 1 < ro.length, ¬keyLt ro[i + (rgL ro tg i).length + 1] tg ∧ (rgL ro tg i).getLastD ro[i] = ro[i + (rgL ro tg i).length] := by
  obtain ⟨j, hj, hij, hk⟩ := hs
  have hm : ro[j] ∈ ro.drop (i + 1) := by
    rw [List.mem_iff_getElem]
    exact ⟨j - (i + 1), by simp; omega, by simp; congr 1; omega⟩
  have h1 : (rgL ro tg i).length < (ro.drop (i + 1)).length := tw_short hm (by simpa using hk)
  have h2 := tw_stop (ro.drop (i + 1)) h1
  have h3 : i + (rgL ro tg i).length + 1 < ro.length := by rw [List.length_drop] at h1; omega
  have e3 : (ro.drop (i + 1))[(rgL ro tg i).length] = ro[i + (rgL ro tg i).length + 1] := by
    rw [List.getElem_drop]
    congr 1
    omega
  refine ⟨h3, ?_, ?_⟩
  · have h2' : decide (keyLt (ro.drop (i + 1))[(rgL ro tg i).length] tg) = false := h2
    rw [e3] at h2'
    simpa using h2'
  · have e := tw_take (fun x => decide (keyLt x tg)) (ro.drop (i + 1))
    change rgL ro tg i = (ro.drop (i + 1)).take (rgL ro tg i).length at e
    exact (congrArg (fun z => z.getLastD ro[i]) e).trans (last_drop (ro := ro) (i := i) (rgL ro tg i).length (by omega))
/-- Between two that stand side by side there is nobody. -/
theorem none_between {ro : List Rf} (hp : ro.Pairwise keyLt) {j : Nat} (hj : j + 1 < ro.length) {x : Rf} (hx : x ∈ ro) : ¬(keyLt ro[j] x ∧ keyLt x ro[j + 1]) := by
  rintro ⟨h1, h2⟩
  obtain ⟨i, hi, rfl⟩ := List.getElem_of_mem hx
  rw [List.pairwise_iff_getElem] at hp
  rcases Nat.lt_trichotomy i j with e | e | e
  · exact keyLt_asymm h1 (hp i j hi (by omega) e)
  · subst e; exact keyLt_asymm h1 h1
  · rcases Nat.lt_or_ge (j + 1) i with e2 | e2
    · exact keyLt_asymm h2 (hp (j + 1) i hj hi e2)
    · have : i = j + 1 := by omega
      subst this
      exact keyLt_asymm h2 h2
theorem Mem.plI_at {h : Int} {m : List Rf} (M : Mem h m) {k : Int} {u : Vc} {j : Nat} (hj : j < (rowL h (flt k u m)).length) : plI (rowL h (flt k u m))[j].id (rowL h (flt k u m)) = (j : Int) := by
  obtain ⟨i, hi, h1, h2⟩ := M.pos (List.getElem_mem hj)
  have hn := M.row_ids k u
  have e : i = j := by
    have h5 : ((rowL h (flt k u m)).map (·.id))[i]'(by simpa using hi) = ((rowL h (flt k u m)).map (·.id))[j]'(by simpa using hj) := by
      rw [List.getElem_map, List.getElem_map, h2]
    exact nodup_inj hn _ _ h5
  rw [h1, e]
/-- What is true of the two between which a search ends. -/
def Ends (m : List Rf) (tg a b : Rf) : Prop := keyLt a tg ∧ ¬keyLt b tg ∧ ∀ x ∈ m, ¬(keyLt a x ∧ keyLt x b)
theorem ends_at {h : Int} {m : List Rf} (M : Mem h m) (hso : m.Pairwise keyLt) {tg : Rf} {u : Vc} (e0 : flt 0 u m = m) {j : Nat} (hj : j + 1 < (rowL h (flt 0 u m)).length) (h1 : keyLt (rowL h (flt 0 u m))[j] tg) (h2 : ¬keyLt (rowL h (flt 0 u m))[j + 1] tg) : Ends m tg (rowL h (flt 0 u m))[j] (endY h m (rowL h (flt 0 u m))[j]) := by
  have hy : endY h m (rowL h (flt 0 u m))[j] = (rowL h (flt 0 u m))[j + 1] := by
    unfold endY
    have := M.plI_at (k := 0) (u := u) (j := j) (by omega)
    simp only [e0] at this hj ⊢
    rw [this, Int.toNat_natCast]
    simp [List.getD, hj]
  rw [hy]
  refine ⟨h1, h2, fun x hx => none_between (M.row_sorted hso 0 u) hj ?_⟩
  rw [e0]
  unfold rowL
  simp [hx]
theorem goR_zero {h : Int} {m : List Rf} (M : Mem h m) (hso : m.Pairwise keyLt) {tg : Rf} (hh : ¬keyLt (tlR h) tg) {r : Rf} (I : InvR h m tg r) : Ends m tg ((stepR h m tg 0 r).getLastD r) (endY h m ((stepR h m tg 0 r).getLastD r)) := by
  have hrm : ∀ q ∈ m, rt q.ln q.bt = true ∧ 0 ≤ q.bt := fun q hq => ⟨(M.mem_ok hq).1, (M.mem_ok hq).2.1⟩
  have hro : okR h r := M.row_ok (I.row 0)
  have e0 : flt 0 (prV 0 r) m = m := flt_zero m hrm r ⟨hro.1, hro.2.1⟩
  have J := I.next hh 0
  obtain ⟨i, hi, h1, h2, -, h4⟩ := I.at M hh 0
  rw [stepR_eq h1] at J ⊢
  obtain ⟨h5, h6, h7⟩ := rgL_end hi h4
  rw [h2] at h7
  rw [h7] at J ⊢
  exact ends_at M hso e0 h5 J.2 h6
theorem goR_ends {h : Int} {m : List Rf} (M : Mem h m) (hso : m.Pairwise keyLt) {tg : Rf} (hh : ¬keyLt (tlR h) tg) : ∀ (n : Nat) (r : Rf), InvR h m tg r → Ends m tg (goR h m tg n r).2 (endY h m (goR h m tg n r).2)
  | 0, _, I => goR_zero M hso hh I
  | n + 1, _, I => goR_ends M hso hh n _ (I.next hh _)

/-- Those onto which a search comes that goes left, and the next one. -/
theorem lfL_end {ro : List Rf} {tg : Rf} {i : Nat} (hi : i < ro.length) (hs : ∃ j, ∃ hj : j < ro.length, j < i ∧ keyLt ro[j] tg) : ∃ hj : (lfL ro tg i).length + 1 ≤ i, keyLt (ro[i - (lfL ro tg i).length - 1]'(by omega)) tg ∧ (lfL ro tg i).getLastD ro[i] = ro[i - (lfL ro tg i).length]'(by omega) ∧ lfL ro tg i ++ [ro[i - (lfL ro tg i).length - 1]'(by omega)] = (ro.take i).reverse.take ((lfL ro tg i).length + 1) := by
  obtain ⟨j, hj, hij, hk⟩ := hs
  have hm : ro[j] ∈ (ro.take i).reverse := by
    rw [List.mem_reverse, List.mem_iff_getElem]
    exact ⟨j, by simp; omega, by simp⟩
  have h1 : (lfL ro tg i).length < (ro.take i).reverse.length := tw_short hm (by simpa using hk)
  have h2 := tw_stop (ro.take i).reverse h1
  have hl : (ro.take i).reverse.length = i := by simp; omega
  have h3 : (lfL ro tg i).length + 1 ≤ i := by omega
  have at_ := fun t ht ht2 => rev_at hi t ht ht2
  have e := tw_take (fun x => !decide (keyLt x tg)) (ro.take i).reverse
  change lfL ro tg i = (ro.take i).reverse.take (lfL ro tg i).length at e
  refine ⟨h3, ?_, ?_, ?_⟩
  · have h2' : (!decide (keyLt (ro.take i).reverse[(lfL ro tg i).length] tg)) = false := h2
    rw [at_ _ h1 (by omega)] at h2'
    simpa using h2'
  · exact (congrArg (fun z => z.getLastD ro[i]) e).trans (last_rev (ro := ro) hi (lfL ro tg i).length (by omega))
  · rw [List.take_succ_eq_append_getElem h1, ← e, at_ _ h1 (by omega)]
theorem stepL_keys {h : Int} {m : List Rf} (M : Mem h m) (hso : m.Pairwise keyLt) {tg : Rf} (hh : keyLt (hdR h) tg) (k : Int) (r : Rf) (I : InvL h m tg r) : (r :: stepL h m tg k r).Pairwise (fun x y => keyLt y x) := by
  obtain ⟨i, hi, h1, h2, -, h4⟩ := I.at M hh k
  rw [stepL_eq h1]
  have hp := M.row_sorted hso k (prV k r)
  obtain ⟨h5, -, -, h8⟩ := lfL_end hi h4
  have hlt : i - (lfL (rowL h (flt k (prV k r) m)) tg i).length - 1 < (rowL h (flt k (prV k r) m)).length := by omega
  have hx : (rowL h (flt k (prV k r) m)).getD (i - (lfL (rowL h (flt k (prV k r) m)) tg i).length - 1) zr = (rowL h (flt k (prV k r) m))[i - (lfL (rowL h (flt k (prV k r) m)) tg i).length - 1] := by simp [List.getD, hlt]
  have hs : (r :: (lfL (rowL h (flt k (prV k r) m)) tg i ++ (if k = 0 then [(rowL h (flt k (prV k r) m)).getD (i - (lfL (rowL h (flt k (prV k r) m)) tg i).length - 1) zr] else []))).Sublist (rowL h (flt k (prV k r) m)).reverse := by
    rw [hx]
    refine List.Sublist.trans ?_ (List.Sublist.reverse (List.take_sublist (i + 1) _))
    rw [List.take_succ_eq_append_getElem hi, List.reverse_append, h2]
    refine List.Sublist.cons_cons r ?_
    split
    · rw [h8]; exact List.take_sublist _ _
    · rw [List.append_nil]; exact List.takeWhile_sublist _
  exact (List.pairwise_reverse.2 hp).sublist hs
theorem goL_keys {h : Int} {m : List Rf} (M : Mem h m) (hso : m.Pairwise keyLt) {tg : Rf} (hh : keyLt (hdR h) tg) (n : Nat) (r : Rf) (I : InvL h m tg r) : (r :: (goL h m tg n r).1.map (·.2)).Pairwise (fun x y => keyLt y x) := by
  rw [goL_goG]
  exact goG_keys (I := InvL h m tg) (K := fun x y => keyLt y x) (fun _ _ _ h1 h2 => keyLt_trans h2 h1) (fun k r i => stepL_keys M hso hh k r i) (fun k r hk i => i.next hh hk) n r I
theorem goL_zero {h : Int} {m : List Rf} (M : Mem h m) (hso : m.Pairwise keyLt) {tg : Rf} (hh : keyLt (hdR h) tg) {r : Rf} (I : InvL h m tg r) : Ends m tg ((stepL h m tg 0 r).getLastD r) (endY h m ((stepL h m tg 0 r).getLastD r)) := by
  have hrm : ∀ q ∈ m, rt q.ln q.bt = true ∧ 0 ≤ q.bt := fun q hq => ⟨(M.mem_ok hq).1, (M.mem_ok hq).2.1⟩
  have hro : okR h r := M.row_ok (I.row 0)
  have e0 : flt 0 (prV 0 r) m = m := flt_zero m hrm r ⟨hro.1, hro.2.1⟩
  obtain ⟨i, hi, h1, h2, -, h4⟩ := I.at M hh 0
  obtain ⟨h5, h6, h7, -⟩ := lfL_end hi h4
  have hlt : i - (lfL (rowL h (flt 0 (prV 0 r) m)) tg i).length - 1 < (rowL h (flt 0 (prV 0 r) m)).length := by omega
  have hx : (rowL h (flt 0 (prV 0 r) m)).getD (i - (lfL (rowL h (flt 0 (prV 0 r) m)) tg i).length - 1) zr = (rowL h (flt 0 (prV 0 r) m))[i - (lfL (rowL h (flt 0 (prV 0 r) m)) tg i).length - 1] := by simp [List.getD, hlt]
  have hb : ¬keyLt ((lfL (rowL h (flt 0 (prV 0 r) m)) tg i).getLastD r) tg := by
    rcases List.eq_nil_or_concat (lfL (rowL h (flt 0 (prV 0 r) m)) tg i) with e | ⟨ys, y, e⟩
    · rw [e]; exact I.2
    · have hy : y ∈ lfL (rowL h (flt 0 (prV 0 r) m)) tg i := by rw [e]; simp
      rw [e, List.concat_eq_append, List.getLastD_concat]
      exact (mem_lfL hy).2
  rw [stepL_eq h1, if_pos rfl, List.getLastD_concat, hx]
  rw [h2] at h7
  rw [h7] at hb
  refine ends_at M hso e0 (by omega) h6 ?_
  have e9 : i - (lfL (rowL h (flt 0 (prV 0 r) m)) tg i).length - 1 + 1 = i - (lfL (rowL h (flt 0 (prV 0 r) m)) tg i).length := by omega
  simp only [e9]
  exact hb
theorem goL_ends {h : Int} {m : List Rf} (M : Mem h m) (hso : m.Pairwise keyLt) {tg : Rf} (hh : keyLt (hdR h) tg) : ∀ (n : Nat) (r : Rf), InvL h m tg r → Ends m tg (goL h m tg n r).2 (endY h m (goL h m tg n r).2)
  | 0, _, I => goL_zero M hso hh I
  | n + 1, _, I => goL_ends M hso hh n _ (I.next hh (by omega))

end Go.Proofs.YtjkgacbckdipgaaDoor
