/- few; what Beside answers; the law GraphInverse. -/
import Derived.Test.YtfcmmchppcffmaaDoorGT
namespace Go.Proofs.YtfcmmchppcffmaaDoor
open Go.RowKit Go.Maps Go.ChangeMaps

set_option maxHeartbeats 1000000 in
theorem few_at (v : Value) (l : List Rf) (w : World) (h : RSl w v l) : ∃ v', RSl w v' (l.take 12) ∧ ∀ W, Calls Tryd.prog 4 #[v] W fun e w' => e = .returned v' ∧ w' = W := by
  obtain ⟨va, vc, rfl, h1, h2⟩ := h.shape
  have h2 : vc ≤ 9223372036854775807 := by unfold maxLen at h2; omega
  by_cases hn : l.length ≤ 12
  · refine ⟨_, by rw [List.take_of_length_le hn]; exact h, fun W => ?_⟩
    have hd : decide ((12 : Int) < (l.length : Int)) = false := by simp; omega
    clear h
    generalize l.length = n at *
    go_enter Tryd.func4, Tryd.ntmps4
    go_wp2
    go_ret
    exact ⟨rfl, rfl⟩
  · have hS : RSl w (.slice va 12 vc) (l.take 12) := by
      rcases h with ⟨-, rfl⟩ | ⟨g, o, c, e, g1, g2, g3, g4⟩
      · simp at hn
      · injection e with e1 e2 e3
        subst e1 e3
        refine Or.inr ⟨g, o, vc, by rw [List.length_take, Nat.min_eq_left (by omega)], by rw [List.length_take]; omega, g2, g3, fun j u hu => ?_⟩
        rw [← rfs_take, List.getElem?_take] at hu
        split at hu
        · exact g4 j u hu
        · cases hu
    refine ⟨_, hS, fun W => ?_⟩
    have hd : decide ((12 : Int) < (l.length : Int)) = true := by simp; omega
    clear h hS
    generalize l.length = n at *
    have hc : 12 ≤ vc := by omega
    go_enter Tryd.func4, Tryd.ntmps4
    go_wp2
    go_ret
    exact ⟨rfl, rfl⟩

theorem ex_sorted {l : List Rf} (hn : (l.map fun x => (x.rk, x.kn)).Nodup) : ∃ m : List Rf, m.Perm l ∧ m.Pairwise keyLt := by
  refine ⟨l.mergeSort (fun a b => !decide (keyLt b a)), List.mergeSort_perm _ _, ?_⟩
  have h1 := List.pairwise_mergeSort (le := fun a b : Rf => !decide (keyLt b a)) (fun a b c h1 h2 => by
    simp at h1 h2 ⊢
    unfold keyLt at *
    omega) (fun a b => by
    simp
    by_cases h : keyLt b a
    · right; intro h2; exact keyLt_asymm h h2
    · left; exact h) l
  have h2 : ((l.mergeSort (fun a b => !decide (keyLt b a))).map fun x => (x.rk, x.kn)).Nodup := (((List.mergeSort_perm l _).map _).nodup_iff).2 hn
  unfold List.Nodup at h2
  rw [List.pairwise_map] at h2
  refine (h1.and h2).imp fun {a b} h => ?_
  obtain ⟨g1, g2⟩ := h
  simp at g1 g2
  unfold keyLt at *
  omega

/-- What Beside answers, whatever came in. -/
theorem beside_all (h x y : Int) (hy : 0 ≤ y) (v : Value) (l : List Rf) (hl : l.length ≤ 1000) (hbt : ∀ r ∈ l, 0 ≤ r.bt) : ∃ f : Int → Rf × Rf × Int, (∀ d W, RSl W v l → Calls Tryd.prog 9 #[.int .i64 h, (.agg #[.int .i64 (x), .int .u64 (y)]), .int .i64 d, v] W fun e w' => e = .returned (.tuple #[.agg (f d).1.cells, .agg (f d).2.1.cells, .int .i64 (f d).2.2]) ∧ Below W.heap.size W w') ∧ ((¬okG h l ∧ ∀ d, f d = (zr, zr, 110)) ∨ (∃ m : List Rf, okG h l ∧ m.Perm l ∧ m.Pairwise keyLt ∧ Mem h m ∧ ∀ d, f d = besE h (x, y) d m)) := by
  by_cases hg : okG h l
  · obtain ⟨m, hp, hso⟩ := ex_sorted hg.2.2
    exact ⟨fun d => besE h (x, y) d m, fun d W hs => beside_ok h x y d hy v l hl hbt hg m hp hso W hs, Or.inr ⟨m, hg, hp, hso, Mem.of hg hbt hl hp, fun _ => rfl⟩⟩
  · exact ⟨fun _ => (zr, zr, 110), fun d W hs => beside_bad h x y d v l hl hbt hg W hs, Or.inl ⟨hg, fun _ => rfl⟩⟩

theorem pos_at {h : Int} {m : List Rf} (M : Mem h m) {k : Int} {u : Vc} {i : Nat} (hi : i < (rowL h (flt k u m)).length) : plI (rowL h (flt k u m))[i].id (rowL h (flt k u m)) = (i : Int) := by
  obtain ⟨j, hj, h1, h2⟩ := M.pos (List.getElem_mem hi)
  rw [h1]
  have h3 : ((rowL h (flt k u m)).map (·.id))[j]'(by simpa using hj) = ((rowL h (flt k u m)).map (·.id))[i]'(by simpa using hi) := by rw [List.getElem_map, List.getElem_map, h2]
  have := nodup_inj (M.row_ids k u) _ _ h3
  omega

theorem inverse {h : Int} {m : List Rf} (M : Mem h m) {u : Vc} {d : Int} (he : (besE h u d m).2.2 = 0) :
    (d ≠ 1 → (besE h u (besE h u d m).2.1.id m).2.2 = 0 ∧ (besE h u (besE h u d m).2.1.id m).1.id = d) ∧ (d ≠ 0 → (besE h u (besE h u d m).1.id m).2.2 = 0 ∧ (besE h u (besE h u d m).1.id m).2.1.id = d) := by
  by_cases hn : (rt u.1 u.2 && decide (u.1 ≤ h)) = true
  rotate_left
  · unfold besE at he
    rw [if_neg hn] at he
    cases he
  have hE : ∀ z, besE h u z m = if plI z (rowL h (flt u.1 u m)) < 0 then (zr, zr, 111) else (besL (rowL h (flt u.1 u m)) (plI z (rowL h (flt u.1 u m))).toNat, besR (rowL h (flt u.1 u m)) (plI z (rowL h (flt u.1 u m))).toNat, 0) := fun z => by unfold besE; rw [if_pos hn]
  have hpa := fun i hi => pos_at M (k := u.1) (u := u) (i := i) hi
  have hlast : ∀ hj, (rowL h (flt u.1 u m))[(rowL h (flt u.1 u m)).length - 1]'hj = tlR h := fun hj => by
    simp [rowL]
  have hlen : 2 ≤ (rowL h (flt u.1 u m)).length := by rw [rowL_len]; omega
  have hfst : ∀ hj : 0 < (rowL h (flt u.1 u m)).length, (rowL h (flt u.1 u m))[0]'hj = hdR h := fun _ => rfl
  generalize rowL h (flt u.1 u m) = ro at *
  rcases plI_cases d ro with ⟨h1, -⟩ | ⟨j, hj, h1, h2⟩
  · rw [hE, h1] at he
    cases he
  · have e1 : besE h u d m = (besL ro j, besR ro j, 0) := by rw [hE, h1, if_neg (by omega)]; simp
    rw [e1]
    refine ⟨fun hd => ?_, fun hd => ?_⟩
    · have hj1 : j + 1 < ro.length := by
        rcases Nat.lt_or_ge (j + 1) ro.length with h9 | h9
        · exact h9
        · have e9 : j = ro.length - 1 := by omega
          subst e9
          rw [hlast] at h2
          exact absurd h2.symm hd
      have hB : besR ro j = ro[j + 1] := by unfold besR; simp [List.getD, hj1]
      have e2 := hE ro[j + 1].id
      rw [hpa (j + 1) hj1, if_neg (by omega), Int.toNat_natCast] at e2
      simp only [hB, e2]
      refine ⟨by trivial, ?_⟩
      unfold besL
      rw [if_neg (by omega)]
      simp [List.getD, hj, h2]
    · have hj0 : 0 < j := by
        rcases Nat.eq_zero_or_pos j with h9 | h9
        · subst h9
          rw [hfst] at h2
          exact absurd h2.symm hd
        · exact h9
      have hA : besL ro j = ro[j - 1] := by unfold besL; rw [if_neg (by omega)]; simp [List.getD, show j - 1 < ro.length by omega]
      have e2 := hE ro[j - 1].id
      rw [hpa (j - 1) (by omega), if_neg (by omega), Int.toNat_natCast] at e2
      simp only [hA, e2]
      refine ⟨by trivial, ?_⟩
      unfold besR
      rw [show j - 1 + 1 = j by omega]
      simp [List.getD, hj, h2]



end Go.Proofs.YtfcmmchppcffmaaDoor
