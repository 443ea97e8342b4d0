/- few; what Beside answers; the law GraphInverse. -/
import Derived.Test.YtlcchljjfhaefaaDoorGT
namespace Go.Proofs.YtlcchljjfhaefaaDoor
open Go.RowKit Go.Maps Go.ChangeMaps

set_option maxHeartbeats 1000000 in
theorem few_at (v : Value) (l : List Rf) (w : World) (h : RSl w v l) : ∃ v', RSl w v' (l.take 12) ∧ ∀ W, Calls Tryd.prog 7 #[v] W fun e w' => e = .returned v' ∧ w' = W := by
  obtain ⟨va, vc, rfl, h1, h2⟩ := h.shape
  have h2 : vc ≤ 9223372036854775807 := by unfold maxLen at h2; omega
  by_cases hn : l.length ≤ 12
  · refine ⟨_, by rw [List.take_of_length_le hn]; exact h, fun W => ?_⟩
    have hd : decide ((12 : Int) < (l.length : Int)) = false := by simp; omega
    clear h
    generalize l.length = n at *
    go_enter Tryd.func7, Tryd.ntmps7
    go_wp2
    go_ret
    exact ⟨rfl, rfl⟩
  · have hS : RSl w (.slice va 12 vc) (l.take 12) := by
      rcases h with ⟨-, rfl⟩ | ⟨g, o, c, e, g1, g2, g3, g4⟩
      · simp at hn
      · injection e with e1 e2 e3
        subst e1 e3
        refine Or.inr ⟨g, o, vc, by rw [List.length_take, Nat.min_eq_left (by omega)], by rw [List.length_take]; omega, g2, g3, fun j u hu => ?_⟩
        rw [← rfs_take, List.getElem?_take] at hu
        split at hu
        · exact g4 j u hu
        · cases hu
    refine ⟨_, hS, fun W => ?_⟩
    have hd : decide ((12 : Int) < (l.length : Int)) = true := by simp; omega
    clear h hS
    generalize l.length = n at *
    have hc : 12 ≤ vc := by omega
    go_enter Tryd.func7, Tryd.ntmps7
    go_wp2
    go_ret
    exact ⟨rfl, rfl⟩
theorem ex_sorted {l : List Rf} (hn : (l.map fun x => (x.rk, x.kn)).Nodup) : ∃ m : List Rf, m.Perm l ∧ m.Pairwise keyLt := by
  refine ⟨l.mergeSort (fun a b => !decide (keyLt b a)), List.mergeSort_perm _ _, ?_⟩
  have h1 := List.pairwise_mergeSort (le := fun a b : Rf => !decide (keyLt b a)) (fun a b c h1 h2 => by
    simp at h1 h2 ⊢
    unfold keyLt at *
    omega) (fun a b => by
    simp
    by_cases h : keyLt b a
    · right; intro h2; exact keyLt_asymm h h2
    · left; exact h) l
  have h2 : ((l.mergeSort (fun a b => !decide (keyLt b a))).map fun x => (x.rk, x.kn)).Nodup := (((List.mergeSort_perm l _).map _).nodup_iff).2 hn
  unfold List.Nodup at h2
  rw [List.pairwise_map] at h2
  refine (h1.and h2).imp fun {a b} h => ?_
  obtain ⟨g1, g2⟩ := h
  simp at g1 g2
  unfold keyLt at *
  omega
/-- What Beside answers, whatever came in. -/
theorem beside_all (h x y : Int) (hy : 0 ≤ y) (v : Value) (l : List Rf) (hl : l.length ≤ 1000) (hbt : ∀ r ∈ l, 0 ≤ r.bt) : ∃ f : Int → Rf × Rf × Int, (∀ d W, RSl W v l → Calls Tryd.prog 8 #[.int .i64 h, (.agg #[.int .i64 (x), .int .u64 (y)]), .int .i64 d, v] W fun e w' => e = .returned (.tuple #[.agg (f d).1.cells, .agg (f d).2.1.cells, .int .i64 (f d).2.2]) ∧ Below W.heap.size W w') ∧ ((¬okG h l ∧ ∀ d, f d = (zr, zr, 110)) ∨ (∃ m : List Rf, okG h l ∧ m.Perm l ∧ m.Pairwise keyLt ∧ Mem h m ∧ ∀ d, f d = besE h (x, y) d m)) := by
  by_cases hg : okG h l
  · obtain ⟨m, hp, hso⟩ := ex_sorted hg.2.2
    exact ⟨fun d => besE h (x, y) d m, fun d W hs => beside_ok h x y d hy v l hl hbt hg m hp hso W hs, Or.inr ⟨m, hg, hp, hso, Mem.of hg hbt hl hp, fun _ => rfl⟩⟩
  · exact ⟨fun _ => (zr, zr, 110), fun d W hs => beside_bad h x y d v l hl hbt hg W hs, Or.inl ⟨hg, fun _ => rfl⟩⟩
theorem pos_at {h : Int} {m : List Rf} (M : Mem h m) {k : Int} {u : Vc} {i : Nat} (hi : i < (rowL h (flt k u m)).length) : plI (rowL h (flt k u m))[i].id (rowL h (flt k u m)) = (i : Int) := by
  obtain ⟨j, hj, h1, h2⟩ := M.pos (List.getElem_mem hi)
  rw [h1]
  have h3 : ((rowL h (flt k u m)).map (·.id))[j]'(by simpa using hj) = ((rowL h (flt k u m)).map (·.id))[i]'(by simpa using hi) := by rw [List.getElem_map, List.getElem_map, h2]
  have := nodup_inj (M.row_ids k u) _ _ h3
  omega
theorem inverse {h : Int} {m : List Rf} (M : Mem h m) {u : Vc} {d : Int} (he : (besE h u d m).2.2 = 0) :
    (d ≠ 1 → (besE h u (besE h u d m).2.1.id m).2.2 = 0 ∧ (besE h u (besE h u d m).2.1.id m).1.id = d) ∧ (d ≠ 0 → (besE h u (besE h u d m).1.id m).2.2 = 0 ∧ (besE h u (besE h u d m).1.id m).2.1.id = d) := by
  by_cases hn : (rt u.1 u.2 && decide (u.1 ≤ h)) = true
  rotate_left
  · unfold besE at he
    rw [if_neg hn] at he
    cases he
  have hE : ∀ z, besE h u z m = if plI z (rowL h (flt u.1 u m)) < 0 then (zr, zr, 111) else (besL (rowL h (flt u.1 u m)) (plI z (rowL h (flt u.1 u m))).toNat, besR (rowL h (flt u.1 u m)) (plI z (rowL h (flt u.1 u m))).toNat, 0) := fun z => by unfold besE; rw [if_pos hn]
  have hpa := fun i hi => pos_at M (k := u.1) (u := u) (i := i) hi
  have hlast : ∀ hj, (rowL h (flt u.1 u m))[(rowL h (flt u.1 u m)).length - 1]'hj = tlR h := fun hj => by
    simp [rowL]
  have hlen : 2 ≤ (rowL h (flt u.1 u m)).length := by rw [rowL_len]; omega
  have hfst : ∀ hj : 0 < (rowL h (flt u.1 u m)).length, (rowL h (flt u.1 u m))[0]'hj = hdR h := fun _ => rfl
  generalize rowL h (flt u.1 u m) = ro at *
  rcases plI_cases d ro with ⟨h1, -⟩ | ⟨j, hj, h1, h2⟩
  · rw [hE, h1] at he
    cases he
  · have e1 : besE h u d m = (besL ro j, besR ro j, 0) := by rw [hE, h1, if_neg (by omega)]; simp
    rw [e1]
    refine ⟨fun hd => ?_, fun hd => ?_⟩
    · have hj1 : j + 1 < ro.length := by
        rcases Nat.lt_or_ge (j + 1) ro.length with h9 | h9
        · exact h9
        · have e9 : j = ro.length - 1 := by omega
          subst e9
          rw [hlast] at h2
          exact absurd h2.symm hd
      have hB : besR ro j = ro[j + 1] := by unfold besR; simp [List.getD, hj1]
      have e2 := hE ro[j + 1].id
      rw [hpa (j + 1) hj1, if_neg (by omega), Int.toNat_natCast] at e2
      simp only [hB, e2]
      refine ⟨by trivial, ?_⟩
      unfold besL
      rw [if_neg (by omega)]
      simp [List.getD, hj, h2]
    · have hj0 : 0 < j := by
        rcases Nat.eq_zero_or_pos j with h9 | h9
        · subst h9
          rw [hfst] at h2
          exact absurd h2.symm hd
        · exact h9
      have hA : besL ro j = ro[j - 1] := by unfold besL; rw [if_neg (by omega)]; simp [List.getD, show j - 1 < ro.length by omega]
      have e2 := hE ro[j - 1].id
      rw [hpa (j - 1) (by omega), if_neg (by omega), Int.toNat_natCast] at e2
      simp only [hA, e2]
      refine ⟨by trivial, ?_⟩
      unfold besR
      rw [show j - 1 + 1 = j by omega]
      simp [List.getD, hj, h2]

set_option maxHeartbeats 4000000 in
set_option maxRecDepth 100000 in
theorem inverse_any (h x y d : Int) (hy : 0 ≤ y) (v : Value) (l0 : List Rf) (hbt0 : ∀ r ∈ l0, 0 ≤ r.bt) (w : World) (hR : Ranks w) (hs : RSl w v l0) :
    Calls Tryd.prog 6 #[.int .i64 h, (.agg #[.int .i64 (x), .int .u64 (y)]), .int .i64 d, v] w fun e w' => e = .returned (.bool true) ∧ Below w.heap.size w w' := by
  obtain ⟨v1, hs1, hF⟩ := few_at v l0 w hs
  have hbt : ∀ r ∈ l0.take 12, 0 ≤ r.bt := fun r hr => hbt0 r (List.mem_of_mem_take hr)
  have hl : (l0.take 12).length ≤ 1000 := by rw [List.length_take]; omega
  generalize l0.take 12 = l at *
  obtain ⟨f, hf, hcase⟩ := beside_all h x y hy v1 l hl hbt
  have hINV : (f d).2.2 = 0 → (d ≠ 1 → (f (f d).2.1.id).2.2 = 0 ∧ (f (f d).2.1.id).1.id = d) ∧ (d ≠ 0 → (f (f d).1.id).2.2 = 0 ∧ (f (f d).1.id).2.1.id = d) := fun he => by
    rcases hcase with ⟨-, h9⟩ | ⟨m, -, -, -, M, h9⟩
    · rw [h9] at he
      cases he
    · simp only [h9] at he ⊢
      exact inverse M he
  have HIN := hide hINV
  have HF := hide hF
  have HB := hide hf
  have b1 := (Below.refl w.heap.size w).alloc (Nat.le_refl _) (.cells #[.int .i64 x, .int .u64 y] 24)
  have Vb := hide (IsB.new w #[.int .i64 x, .int .u64 y] 24)
  have SL := hide (hs1.below b1)
  have RK := hide (hR.below b1)
  have B := hide b1
  clear b1 hs hs1 hR hF hf hcase hINV hbt hl hbt0
  go_enter Tryd.func6, Tryd.ntmps6
  go_wp2_with fail
  generalize w.alloc (.cells #[.int .i64 x, .int .u64 y] 24) = W1 at *
  generalize hH : w.heap.size = H at Vb ⊢
  replace hH := hide hH
  refine (HF.out W1).mono ?_
  intro e w2 hE2
  obtain ⟨rfl, hw2⟩ := hE2
  rw [hw2]
  clear hw2 w2
  have c0 := Vb.out.cell 0
  have c1 := Vb.out.cell 1
  simp at c0 c1
  go_wp2_with fail
  refine (HB.out d W1 SL.out).mono ?_
  rintro e w3 ⟨rfl, hb⟩
  replace Vb := hide (Vb.out.below hb)
  replace SL := hide (SL.out.below hb)
  replace RK := hide (RK.out.below hb)
  replace B := hide (B.out.trans (hb.mono B.out.size))
  clear hb c0 c1
  rcases hfd : f d with ⟨A, Bq, E⟩
  simp only [hfd] at HIN
  obtain ⟨a0, a1, a2, a3, a4⟩ := A
  obtain ⟨b0, b1, b2, b3, b4⟩ := Bq
  simp only [Rf.cells] at HIN ⊢
  replace hfd := hide hfd
  have b9 := ((Below.refl w3.heap.size w3).alloc (Nat.le_refl _) (.cells #[.int .i64 a0, .int .i64 a1, .int .u64 a2, .int .i64 a3, .int .u64 a4] 31)).alloc (by simp) (.cells #[.int .i64 b0, .int .i64 b1, .int .u64 b2, .int .i64 b3, .int .u64 b4] 31)
  have Xa : Hid (IsB ((w3.alloc (.cells #[.int .i64 a0, .int .i64 a1, .int .u64 a2, .int .i64 a3, .int .u64 a4] 31)).alloc (.cells #[.int .i64 b0, .int .i64 b1, .int .u64 b2, .int .i64 b3, .int .u64 b4] 31)) w3.heap.size #[.int .i64 a0, .int .i64 a1, .int .u64 a2, .int .i64 a3, .int .u64 a4] 31) := (IsB.new w3 #[.int .i64 a0, .int .i64 a1, .int .u64 a2, .int .i64 a3, .int .u64 a4] _).below ((Below.refl _ _).alloc (Nat.le_refl _) _)
  have Xb : Hid (IsB ((w3.alloc (.cells #[.int .i64 a0, .int .i64 a1, .int .u64 a2, .int .i64 a3, .int .u64 a4] 31)).alloc (.cells #[.int .i64 b0, .int .i64 b1, .int .u64 b2, .int .i64 b3, .int .u64 b4] 31)) (w3.heap.size + 1) #[.int .i64 b0, .int .i64 b1, .int .u64 b2, .int .i64 b3, .int .u64 b4] 31) := by
    have := IsB.new (w3.alloc (.cells #[.int .i64 a0, .int .i64 a1, .int .u64 a2, .int .i64 a3, .int .u64 a4] 31)) #[.int .i64 b0, .int .i64 b1, .int .u64 b2, .int .i64 b3, .int .u64 b4] 31
    rwa [World.size_alloc] at this
  replace Vb := hide (Vb.out.below b9)
  replace SL := hide (SL.out.below b9)
  replace RK := hide (RK.out.below b9)
  replace B := hide (B.out.trans (b9.mono B.out.size))
  clear b9
  by_cases hE : E = 0
  rotate_left
  · have hEb : (E == 0) = false := by simpa using hE
    go_wp2_with fail
    generalize ((w3.alloc (.cells #[.int .i64 a0, .int .i64 a1, .int .u64 a2, .int .i64 a3, .int .u64 a4] 31)).alloc (.cells #[.int .i64 b0, .int .i64 b1, .int .u64 b2, .int .i64 b3, .int .u64 b4] 31)) = W4 at *
    refine (alive_any _ RK.out).mono ?_
    rintro e wz ⟨rfl, hb⟩
    replace B := hide (B.out.trans (hb.mono B.out.size))
    clear hb
    go_wp2
    go_ret
    exact ⟨rfl, B.out⟩
  subst hE
  have HI2 := hide (HIN.out rfl)
  clear HIN
  by_cases hd1 : d = 1
  · subst hd1
    have hd0b : ((1 : Int) == 0) = false := rfl
    have c0 := Vb.out.cell 0
    have c1 := Vb.out.cell 1
    have d0 := Xa.out.cell 0
    simp at c0 c1 d0
    go_wp2_with fail
    generalize ((w3.alloc (.cells #[.int .i64 a0, .int .i64 a1, .int .u64 a2, .int .i64 a3, .int .u64 a4] 31)).alloc (.cells #[.int .i64 b0, .int .i64 b1, .int .u64 b2, .int .i64 b3, .int .u64 b4] 31)) = W4 at *
    refine (HB.out a0 W4 SL.out).mono ?_
    rintro e w7 ⟨rfl, hb⟩
    replace Vb := hide (Vb.out.below hb)
    replace SL := hide (SL.out.below hb)
    replace RK := hide (RK.out.below hb)
    replace B := hide (B.out.trans (hb.mono B.out.size))
    clear hb c0 c1 d0
    obtain ⟨h8, h9⟩ := HI2.out.2 (by omega)
    rcases hf3 : f a0 with ⟨A3, B3, E3⟩
    simp only [hf3] at h8 h9
    subst h8
    obtain ⟨p0, p1, p2, p3, p4⟩ := A3
    obtain ⟨q0, q1, q2, q3, q4⟩ := B3
    simp only [Rf.cells] at h9 ⊢
    subst q0
    clear hf3
    have b9 := ((Below.refl w7.heap.size w7).alloc (Nat.le_refl _) (.cells #[.int .i64 p0, .int .i64 p1, .int .u64 p2, .int .i64 p3, .int .u64 p4] 31)).alloc (by simp) (.cells #[.int .i64 1, .int .i64 q1, .int .u64 q2, .int .i64 q3, .int .u64 q4] 31)
    have Xp : Hid (IsB ((w7.alloc (.cells #[.int .i64 p0, .int .i64 p1, .int .u64 p2, .int .i64 p3, .int .u64 p4] 31)).alloc (.cells #[.int .i64 1, .int .i64 q1, .int .u64 q2, .int .i64 q3, .int .u64 q4] 31)) w7.heap.size #[.int .i64 p0, .int .i64 p1, .int .u64 p2, .int .i64 p3, .int .u64 p4] 31) := (IsB.new w7 #[.int .i64 p0, .int .i64 p1, .int .u64 p2, .int .i64 p3, .int .u64 p4] _).below ((Below.refl _ _).alloc (Nat.le_refl _) _)
    have Xq : Hid (IsB ((w7.alloc (.cells #[.int .i64 p0, .int .i64 p1, .int .u64 p2, .int .i64 p3, .int .u64 p4] 31)).alloc (.cells #[.int .i64 1, .int .i64 q1, .int .u64 q2, .int .i64 q3, .int .u64 q4] 31)) (w7.heap.size + 1) #[.int .i64 1, .int .i64 q1, .int .u64 q2, .int .i64 q3, .int .u64 q4] 31) := by
      have := IsB.new (w7.alloc (.cells #[.int .i64 p0, .int .i64 p1, .int .u64 p2, .int .i64 p3, .int .u64 p4] 31)) #[.int .i64 1, .int .i64 q1, .int .u64 q2, .int .i64 q3, .int .u64 q4] 31
      rwa [World.size_alloc] at this
    replace Vb := hide (Vb.out.below b9)
    replace SL := hide (SL.out.below b9)
    replace RK := hide (RK.out.below b9)
    replace B := hide (B.out.trans (b9.mono B.out.size))
    clear b9
    go_wp2_with fail
    generalize ((w7.alloc (.cells #[.int .i64 p0, .int .i64 p1, .int .u64 p2, .int .i64 p3, .int .u64 p4] 31)).alloc (.cells #[.int .i64 1, .int .i64 q1, .int .u64 q2, .int .i64 q3, .int .u64 q4] 31)) = W8 at *
    refine (alive_any _ RK.out).mono ?_
    rintro e wz ⟨rfl, hb⟩
    replace B := hide (B.out.trans (hb.mono B.out.size))
    clear hb
    go_wp2
    go_ret
    exact ⟨rfl, B.out⟩
  · have hd1b : (d == 1) = false := by simpa using hd1
    have c0 := Vb.out.cell 0
    have c1 := Vb.out.cell 1
    have d0 := Xb.out.cell 0
    simp at c0 c1 d0
    go_wp2_with fail
    generalize ((w3.alloc (.cells #[.int .i64 a0, .int .i64 a1, .int .u64 a2, .int .i64 a3, .int .u64 a4] 31)).alloc (.cells #[.int .i64 b0, .int .i64 b1, .int .u64 b2, .int .i64 b3, .int .u64 b4] 31)) = W4 at *
    generalize w3.heap.size = AB at Xa Xb ⊢
    refine (HB.out b0 W4 SL.out).mono ?_
    rintro e w5 ⟨rfl, hb⟩
    replace Vb := hide (Vb.out.below hb)
    replace SL := hide (SL.out.below hb)
    replace RK := hide (RK.out.below hb)
    replace Xa := hide (Xa.out.below hb)
    replace B := hide (B.out.trans (hb.mono B.out.size))
    clear hb c0 c1 d0
    obtain ⟨h8, h9⟩ := HI2.out.1 hd1
    rcases hf2 : f b0 with ⟨A2, B2, E2⟩
    simp only [hf2] at h8 h9
    subst h8
    obtain ⟨m0, m1, m2, m3, m4⟩ := A2
    obtain ⟨n0, n1, n2, n3, n4⟩ := B2
    simp only [Rf.cells] at h9 ⊢
    subst m0
    clear hf2
    have b9 := ((Below.refl w5.heap.size w5).alloc (Nat.le_refl _) (.cells #[.int .i64 d, .int .i64 m1, .int .u64 m2, .int .i64 m3, .int .u64 m4] 31)).alloc (by simp) (.cells #[.int .i64 n0, .int .i64 n1, .int .u64 n2, .int .i64 n3, .int .u64 n4] 31)
    have Xm : Hid (IsB ((w5.alloc (.cells #[.int .i64 d, .int .i64 m1, .int .u64 m2, .int .i64 m3, .int .u64 m4] 31)).alloc (.cells #[.int .i64 n0, .int .i64 n1, .int .u64 n2, .int .i64 n3, .int .u64 n4] 31)) w5.heap.size #[.int .i64 d, .int .i64 m1, .int .u64 m2, .int .i64 m3, .int .u64 m4] 31) := (IsB.new w5 #[.int .i64 d, .int .i64 m1, .int .u64 m2, .int .i64 m3, .int .u64 m4] _).below ((Below.refl _ _).alloc (Nat.le_refl _) _)
    have Xn : Hid (IsB ((w5.alloc (.cells #[.int .i64 d, .int .i64 m1, .int .u64 m2, .int .i64 m3, .int .u64 m4] 31)).alloc (.cells #[.int .i64 n0, .int .i64 n1, .int .u64 n2, .int .i64 n3, .int .u64 n4] 31)) (w5.heap.size + 1) #[.int .i64 n0, .int .i64 n1, .int .u64 n2, .int .i64 n3, .int .u64 n4] 31) := by
      have := IsB.new (w5.alloc (.cells #[.int .i64 d, .int .i64 m1, .int .u64 m2, .int .i64 m3, .int .u64 m4] 31)) #[.int .i64 n0, .int .i64 n1, .int .u64 n2, .int .i64 n3, .int .u64 n4] 31
      rwa [World.size_alloc] at this
    replace Vb := hide (Vb.out.below b9)
    replace SL := hide (SL.out.below b9)
    replace RK := hide (RK.out.below b9)
    replace Xa := hide (Xa.out.below b9)
    replace B := hide (B.out.trans (b9.mono B.out.size))
    clear b9
    by_cases hd0 : d = 0
    · subst hd0
      go_wp2_with fail
      generalize ((w5.alloc (.cells #[.int .i64 0, .int .i64 m1, .int .u64 m2, .int .i64 m3, .int .u64 m4] 31)).alloc (.cells #[.int .i64 n0, .int .i64 n1, .int .u64 n2, .int .i64 n3, .int .u64 n4] 31)) = W6 at *
      refine (alive_any _ RK.out).mono ?_
      rintro e wz ⟨rfl, hb⟩
      replace B := hide (B.out.trans (hb.mono B.out.size))
      clear hb
      go_wp2
      go_ret
      exact ⟨rfl, B.out⟩
    · have hd0b : (d == 0) = false := by simpa using hd0
      have c0 := Vb.out.cell 0
      have c1 := Vb.out.cell 1
      have d0 := Xa.out.cell 0
      simp at c0 c1 d0
      go_wp2_with fail
      generalize ((w5.alloc (.cells #[.int .i64 d, .int .i64 m1, .int .u64 m2, .int .i64 m3, .int .u64 m4] 31)).alloc (.cells #[.int .i64 n0, .int .i64 n1, .int .u64 n2, .int .i64 n3, .int .u64 n4] 31)) = W6 at *
      refine (HB.out a0 W6 SL.out).mono ?_
      rintro e w7 ⟨rfl, hb⟩
      replace Vb := hide (Vb.out.below hb)
      replace SL := hide (SL.out.below hb)
      replace RK := hide (RK.out.below hb)
      replace B := hide (B.out.trans (hb.mono B.out.size))
      clear hb c0 c1 d0
      obtain ⟨h8, h9⟩ := HI2.out.2 hd0
      rcases hf3 : f a0 with ⟨A3, B3, E3⟩
      simp only [hf3] at h8 h9
      subst h8
      obtain ⟨p0, p1, p2, p3, p4⟩ := A3
      obtain ⟨q0, q1, q2, q3, q4⟩ := B3
      simp only [Rf.cells] at h9 ⊢
      subst q0
      clear hf3
      have b9 := ((Below.refl w7.heap.size w7).alloc (Nat.le_refl _) (.cells #[.int .i64 p0, .int .i64 p1, .int .u64 p2, .int .i64 p3, .int .u64 p4] 31)).alloc (by simp) (.cells #[.int .i64 d, .int .i64 q1, .int .u64 q2, .int .i64 q3, .int .u64 q4] 31)
      have Xp : Hid (IsB ((w7.alloc (.cells #[.int .i64 p0, .int .i64 p1, .int .u64 p2, .int .i64 p3, .int .u64 p4] 31)).alloc (.cells #[.int .i64 d, .int .i64 q1, .int .u64 q2, .int .i64 q3, .int .u64 q4] 31)) w7.heap.size #[.int .i64 p0, .int .i64 p1, .int .u64 p2, .int .i64 p3, .int .u64 p4] 31) := (IsB.new w7 #[.int .i64 p0, .int .i64 p1, .int .u64 p2, .int .i64 p3, .int .u64 p4] _).below ((Below.refl _ _).alloc (Nat.le_refl _) _)
      have Xq : Hid (IsB ((w7.alloc (.cells #[.int .i64 p0, .int .i64 p1, .int .u64 p2, .int .i64 p3, .int .u64 p4] 31)).alloc (.cells #[.int .i64 d, .int .i64 q1, .int .u64 q2, .int .i64 q3, .int .u64 q4] 31)) (w7.heap.size + 1) #[.int .i64 d, .int .i64 q1, .int .u64 q2, .int .i64 q3, .int .u64 q4] 31) := by
        have := IsB.new (w7.alloc (.cells #[.int .i64 p0, .int .i64 p1, .int .u64 p2, .int .i64 p3, .int .u64 p4] 31)) #[.int .i64 d, .int .i64 q1, .int .u64 q2, .int .i64 q3, .int .u64 q4] 31
        rwa [World.size_alloc] at this
      replace Vb := hide (Vb.out.below b9)
      replace SL := hide (SL.out.below b9)
      replace RK := hide (RK.out.below b9)
      replace B := hide (B.out.trans (b9.mono B.out.size))
      clear b9
      go_wp2_with fail
      generalize ((w7.alloc (.cells #[.int .i64 p0, .int .i64 p1, .int .u64 p2, .int .i64 p3, .int .u64 p4] 31)).alloc (.cells #[.int .i64 d, .int .i64 q1, .int .u64 q2, .int .i64 q3, .int .u64 q4] 31)) = W8 at *
      refine (alive_any _ RK.out).mono ?_
      rintro e wz ⟨rfl, hb⟩
      replace B := hide (B.out.trans (hb.mono B.out.size))
      clear hb
      go_wp2
      go_ret
      exact ⟨rfl, B.out⟩

end Go.Proofs.YtlcchljjfhaefaaDoor
