/- GraphBeside: both say the same. -/
import Derived.Test.YtpngegdkcgoajaaDoorNG
namespace Go.Proofs.YtpngegdkcgoajaaDoor
open Go.RowKit Go.Maps Go.ChangeMaps

theorem klt_keyLt (y z : Rf) : klt (y.rk, y.kn) (z.rk, z.kn) = decide (keyLt y z) := by
  rw [klt_dec]
  rfl
theorem insL_cons (y z : Rf) (m : List Rf) : insL (y :: m) z = if keyLt y z then y :: insL m z else z :: y :: m := by
  unfold insL
  by_cases h : keyLt y z
  · rw [if_pos h, List.takeWhile_cons, List.dropWhile_cons, klt_keyLt, decide_eq_true h]
    rfl
  · rw [if_neg h, List.takeWhile_cons, List.dropWhile_cons, klt_keyLt, decide_eq_false h]
    rfl
theorem keyLt_tr {a b c : Rf} (h : keyLt a b) (g : keyLt b c) : keyLt a c := by unfold keyLt at *; omega
theorem ins_ok (z : Rf) : ∀ m : List Rf, m.Pairwise keyLt → (∀ y ∈ m, (y.rk, y.kn) ≠ (z.rk, z.kn)) → (insL m z).Pairwise keyLt ∧ (insL m z).Perm (z :: m)
  | [], _, _ => by simp [insL]
  | y :: m, hp, hk => by
    obtain ⟨h1, h2⟩ := List.pairwise_cons.1 hp
    obtain ⟨i1, i2⟩ := ins_ok z m h2 (fun e he => hk e (List.mem_cons_of_mem _ he))
    rw [insL_cons]
    by_cases h : keyLt y z
    · rw [if_pos h]
      refine ⟨List.pairwise_cons.2 ⟨fun e he => ?_, i1⟩, (i2.cons y).trans (List.Perm.swap z y m)⟩
      rcases List.mem_cons.1 (i2.mem_iff.1 he) with rfl | he
      · exact h
      · exact h1 e he
    · rw [if_neg h]
      have hz : keyLt z y := by
        have h3 := hk y List.mem_cons_self
        simp only [ne_eq, Prod.mk.injEq, not_and] at h3
        unfold keyLt at h ⊢
        by_cases e : y.rk = z.rk
        · have := h3 e
          omega
        · omega
      refine ⟨List.pairwise_cons.2 ⟨fun e he => ?_, hp⟩, List.Perm.refl _⟩
      rcases List.mem_cons.1 he with rfl | he
      · exact hz
      · exact keyLt_tr hz (h1 e he)
theorem sort_ok : ∀ (l a : List Rf), a.Pairwise keyLt → ((a ++ l).map fun x => (x.rk, x.kn)).Nodup → (l.foldl insL a).Pairwise keyLt ∧ (l.foldl insL a).Perm (a ++ l)
  | [], a, h, _ => by simp [h]
  | z :: l, a, h, hn => by
    have hk : ∀ y ∈ a, (y.rk, y.kn) ≠ (z.rk, z.kn) := fun y hy e => by
      rw [List.map_append] at hn
      have := (List.nodup_append.1 hn).2.2 (y.rk, y.kn) (List.mem_map.2 ⟨y, hy, rfl⟩) (z.rk, z.kn) (by simp)
      exact this e
    obtain ⟨i1, i2⟩ := ins_ok z a h hk
    have hpm : (insL a z ++ l).Perm (a ++ z :: l) := (i2.append_right l).trans List.perm_middle.symm
    obtain ⟨j1, j2⟩ := sort_ok l (insL a z) i1 (((hpm.map _).nodup_iff).2 hn)
    exact ⟨j1, j2.trans hpm⟩
theorem bgS_prV {h x y : Int} {r : Rf} (hm : mayR h r = true) (hv : (rt x y && decide (x ≤ h)) = true) : bgS r.ln r.bt x y = decide (prV x r = (x, y)) := by
  unfold mayR at hm
  simp only [Bool.and_eq_true, decide_eq_true_eq] at hm hv
  unfold bgS prV
  rw [hm.2.2.2.1, hv.1, hm.2.2.2.2, decide_eq_true hv.2]
  simp
theorem doc_same {h x y d : Int} {l m : List Rf} (hg : okG h l) (hp : m.Perm l) (hs : m.Pairwise keyLt) : docB h x y d l = besE h (x, y) d m := by
  by_cases hv : (rt x y && decide (x ≤ h)) = true
  · have hf : l.filter (fun r => bgS r.ln r.bt x y) = l.filter (fun r => decide (prV x r = (x, y))) := List.filter_congr fun r hr => bgS_prV (hg.2.1.1 r hr) hv
    have hn : ((l.filter fun r => decide (prV x r = (x, y))).map fun x => (x.rk, x.kn)).Nodup := hg.2.2.sublist (List.filter_sublist.map _)
    obtain ⟨s1, s2⟩ := sort_ok (l.filter fun r => decide (prV x r = (x, y))) [] List.Pairwise.nil hn
    have he : sortL (l.filter fun r => bgS r.ln r.bt x y) = flt x (x, y) m := by
      rw [hf]
      exact sorted_one s2 (hp.filter _) s1 (hs.sublist List.filter_sublist)
    unfold docB besE
    rw [if_pos hg, if_pos hv, if_pos hv, he]
  · have hv2 : (rt x y && decide (x ≤ h)) = false := by simpa using hv
    rw [docB_vec hg hv2]
    unfold besE
    rw [if_neg hv]

set_option maxHeartbeats 4000000 in
set_option maxRecDepth 100000 in
theorem beside_law (h x y d : Int) (hy : 0 ≤ y) (v : Value) (l0 : List Rf) (hbt0 : ∀ r ∈ l0, 0 ≤ r.bt) (w : World) (hR : Ranks w) (hs : RSl w v l0) : Calls Tryd.prog 3 #[.int .i64 h, (.agg #[.int .i64 (x), .int .u64 (y)]), .int .i64 d, v] w fun e w' => e = .returned (.bool true) ∧ Below w.heap.size w w' := by
  obtain ⟨v1, hs1, hF⟩ := few_at v l0 w hs
  have hbt : ∀ r ∈ l0.take 12, 0 ≤ r.bt := fun r hr => hbt0 r (List.mem_of_mem_take hr)
  have hl : (l0.take 12).length ≤ 1000 := by rw [List.length_take]; omega
  generalize l0.take 12 = l at *
  obtain ⟨f, hf, hcase⟩ := beside_all h x y hy v1 l hl hbt
  have hSAME : docB h x y d l = f d := by
    rcases hcase with ⟨hg, h9⟩ | ⟨m, hg, hp, hso, -, h9⟩
    · rw [docB_bad hg, h9]
    · rw [doc_same hg hp hso, h9]
  have HD : Hid (∀ W, RSl W v1 l → Calls Tryd.prog 7 #[.int .i64 h, (.agg #[.int .i64 (x), .int .u64 (y)]), .int .i64 d, v1] W fun e' w' => e' = .returned (.tuple #[.agg (f d).1.cells, .agg (f d).2.1.cells, .int .i64 (f d).2.2]) ∧ Below W.heap.size W w') := fun W hW => by
    have := rbeside_doc h x y d hy v1 l hl hbt W hW
    rw [hSAME] at this
    exact this
  have HB0 := hf d
  have HF := hide hF
  have HB := hide HB0
  have b1 := gal1 w (.cells #[.int .i64 x, .int .u64 y] 24)
  have Vb := hide (IsB.new w #[.int .i64 x, .int .u64 y] 24)
  have SL := hide (hs1.below b1)
  have RK := hide (hR.below b1)
  have B := hide b1
  clear b1 hs hs1 hR hF hf hcase hbt hl hbt0 hSAME HB0
  obtain ⟨A, Bq, E, hfd⟩ : ∃ A Bq E, f d = (A, Bq, E) := ⟨_, _, _, rfl⟩
  rw [hfd] at HB HD
  clear hfd
  obtain ⟨a0, a1, a2, a3, a4⟩ := A
  obtain ⟨b0, b1, b2, b3, b4⟩ := Bq
  go_enter Tryd.func3, Tryd.ntmps3
  go_wp2_with fail
  generalize w.alloc (.cells #[.int .i64 x, .int .u64 y] 24) = W1 at *
  obtain ⟨H, hH⟩ : ∃ H, w.heap.size = H := ⟨_, rfl⟩
  have HH := hide hH
  rw [hH] at Vb B ⊢
  clear hH
  refine (HF.out W1).mono ?_
  intro e w2 hE2
  obtain ⟨rfl, hw2⟩ := hE2
  rw [hw2]
  clear hw2 w2 HF
  have LV := hide (ld_v2 Vb.out)
  go_wp2_with (first | (focus ((with_reducible refine wpList_load_w ?_ 24 (.tmp 5) ?_ ?_ LV.out ?_); rotate_left; rfl; rfl; rotate_left; rfl)))
  refine (HB.out W1 SL.out).mono ?_
  rintro e w3 ⟨rfl, hb⟩
  replace Vb := hide (Vb.out.below hb)
  replace SL := hide (SL.out.below hb)
  replace RK := hide (RK.out.below hb)
  replace B := hide (B.out.trans (hb.mono (Nat.le_trans (Nat.le_of_eq HH.out.symm) B.out.size)))
  clear hb LV HB
  have b91 := ((Below.refl w3.heap.size w3).alloc (Nat.le_refl _) (.cells #[.int .i64 a0, .int .i64 a1, .int .u64 a2, .int .i64 a3, .int .u64 a4] 31)).alloc (by simp) (.cells #[.int .i64 b0, .int .i64 b1, .int .u64 b2, .int .i64 b3, .int .u64 b4] 31)
  have Xa : Hid (IsB ((w3.alloc (.cells #[.int .i64 a0, .int .i64 a1, .int .u64 a2, .int .i64 a3, .int .u64 a4] 31)).alloc (.cells #[.int .i64 b0, .int .i64 b1, .int .u64 b2, .int .i64 b3, .int .u64 b4] 31)) w3.heap.size #[.int .i64 a0, .int .i64 a1, .int .u64 a2, .int .i64 a3, .int .u64 a4] 31) := (IsB.new w3 _ _).below ((Below.refl _ _).alloc (Nat.le_refl _) _)
  have Xb : Hid (IsB ((w3.alloc (.cells #[.int .i64 a0, .int .i64 a1, .int .u64 a2, .int .i64 a3, .int .u64 a4] 31)).alloc (.cells #[.int .i64 b0, .int .i64 b1, .int .u64 b2, .int .i64 b3, .int .u64 b4] 31)) (w3.heap.size + 1) #[.int .i64 b0, .int .i64 b1, .int .u64 b2, .int .i64 b3, .int .u64 b4] 31) := by
    have h7 := IsB.new (w3.alloc (.cells #[.int .i64 a0, .int .i64 a1, .int .u64 a2, .int .i64 a3, .int .u64 a4] 31)) #[.int .i64 b0, .int .i64 b1, .int .u64 b2, .int .i64 b3, .int .u64 b4] 31
    rw [World.size_alloc] at h7
    exact h7
  replace Vb := hide (Vb.out.below b91)
  replace SL := hide (SL.out.below b91)
  replace RK := hide (RK.out.below b91)
  replace B := hide (B.out.trans (b91.mono (Nat.le_trans (Nat.le_of_eq HH.out.symm) B.out.size)))
  have LV := hide (ld_v2 Vb.out)
  clear b91
  simp only [Rf.cells]
  go_wp2_with (first | (focus ((with_reducible refine wpList_load_w ?_ 24 (.tmp 5) ?_ ?_ LV.out ?_); rotate_left; rfl; rfl; rotate_left; rfl)))
  generalize hW4 : ((w3.alloc (.cells #[.int .i64 a0, .int .i64 a1, .int .u64 a2, .int .i64 a3, .int .u64 a4] 31)).alloc (.cells #[.int .i64 b0, .int .i64 b1, .int .u64 b2, .int .i64 b3, .int .u64 b4] 31)) = W4 at *
  clear hW4 LV
  generalize w3.heap.size = N at *
  refine (HD.out W4 SL.out).mono ?_
  rintro e w5 ⟨rfl, hb⟩
  replace Xa := hide (Xa.out.below hb)
  replace Xb := hide (Xb.out.below hb)
  replace RK := hide (RK.out.below hb)
  replace B := hide (B.out.trans (hb.mono (Nat.le_trans (Nat.le_of_eq HH.out.symm) B.out.size)))
  clear hb HD Vb SL
  have b92 := ((Below.refl w5.heap.size w5).alloc (Nat.le_refl _) (.cells #[.int .i64 a0, .int .i64 a1, .int .u64 a2, .int .i64 a3, .int .u64 a4] 31)).alloc (by simp) (.cells #[.int .i64 b0, .int .i64 b1, .int .u64 b2, .int .i64 b3, .int .u64 b4] 31)
  have Ya : Hid (IsB ((w5.alloc (.cells #[.int .i64 a0, .int .i64 a1, .int .u64 a2, .int .i64 a3, .int .u64 a4] 31)).alloc (.cells #[.int .i64 b0, .int .i64 b1, .int .u64 b2, .int .i64 b3, .int .u64 b4] 31)) w5.heap.size #[.int .i64 a0, .int .i64 a1, .int .u64 a2, .int .i64 a3, .int .u64 a4] 31) := (IsB.new w5 _ _).below ((Below.refl _ _).alloc (Nat.le_refl _) _)
  have Yb : Hid (IsB ((w5.alloc (.cells #[.int .i64 a0, .int .i64 a1, .int .u64 a2, .int .i64 a3, .int .u64 a4] 31)).alloc (.cells #[.int .i64 b0, .int .i64 b1, .int .u64 b2, .int .i64 b3, .int .u64 b4] 31)) (w5.heap.size + 1) #[.int .i64 b0, .int .i64 b1, .int .u64 b2, .int .i64 b3, .int .u64 b4] 31) := by
    have h7 := IsB.new (w5.alloc (.cells #[.int .i64 a0, .int .i64 a1, .int .u64 a2, .int .i64 a3, .int .u64 a4] 31)) #[.int .i64 b0, .int .i64 b1, .int .u64 b2, .int .i64 b3, .int .u64 b4] 31
    rw [World.size_alloc] at h7
    exact h7
  replace Xa := hide (Xa.out.below b92)
  replace Xb := hide (Xb.out.below b92)
  replace RK := hide (RK.out.below b92)
  replace B := hide (B.out.trans (b92.mono (Nat.le_trans (Nat.le_of_eq HH.out.symm) B.out.size)))
  clear b92
  have l1 := hide (load_ref Xa.out rfl)
  have l2 := hide (load_ref Ya.out rfl)
  have l3 := hide (load_ref Xb.out rfl)
  have l4 := hide (load_ref Yb.out rfl)
  have E1 : Hid ((binOp .eql 31 (.agg #[.int .i64 a0, .int .i64 a1, .int .u64 a2, .int .i64 a3, .int .u64 a4]) (.agg #[.int .i64 a0, .int .i64 a1, .int .u64 a2, .int .i64 a3, .int .u64 a4])).run Tryd.prog ((w5.alloc (.cells #[.int .i64 a0, .int .i64 a1, .int .u64 a2, .int .i64 a3, .int .u64 a4] 31)).alloc (.cells #[.int .i64 b0, .int .i64 b1, .int .u64 b2, .int .i64 b3, .int .u64 b4] 31)) = .ok (.bool true) ((w5.alloc (.cells #[.int .i64 a0, .int .i64 a1, .int .u64 a2, .int .i64 a3, .int .u64 a4] 31)).alloc (.cells #[.int .i64 b0, .int .i64 b1, .int .u64 b2, .int .i64 b3, .int .u64 b4] 31))) := (eqr _ _ _ _ _ _ _ _ _ _ _).trans (by simp)
  have E2 : Hid ((binOp .eql 31 (.agg #[.int .i64 b0, .int .i64 b1, .int .u64 b2, .int .i64 b3, .int .u64 b4]) (.agg #[.int .i64 b0, .int .i64 b1, .int .u64 b2, .int .i64 b3, .int .u64 b4])).run Tryd.prog ((w5.alloc (.cells #[.int .i64 a0, .int .i64 a1, .int .u64 a2, .int .i64 a3, .int .u64 a4] 31)).alloc (.cells #[.int .i64 b0, .int .i64 b1, .int .u64 b2, .int .i64 b3, .int .u64 b4] 31)) = .ok (.bool true) ((w5.alloc (.cells #[.int .i64 a0, .int .i64 a1, .int .u64 a2, .int .i64 a3, .int .u64 a4] 31)).alloc (.cells #[.int .i64 b0, .int .i64 b1, .int .u64 b2, .int .i64 b3, .int .u64 b4] 31))) := (eqr _ _ _ _ _ _ _ _ _ _ _).trans (by simp)
  have dE : (E == E) = true := by simp
  simp only [Rf.cells]
  go_wp2_with (first | (focus ((with_reducible refine wpList_load_w ?_ 31 (.tmp 9) ?_ ?_ l1.out ?_); rotate_left; rfl; rfl; rotate_left; rfl)) | (focus ((with_reducible refine wpList_load_w ?_ 31 (.tmp 12) ?_ ?_ l2.out ?_); rotate_left; rfl; rfl; rotate_left; rfl)) | (focus ((with_reducible refine wpList_load_w ?_ 31 (.tmp 10) ?_ ?_ l3.out ?_); rotate_left; rfl; rfl; rotate_left; rfl)) | (focus ((with_reducible refine wpList_load_w ?_ 31 (.tmp 13) ?_ ?_ l4.out ?_); rotate_left; rfl; rfl; rotate_left; rfl)) | (focus ((with_reducible refine wpList_bin_w ?_ .eql 31 (.tmp 35) (.tmp 36) 31 ?_ ?_ ?_ ⟨rguard, E1.out⟩ ?_); rotate_left; rfl; rfl; rfl; rotate_left; rfl)) | (focus ((with_reducible refine wpList_bin_w ?_ .eql 31 (.tmp 39) (.tmp 40) 31 ?_ ?_ ?_ ⟨rguard, E2.out⟩ ?_); rotate_left; rfl; rfl; rfl; rotate_left; rfl)))
  refine (alive_any _ RK.out).mono ?_
  rintro e w7 ⟨rfl, hb⟩
  have B7 := hide (B.out.trans (hb.mono (Nat.le_trans (Nat.le_of_eq HH.out.symm) B.out.size)))
  clear hb
  go_wp2
  go_ret
  exact ⟨rfl, HH.out.symm ▸ B7.out⟩

end Go.Proofs.YtpngegdkcgoajaaDoor
