/- GraphWays: both say the same. -/
import Derived.Test.YtjkgacbckdipgaaDoorNO
namespace Go.Proofs.YtjkgacbckdipgaaDoor
open Go.RowKit Go.Maps Go.ChangeMaps

theorem goR_len {h : Int} {m : List Rf} (M : Mem h m) {tg : Rf} (hh : ¬keyLt (tlR h) tg) : ∀ (n : Nat) (r : Rf), InvR h m tg r → (goR h m tg n r).1.length ≤ (n + 1) * 1003
  | 0, r, I => by
    obtain ⟨i, -, hpi, -⟩ := I.at M hh 0
    have := stepR_len M (tg := tg) hpi
    simpa [goR] using this
  | n + 1, r, I => by
    obtain ⟨i, -, hpi, -⟩ := I.at M hh ((n + 1 : Nat) : Int)
    have h1 := stepR_len M (tg := tg) hpi
    have h2 := goR_len M hh n _ (I.next hh ((n + 1 : Nat) : Int))
    simp only [goR, List.length_append, List.length_map]
    rw [Nat.succ_mul (n + 1)]
    omega
theorem goL_len {h : Int} {m : List Rf} (M : Mem h m) {tg : Rf} (hh : keyLt (hdR h) tg) : ∀ (n : Nat) (r : Rf), InvL h m tg r → (goL h m tg n r).1.length ≤ (n + 1) * 1003
  | 0, r, I => by
    obtain ⟨i, hi, hpi, -⟩ := I.at M hh 0
    have := stepL_len M (tg := tg) hpi hi
    simpa [goL] using this
  | n + 1, r, I => by
    obtain ⟨i, hi, hpi, -⟩ := I.at M hh ((n + 1 : Nat) : Int)
    have h1 := stepL_len M (tg := tg) hpi hi
    have h2 := goL_len M hh n _ (I.next hh (k := ((n + 1 : Nat) : Int)) (by omega))
    simp only [goL, List.length_append, List.length_map]
    rw [Nat.succ_mul (n + 1)]
    omega
theorem small_len {h : Int} (h32 : h ≤ 32) {x : Nat} (hx : x ≤ (h.toNat + 1) * 1003) : x ≤ 100000 := by
  have h1 : h.toNat ≤ 32 := by omega
  have h2 : (h.toNat + 1) * 1003 ≤ 33 * 1003 := Nat.mul_le_mul (by omega) (Nat.le_refl _)
  omega

set_option maxHeartbeats 1000000 in
theorem ways_both (h d tr tn : Int) (htn : 0 ≤ tn) (v : Value) (l : List Rf) (hl : l.length ≤ 1000) (hbt : ∀ r ∈ l, 0 ≤ r.bt) :
    ∃ (wy : List Hp) (a b : Rf) (e : Int), wy.length ≤ 100001 ∧ (∀ W, Ranks W → RSl W v l → Calls Tryd.prog 5 #[.int .i64 h, .int .i64 d, .agg #[.int .i64 tr, .int .u64 tn], v] W fun e' w' => ∃ wv', e' = .returned (.tuple #[wv', .agg a.cells, .agg b.cells, .int .i64 e]) ∧ Rw w' 57 6 wv' wy.length (hps wy) ∧ Below W.heap.size W w') ∧ (∀ W, RSl W v l → Calls Tryd.prog 6 #[.int .i64 h, .int .i64 d, .agg #[.int .i64 tr, .int .u64 tn], v] W fun e' w' => ∃ wv', e' = .returned (.tuple #[wv', .agg a.cells, .agg b.cells, .int .i64 e]) ∧ Rw w' 57 6 wv' wy.length (hps wy) ∧ Below W.heap.size W w') := by
  have hnil : ∀ w' : World, Rw w' 57 6 (.slice none 0 0) ([] : List Hp).length (hps []) := fun w' => ⟨rfl, Or.inl ⟨rfl, rfl⟩⟩
  by_cases hg : okG h l
  rotate_left
  · exact ⟨[], zr, zr, 110, by simp, fun W hR hs => (way_bad h d tr tn v l hl hbt hg W hR hs).mono fun e' w' hq => ⟨_, hq.1, hnil w', hq.2⟩, fun W hs => (wayd_bad h d tr tn v l hl hg W hs).mono fun e' w' hq => ⟨_, hq.1, hnil w', hq.2⟩⟩
  obtain ⟨m, hp, hso⟩ := ex_sorted hg.2.2
  have M := Mem.of hg hbt hl hp
  have hAll := allRow_flt hg hp hso hbt hl
  have hids : ((rowL h m).map (·.id)).Nodup := by
    have h1 := M.row_ids 0 (prV 0 (hdR h))
    rwa [flt_zero m (fun q hq => ⟨(M.mem_ok hq).1, (M.mem_ok hq).2.1⟩) (hdR h) ⟨M.end_ok.1.1, M.end_ok.1.2.1⟩] at h1
  rcases plI_cases d (rowL h m) with ⟨h1, h2⟩ | ⟨i, hi, h1, h2⟩
  · have hF : (lastD d (allRow h l)).2 = false := by rw [hAll, lastD_non h2]
    exact ⟨[], zr, zr, 111, by simp, fun W hR hs => (way_none h d tr tn v l hl hbt hg m hp hso (by omega) W hR hs).mono fun e' w' hq => ⟨_, hq.1, hnil w', hq.2⟩, fun W hs => (wayd_none h d tr tn v l hl hbt hg hF W hs).mono fun e' w' hq => ⟨_, hq.1, hnil w', hq.2⟩⟩
  have hF : lastD d (allRow h l) = ((rowL h m)[i], true) := by rw [hAll]; exact lastD_at hids hi h2
  by_cases hck : ckE tr tn = 0
  rotate_left
  · exact ⟨[], zr, zr, 1, by simp, fun W hR hs => (way_arg h d tr tn v l hl hbt hg m hp hso (by omega) hck W hR hs).mono fun e' w' hq => ⟨_, hq.1, hnil w', hq.2⟩, fun W hs => (wayd_arg h d tr tn v l hl hbt hg (by rw [hF]) hck W hs).mono fun e' w' hq => ⟨_, hq.1, hnil w', hq.2⟩⟩
  by_cases htr : tr = 1
  · subst htr
    exact ⟨[(h, (rowL h m)[i])], zr, hdR h, 0, by simp, fun W hR hs => way_low h d tn v l hl hbt hg m hp hso i hi h1 hck W hR hs, fun W hs => wayd_low h d tn v l hl hbt hg _ hF hck W hs⟩
  have hck2 : tr = 2 ∨ tr = 3 ∧ tn = 0 := by
    unfold ckE at hck
    split at hck
    · omega
    · cases hck
  have hh1 : keyLt (hdR h) (tgR tr tn) := by unfold keyLt hdR tgR; left; simp; omega
  have hh2 : ¬keyLt (tlR h) (tgR tr tn) := by unfold keyLt tlR tgR; simp; omega
  have hmem : (rowL h m)[i] = hdR h ∨ (rowL h m)[i] ∈ m ∨ (rowL h m)[i] = tlR h := by
    have hm2 : ∀ x ∈ rowL h m, x = hdR h ∨ x ∈ m ∨ x = tlR h := fun x hx => by unfold rowL at hx; simpa using hx
    exact hm2 _ (List.getElem_mem hi)
  have hhn : ((h.toNat : Nat) : Int) = h := Int.toNat_of_nonneg M.h0
  have hor : okR h (rowL h m)[i] := by
    rcases hmem with e | e | e
    · rw [e]; exact M.end_ok.1
    · exact M.mem_ok e
    · rw [e]; exact M.end_ok.2
  by_cases hk : keyLt (rowL h m)[i] (tgR tr tn)
  · have I : InvR h m (tgR tr tn) (rowL h m)[i] := ⟨by
      rcases hmem with e | e | e
      · exact Or.inr e
      · exact Or.inl e
      · rw [e] at hk; exact absurd hk hh2, hk⟩
    have hlen := small_len M.h32 (goR_len M hh2 h.toNat _ I)
    have hD := dwR hg hp hso M hh2 h.toNat _ (by omega) I
    rw [hhn] at hD
    obtain ⟨j, -, hj1, -, hok, -⟩ := goR_fin M hh2 h.toNat _ I
    have hend := nxD_end hg hp hso M hok hj1
    refine ⟨_, _, _, 0, ?_, fun W hR hs => way_right h d tr tn v l hl hbt hg m hp hso i hi h1 hck htr hh2 I W hR hs, fun W hs => ?_⟩
    · rw [List.length_cons]; omega
    · have := wayd_right h d tr tn v l hl hbt hg _ hF hck htr (by simpa using hk) hor _ _ (by omega) hD W hs
      rw [hend] at this
      exact this
  · have I : InvL h m (tgR tr tn) (rowL h m)[i] := ⟨by
      rcases hmem with e | e | e
      · rw [e] at hk; exact absurd hh1 hk
      · exact Or.inl e
      · exact Or.inr e, hk⟩
    have hlen := small_len M.h32 (goL_len M hh1 h.toNat _ I)
    have hD := dwL hg hp hso M hh1 h.toNat _ (by omega) I
    rw [hhn] at hD
    obtain ⟨j, -, hj1, -, hok, -⟩ := goL_fin M hh1 h.toNat _ I
    have hend := nxD_end hg hp hso M hok hj1
    refine ⟨_, _, _, 0, ?_, fun W hR hs => way_left h d tr tn v l hl hbt hg m hp hso i hi h1 hck htr hh1 I W hR hs, fun W hs => ?_⟩
    · rw [List.length_cons]; omega
    · have := wayd_left h d tr tn v l hl hbt hg _ hF hck htr (by simpa using hk) hor _ _ (by omega) hD W hs
      rw [hend] at this
      exact this

set_option maxHeartbeats 4000000 in
set_option maxRecDepth 100000 in
theorem ways_law (h d tr tn : Int) (htn : 0 ≤ tn) (v : Value) (l0 : List Rf) (hbt0 : ∀ r ∈ l0, 0 ≤ r.bt) (w : World) (hR : Ranks w) (hs : RSl w v l0) : Calls Tryd.prog 3 #[.int .i64 h, .int .i64 d, .agg #[.int .i64 tr, .int .u64 tn], v] w fun e w' => e = .returned (.bool true) ∧ Below w.heap.size w w' := by
  obtain ⟨v1, hs1, hF⟩ := few_at v l0 w hs
  have hbt : ∀ r ∈ l0.take 12, 0 ≤ r.bt := fun r hr => hbt0 r (List.mem_of_mem_take hr)
  have hl : (l0.take 12).length ≤ 1000 := by rw [List.length_take]; omega
  generalize l0.take 12 = l at *
  obtain ⟨wy, A, Bq, E, hlen, hP, hD⟩ := ways_both h d tr tn htn v1 l hl hbt
  have HP := hide hP
  have HD := hide hD
  have HF := hide hF
  have b1 := gal1 w (.cells #[.int .i64 tr, .int .u64 tn] 25)
  have Vb := hide (IsB.new w #[.int .i64 tr, .int .u64 tn] 25)
  have SL := hide (hs1.below b1)
  have RK := hide (hR.below b1)
  have B := hide b1
  clear b1 hs hs1 hR hF hP hD hbt hl hbt0
  obtain ⟨a0, a1, a2, a3, a4⟩ := A
  obtain ⟨b0, b1, b2, b3, b4⟩ := Bq
  generalize hn : wy.length = n at *
  have HN := hide hn
  clear hn
  go_enter Tryd.func3, Tryd.ntmps3
  go_wp2_with fail
  generalize w.alloc (.cells #[.int .i64 tr, .int .u64 tn] 25) = W1 at *
  obtain ⟨H, hH⟩ : ∃ H, w.heap.size = H := ⟨_, rfl⟩
  have HH := hide hH
  rw [hH] at Vb B ⊢
  clear hH
  refine (HF.out W1).mono ?_
  intro e w2 hE2
  obtain ⟨rfl, hw2⟩ := hE2
  rw [hw2]
  clear hw2 w2 HF
  have LV := hide (ld_k2 Vb.out)
  go_wp2_with (first | (focus ((with_reducible refine wpList_load_w ?_ 25 (.tmp 6) ?_ ?_ LV.out ?_); rotate_left; rfl; rfl; rotate_left; rfl)))
  refine (HP.out W1 RK.out SL.out).mono ?_
  rintro e w3 ⟨v3, rfl, R3', hb⟩
  have R3 := hide R3'
  replace Vb := hide (Vb.out.below hb)
  replace SL := hide (SL.out.below hb)
  replace RK := hide (RK.out.below hb)
  replace B := hide (B.out.trans (hb.mono (Nat.le_trans (Nat.le_of_eq HH.out.symm) B.out.size)))
  clear hb LV HP R3'
  have b91 := ((Below.refl w3.heap.size w3).alloc (Nat.le_refl _) (.cells #[.int .i64 a0, .int .i64 a1, .int .u64 a2, .int .i64 a3, .int .u64 a4] 32)).alloc (by simp) (.cells #[.int .i64 b0, .int .i64 b1, .int .u64 b2, .int .i64 b3, .int .u64 b4] 32)
  have Xa : Hid (IsB ((w3.alloc (.cells #[.int .i64 a0, .int .i64 a1, .int .u64 a2, .int .i64 a3, .int .u64 a4] 32)).alloc (.cells #[.int .i64 b0, .int .i64 b1, .int .u64 b2, .int .i64 b3, .int .u64 b4] 32)) w3.heap.size #[.int .i64 a0, .int .i64 a1, .int .u64 a2, .int .i64 a3, .int .u64 a4] 32) := (IsB.new w3 _ _).below ((Below.refl _ _).alloc (Nat.le_refl _) _)
  have Xb : Hid (IsB ((w3.alloc (.cells #[.int .i64 a0, .int .i64 a1, .int .u64 a2, .int .i64 a3, .int .u64 a4] 32)).alloc (.cells #[.int .i64 b0, .int .i64 b1, .int .u64 b2, .int .i64 b3, .int .u64 b4] 32)) (w3.heap.size + 1) #[.int .i64 b0, .int .i64 b1, .int .u64 b2, .int .i64 b3, .int .u64 b4] 32) := by
    have h7 := IsB.new (w3.alloc (.cells #[.int .i64 a0, .int .i64 a1, .int .u64 a2, .int .i64 a3, .int .u64 a4] 32)) #[.int .i64 b0, .int .i64 b1, .int .u64 b2, .int .i64 b3, .int .u64 b4] 32
    rw [World.size_alloc] at h7
    exact h7
  replace Vb := hide (Vb.out.below b91)
  replace SL := hide (SL.out.below b91)
  replace RK := hide (RK.out.below b91)
  replace R3 := hide (R3.out.below b91)
  replace B := hide (B.out.trans (b91.mono (Nat.le_trans (Nat.le_of_eq HH.out.symm) B.out.size)))
  have LV := hide (ld_k2 Vb.out)
  clear b91
  simp only [Rf.cells]
  go_wp2_with (first | (focus ((with_reducible refine wpList_load_w ?_ 25 (.tmp 6) ?_ ?_ LV.out ?_); rotate_left; rfl; rfl; rotate_left; rfl)))
  generalize hW4 : ((w3.alloc (.cells #[.int .i64 a0, .int .i64 a1, .int .u64 a2, .int .i64 a3, .int .u64 a4] 32)).alloc (.cells #[.int .i64 b0, .int .i64 b1, .int .u64 b2, .int .i64 b3, .int .u64 b4] 32)) = W4 at *
  clear hW4 LV
  generalize w3.heap.size = N at *
  refine (HD.out W4 SL.out).mono ?_
  rintro e w5 ⟨v5, rfl, R5', hb⟩
  have R5 := hide R5'
  replace Xa := hide (Xa.out.below hb)
  replace Xb := hide (Xb.out.below hb)
  replace RK := hide (RK.out.below hb)
  replace R3 := hide (R3.out.below hb)
  replace B := hide (B.out.trans (hb.mono (Nat.le_trans (Nat.le_of_eq HH.out.symm) B.out.size)))
  clear hb HD Vb SL R5'
  have b92 := ((Below.refl w5.heap.size w5).alloc (Nat.le_refl _) (.cells #[.int .i64 a0, .int .i64 a1, .int .u64 a2, .int .i64 a3, .int .u64 a4] 32)).alloc (by simp) (.cells #[.int .i64 b0, .int .i64 b1, .int .u64 b2, .int .i64 b3, .int .u64 b4] 32)
  have Ya : Hid (IsB ((w5.alloc (.cells #[.int .i64 a0, .int .i64 a1, .int .u64 a2, .int .i64 a3, .int .u64 a4] 32)).alloc (.cells #[.int .i64 b0, .int .i64 b1, .int .u64 b2, .int .i64 b3, .int .u64 b4] 32)) w5.heap.size #[.int .i64 a0, .int .i64 a1, .int .u64 a2, .int .i64 a3, .int .u64 a4] 32) := (IsB.new w5 _ _).below ((Below.refl _ _).alloc (Nat.le_refl _) _)
  have Yb : Hid (IsB ((w5.alloc (.cells #[.int .i64 a0, .int .i64 a1, .int .u64 a2, .int .i64 a3, .int .u64 a4] 32)).alloc (.cells #[.int .i64 b0, .int .i64 b1, .int .u64 b2, .int .i64 b3, .int .u64 b4] 32)) (w5.heap.size + 1) #[.int .i64 b0, .int .i64 b1, .int .u64 b2, .int .i64 b3, .int .u64 b4] 32) := by
    have h7 := IsB.new (w5.alloc (.cells #[.int .i64 a0, .int .i64 a1, .int .u64 a2, .int .i64 a3, .int .u64 a4] 32)) #[.int .i64 b0, .int .i64 b1, .int .u64 b2, .int .i64 b3, .int .u64 b4] 32
    rw [World.size_alloc] at h7
    exact h7
  replace Xa := hide (Xa.out.below b92)
  replace Xb := hide (Xb.out.below b92)
  replace RK := hide (RK.out.below b92)
  replace R3 := hide (R3.out.below b92)
  replace R5 := hide (R5.out.below b92)
  replace B := hide (B.out.trans (b92.mono (Nat.le_trans (Nat.le_of_eq HH.out.symm) B.out.size)))
  clear b92
  simp only [Rf.cells]
  go_wp2_with fail
  generalize hW6 : ((w5.alloc (.cells #[.int .i64 a0, .int .i64 a1, .int .u64 a2, .int .i64 a3, .int .u64 a4] 32)).alloc (.cells #[.int .i64 b0, .int .i64 b1, .int .u64 b2, .int .i64 b3, .int .u64 b4] 32)) = W6 at *
  clear hW6
  generalize w5.heap.size = N2 at *
  refine (samehops_any v3 v5 wy n HN.out (by omega) W6 R3.out R5.out).mono ?_
  rintro e w6 ⟨rfl, hb⟩
  replace Xa := hide (Xa.out.below hb)
  replace Xb := hide (Xb.out.below hb)
  replace Ya := hide (Ya.out.below hb)
  replace Yb := hide (Yb.out.below hb)
  replace RK := hide (RK.out.below hb)
  replace B := hide (B.out.trans (hb.mono (Nat.le_trans (Nat.le_of_eq HH.out.symm) B.out.size)))
  clear hb R3 R5
  have l1 := hide (load_ref Xa.out rfl)
  have l2 := hide (load_ref Ya.out rfl)
  have l3 := hide (load_ref Xb.out rfl)
  have l4 := hide (load_ref Yb.out rfl)
  have E1 : Hid ((binOp .eql 32 (.agg #[.int .i64 a0, .int .i64 a1, .int .u64 a2, .int .i64 a3, .int .u64 a4]) (.agg #[.int .i64 a0, .int .i64 a1, .int .u64 a2, .int .i64 a3, .int .u64 a4])).run Tryd.prog w6 = .ok (.bool true) w6) := (eqr _ _ _ _ _ _ _ _ _ _ _).trans (by simp)
  have E2 : Hid ((binOp .eql 32 (.agg #[.int .i64 b0, .int .i64 b1, .int .u64 b2, .int .i64 b3, .int .u64 b4]) (.agg #[.int .i64 b0, .int .i64 b1, .int .u64 b2, .int .i64 b3, .int .u64 b4])).run Tryd.prog w6 = .ok (.bool true) w6) := (eqr _ _ _ _ _ _ _ _ _ _ _).trans (by simp)
  have dE : (E == E) = true := by simp
  go_wp2_with (first | (focus ((with_reducible refine wpList_load_w ?_ 32 (.tmp 10) ?_ ?_ l1.out ?_); rotate_left; rfl; rfl; rotate_left; rfl)) | (focus ((with_reducible refine wpList_load_w ?_ 32 (.tmp 14) ?_ ?_ l2.out ?_); rotate_left; rfl; rfl; rotate_left; rfl)) | (focus ((with_reducible refine wpList_load_w ?_ 32 (.tmp 11) ?_ ?_ l3.out ?_); rotate_left; rfl; rfl; rotate_left; rfl)) | (focus ((with_reducible refine wpList_load_w ?_ 32 (.tmp 15) ?_ ?_ l4.out ?_); rotate_left; rfl; rfl; rotate_left; rfl)) | (focus ((with_reducible refine wpList_bin_w ?_ .eql 32 (.tmp 43) (.tmp 44) 32 ?_ ?_ ?_ ⟨rguard, E1.out⟩ ?_); rotate_left; rfl; rfl; rfl; rotate_left; rfl)) | (focus ((with_reducible refine wpList_bin_w ?_ .eql 32 (.tmp 48) (.tmp 49) 32 ?_ ?_ ?_ ⟨rguard, E2.out⟩ ?_); rotate_left; rfl; rfl; rfl; rotate_left; rfl)))
  refine (alive_any _ RK.out).mono ?_
  rintro e w7 ⟨rfl, hb⟩
  have B7 := hide (B.out.trans (hb.mono (Nat.le_trans (Nat.le_of_eq HH.out.symm) B.out.size)))
  clear hb
  go_wp2
  go_ret
  exact ⟨rfl, HH.out.symm ▸ B7.out⟩

end Go.Proofs.YtjkgacbckdipgaaDoor
