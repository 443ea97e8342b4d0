/- References are put in order by their keys; slices.Clone of them. -/
import Derived.Test.YtfcmmchppcffmaaDoorGD
import Derived.Test.YtfcmmchppcffmaaDoorLSF
import Derived.Shelf.SlSortCmp.WholeK
namespace Go.Proofs.YtfcmmchppcffmaaDoor
open Go.RowKit Go.Maps

/-- The order of keys. -/
def keyLt (x y : Rf) : Prop := x.rk < y.rk ∨ x.rk = y.rk ∧ x.kn < y.kn
instance (x y : Rf) : Decidable (keyLt x y) := by unfold keyLt; infer_instance
def cfR (x y : Rf) : Int := kcmp (x.rk, x.kn) (y.rk, y.kn)
theorem cfR_lt (x y : Rf) : ltOf cfR x y = decide (keyLt x y) := by
  unfold ltOf cfR
  by_cases h : keyLt x y
  · rw [kcmp_lt h, decide_eq_true h]; rfl
  · rw [decide_eq_false h]
    by_cases h2 : keyLt y x
    · rw [kcmp_gt (by unfold keyLt at h2; rcases h2 with h2 | ⟨h2, h3⟩; exact Or.inl h2; exact Or.inr ⟨h2.symm, h3⟩)]; rfl
    · have e1 : x.rk = y.rk := by unfold keyLt at h h2; omega
      have e2 : x.kn = y.kn := by unfold keyLt at h h2; omega
      rw [e1, e2, kcmp_eq]; rfl
theorem swoR : Sort.SWO (ltOf cfR) where
  irrefl x := by rw [cfR_lt]; exact decide_eq_false (by unfold keyLt; omega)
  trans x y z h1 h2 := by
    rw [cfR_lt] at *
    have a := of_decide_eq_true h1
    have b := of_decide_eq_true h2
    exact decide_eq_true (by unfold keyLt at *; omega)
  ntrans x y z h1 h2 := by
    rw [cfR_lt] at *
    have a := of_decide_eq_false h1
    have b := of_decide_eq_false h2
    exact decide_eq_false (by unfold keyLt at *; omega)
def encR (x : Rf) : List Value := [.int .i64 x.id, .int .i64 x.rk, .int .u64 x.kn, .int .i64 x.ln, .int .u64 x.bt]
instance : Inhabited Rf := ⟨zr⟩
theorem encR_len (x : Rf) : (encR x).length = 5 := rfl
theorem encR_one (x : Rf) : ∀ u ∈ encR x, u.oneCell' = true := by
  intro u hu
  simp only [encR, List.mem_cons, List.not_mem_nil, or_false] at hu
  rcases hu with rfl | rfl | rfl | rfl | rfl <;> rfl

set_option maxHeartbeats 4000000 in
theorem less_any (x y : Rf) (w : World) : Calls Tryd.prog 39 #[.agg (encR x).toArray, .agg (encR y).toArray] w fun e w' => e = .returned (.int .i64 (cfR x y)) ∧ Gr w w' := by
  obtain ⟨x0, x1, x2, x3, x4⟩ := x
  obtain ⟨y0, y1, y2, y3, y4⟩ := y
  simp only [encR, cfR]
  have G1 := hide (((Gr.refl w).alloc (.cells #[.int .i64 x0, .int .i64 x1, .int .u64 x2, .int .i64 x3, .int .u64 x4] 30)).alloc (.cells #[.int .i64 y0, .int .i64 y1, .int .u64 y2, .int .i64 y3, .int .u64 y4] 30))
  go_enter Tryd.func39, Tryd.ntmps39
  go_wp2_with fail
  refine (kCompare_any x1 x2 y1 y2 _).mono ?_; rintro e w2 ⟨rfl, hg⟩
  have G2 := hide (G1.out.trans hg)
  clear hg
  go_wp2
  go_ret
  exact ⟨rfl, G2.out⟩

theorem rfs_gete : ∀ (l : List Rf) (j : Nat), j < l.length * 5 → (rfs l)[j]? = some (encR l.toArray[j / 5]!)[j % 5]!
  | [], j, h => by simp at h
  | x :: t, j, h => by
    have e : rfs (x :: t) = encR x ++ rfs t := rfl
    rw [e]
    by_cases hj : j < 5
    · rw [List.getElem?_append_left (by rw [encR_len]; exact hj), show j / 5 = 0 by omega, show j % 5 = j by omega]
      rw [List.getElem?_eq_getElem (by rw [encR_len]; exact hj)]
      have : (x :: t).toArray[0]! = x := rfl
      rw [this, getElem!_pos (encR x) j (by rw [encR_len]; exact hj)]
    · have ih := rfs_gete t (j - 5) (by simp at h; omega)
      rw [List.getElem?_append_right (by rw [encR_len]; omega), encR_len, ih, show (j - 5) % 5 = j % 5 by omega]
      have h2 : (x :: t).toArray[j / 5]! = t.toArray[(j - 5) / 5]! := by
        rw [show j / 5 = (j - 5) / 5 + 1 by omega]
        have hq : (j - 5) / 5 < t.length := by simp at h; omega
        rw [getElem!_pos _ _ (by simpa using hq), getElem!_pos _ _ (by simpa using hq)]
        simp
      rw [h2]
theorem flatK_R (l : List Rf) : (Sort.flatK encR 5 l.toArray).toList = rfs l := by
  apply List.ext_getElem?
  intro j
  by_cases hj : j < l.length * 5
  · rw [rfs_gete l j hj]
    have h2 := Sort.get_flatK encR 5 l.toArray j (by simpa using hj)
    have h3 : j < (Sort.flatK encR 5 l.toArray).size := by simpa using hj
    rw [getElem!_pos (Sort.flatK encR 5 l.toArray) j h3] at h2
    rw [← h2]
    simp
  · rw [List.getElem?_eq_none (by simp; omega), List.getElem?_eq_none (by rw [rfs_len]; omega)]
theorem agg24 : ∀ w, (isAgg (Tryd.sf6_ren.t 24)).run Tryd.prog w = .ok true w := fun w => by
  have : Tryd.sf6_ren.t 24 = 30 := rfl
  rw [this]
  exact Tryd.isAgg30 w
theorem size24 : ∀ w, (Go.sizeOf (Tryd.sf6_ren.t 24)).run Tryd.prog w = .ok 5 w := fun w => by
  have : Tryd.sf6_ren.t 24 = 30 := rfl
  rw [this]
  exact Tryd.sizeOf30 w
theorem enters33 : ∀ args w, (callFunc 39 args).run Tryd.prog w = .ok (.enter 39 args) w := enters_of Tryd.func39 (by kernel_rfl) rfl
/-! A slice of none is put in order: nothing turns. -/
set_option maxHeartbeats 2000000 in
theorem insert_none (fv : Value) (w : World) : Calls Tryd.prog 70 #[.slice none 0 0, .int .i64 0, .int .i64 0, fv] w fun e w' => e = .returned (.tuple #[]) ∧ w' = w := by
  go_enter Tryd.func70, Tryd.ntmps70
  go_wp2
  refine wp_loop_rounds 1 ?_
  rw [rounds_succ]
  go_wp2
  go_end0
  exact ⟨rfl, rfl⟩
set_option maxHeartbeats 2000000 in
theorem pdq_none (lim : Int) (fv : Value) (w : World) : Calls Tryd.prog 57 #[.slice none 0 0, .int .i64 0, .int .i64 0, .int .i64 lim, fv] w fun e w' => e = .returned (.tuple #[]) ∧ w' = w := by
  go_enter Tryd.func57, Tryd.ntmps57
  go_wp2
  refine wp_loop_rounds 1 ?_
  rw [rounds_succ]
  go_wp2_with (go_at_call 70; refine (insert_none _ _).mono ?_; rintro e w' ⟨rfl, rfl⟩)
  (try simp only [Exit.inBlock, Exit.then]); refine bodyPost_ret (results_none rfl _ _ _) rfl ?_
  exact ⟨rfl, rfl⟩
set_option maxHeartbeats 2000000 in
theorem sort_none (fv : Value) (w : World) : Calls Tryd.prog 38 #[.slice none 0 0, fv] w fun e w' => e = .returned (.tuple #[]) ∧ w' = w := by
  have hl : ∀ W, Calls Tryd.prog 58 #[.int .u64 0] W fun e w' => e = .returned (.int .i64 (Lib.bitLen 0 : Nat)) ∧ w' = W := fun W => by
    have h := Any.bits_Len (SlLaysF0.n15.bits (P := Tryd.prog) (ρ := Tryd.sf6_ren) { Tryd.sf6 with }) 0 W (by omega) (by omega)
    exact h
  go_enter Tryd.func38, Tryd.ntmps38
  go_wp2_with (first | (go_at_call 58; refine (hl _).mono ?_; rintro e w' ⟨rfl, rfl⟩) | (go_at_call 57; refine (pdq_none _ _ _).mono ?_; rintro e w' ⟨rfl, rfl⟩))
  go_end0
  exact ⟨rfl, rfl⟩
theorem sort_refs (v : Value) (As : List Rf) (w : World) (h : Rw w 30 5 v As.length (rfs As)) (hlen : As.length ≤ 1000000) : Calls Tryd.prog 38 #[v, .func (.func 39) #[] #[]] w fun e w' => e = .returned (.tuple #[]) ∧ ∃ Bs : List Rf, Bs.Perm As ∧ (∀ i j (hj : j < Bs.length) (hij : i < j), ltOf cfR Bs[j] Bs[i] = false) ∧ Rw w' 30 5 v Bs.length (rfs Bs) ∧ Kp v.ownBlock.toList w w' := by
  rcases h.2 with ⟨rfl, h0⟩ | ⟨g, cap, cur, rfl, hg, hnc, hcm, hcs, htake⟩
  · have : As = [] := List.eq_nil_of_length_eq_zero h0
    subst this
    refine (sort_none _ w).mono ?_
    rintro e w' ⟨rfl, rfl⟩
    exact ⟨rfl, [], List.Perm.refl _, (fun i j hj => absurd hj (by simp)), h, Kp.refl _ _⟩
  · have hcell : Sort.HoldsK encR 5 w g 0 As.toArray := by
      intro j hj
      have hj2 : j < As.length * 5 := by simpa using hj
      refine ⟨?_, ?_⟩
      · rw [Nat.zero_add, h.cellAt j hj2, rfs_gete As j hj2, Sort.get_flatK encR 5 As.toArray j (by simpa using hj2)]
        rfl
      · rw [Nat.zero_add]
        exact h.frozenAt j
    have hC : CmpLays Tryd.prog 39 #[] encR 5 cfR g 0 As.toArray.size w := fun m os dk _ x y => less_any x y _
    have := AnyQ.slices_SortFunc (P := Tryd.prog) Tryd.sf6 5 agg24 size24 encR encR_len encR_one cfR swoR 39 #[] g 0 cap As.toArray w enters33 hC hcell (lt_of_heap hg) (by simp; omega)
    refine this.mono ?_
    rintro e w' ⟨rfl, d', n, os, hp, hs, rfl⟩
    obtain ⟨hsz, -, hperm⟩ := hp
    have hsz' : d'.size = As.length := by simpa using hsz
    have e1 : d'.extract 0 As.toArray.size = d' := by
      rw [← hsz]
      simp
    have e2 : As.toArray.extract 0 As.toArray.size = As.toArray := by simp
    rw [e1, e2] at hperm
    have hF : (Sort.flatK encR 5 d').toList = rfs d'.toList := by
      have := flatK_R d'.toList
      simpa using this
    have hFs : (Sort.flatK encR 5 d').size = As.length * 5 := by simp [hsz']
    have hblk : (sortWorldK encR 5 w g 0 n d' os).heap[g]? = some (.cells (Sort.putCells id 0 (Sort.flatK encR 5 d') cur) 30 (0, 0)) := by
      show (Sort.grow (Sort.putRowK encR 5 (Sort.ahead w n) g 0 d') os).heap[g]? = _
      have hlt : g < (Sort.putRowK encR 5 (Sort.ahead w n) g 0 d').heap.size := by
        show g < (w.heap.modify g _).size
        simpa using lt_of_heap hg
      rw [Sort.heap_grow_old _ _ hlt]
      show (w.heap.modify g (Sort.onCells (Sort.putCells id 0 (Sort.flatK encR 5 d'))))[g]? = _
      rw [Array.getElem?_modify, if_pos rfl, hg]
      rfl
    have hkp : Kp [g] w (sortWorldK encR 5 w g 0 n d' os) := by
      refine ⟨rfl, rfl, rfl, ?_, fun k hk hn => ?_⟩
      · show w.heap.size ≤ (Sort.grow (Sort.putRowK encR 5 (Sort.ahead w n) g 0 d') os).heap.size
        rw [Sort.size_grow]
        have : (Sort.putRowK encR 5 (Sort.ahead w n) g 0 d').heap.size = w.heap.size := by
          show (w.heap.modify g _).size = _
          simp
        omega
      · show (Sort.grow (Sort.putRowK encR 5 (Sort.ahead w n) g 0 d') os).heap[k]? = _
        have hlt : k < (Sort.putRowK encR 5 (Sort.ahead w n) g 0 d').heap.size := by
          show k < (w.heap.modify g _).size
          simpa using hk
        rw [Sort.heap_grow_old _ _ hlt]
        show (w.heap.modify g _)[k]? = _
        rw [Array.getElem?_modify, if_neg (fun e => hn (by simp [e]))]
    refine ⟨rfl, d'.toList, hperm, ?_, ?_, hkp⟩
    · intro i j hj hij
      have hj2 : j < d'.size := by simpa using hj
      have := hs i j (Nat.zero_le _) hij (by simp; omega)
      rw [getElem!_pos d' j hj2, getElem!_pos d' i (by omega)] at this
      simpa using this
    · refine ⟨by rw [rfs_len], Or.inr ⟨g, cap, _, by simp [hsz'], hblk, by simp [hsz']; exact hnc, hcm, by simp [Sort.putCells]; exact hcs, ?_⟩⟩
      rw [← hF]
      apply List.ext_getElem?
      intro j
      have hlen2 : d'.toList.length = As.length := by simpa using hsz'
      rw [List.getElem?_take]
      by_cases hj : j < As.length * 5
      · rw [if_pos (by rw [hlen2]; exact hj)]
        have hj3 : j < cur.size := by
          have : As.length * 5 ≤ cap * 5 := Nat.mul_le_mul_right _ hnc
          omega
        have hj4 : j < (Sort.flatK encR 5 d').size := by rw [hFs]; exact hj
        simp only [Sort.putCells, Array.getElem?_toList, Array.getElem?_mapIdx]
        rw [Array.getElem?_eq_getElem hj3]
        simp only [Option.map_some, Nat.zero_le, true_and, Nat.zero_add, Nat.sub_zero]
        rw [if_pos hj4, getElem!_pos (Sort.flatK encR 5 d') j hj4]
        simp
      · rw [if_neg (by rw [hlen2]; exact hj), List.getElem?_eq_none (by simp; omega)]

theorem infoRef : (Tryd.prog.info? 30).map (fun i => (i.zero, i.size, i.bytes)) = some (some (.agg #[.int .i64 0, .int .i64 0, .int .u64 0, .int .i64 0, .int .u64 0]), 5, 40) := by kernel_rfl
theorem rslice_nil (a : Addr) (len cap : Nat) (w : World) : (binOp .eql 22 (.slice (some a) len cap) (.slice none 0 0)).run Tryd.prog w = .ok (.bool false) w := by kernel_rfl
theorem rslice_nil_nil (w : World) : (binOp .eql 22 (.slice none 0 0) (.slice none 0 0)).run Tryd.prog w = .ok (.bool true) w := by kernel_rfl

set_option maxHeartbeats 1000000 in
set_option maxRecDepth 100000 in
theorem clone_any (v : Value) (l : List Rf) (hl : l.length ≤ 100000) (w : World) (h : RSl w v l) :
    Calls Tryd.prog 37 #[v] w fun e w' => ∃ v', e = .returned v' ∧ Rw w' 30 5 v' l.length (rfs l) ∧ (∀ k, v'.ownBlock = some k → w.heap.size ≤ k) ∧ Below w.heap.size w w' := by
  have h' := h
  rcases h with ⟨rfl, rfl⟩ | ⟨g, o, c, rfl, h1, h2, h3, h4⟩
  · have hsn := rslice_nil_nil
    go_enter Tryd.func37, Tryd.ntmps37
    go_wp2
    go_ret
    exact ⟨_, rfl, ⟨rfl, Or.inl ⟨rfl, rfl⟩⟩, (fun k hk => by cases hk), Below.refl _ _⟩
  · obtain ⟨i0, hi, hz0, hz1, hz2⟩ := info_parts infoRef
    have b1 := (Below.refl w.heap.size w).alloc (Nat.le_refl _) (.cells #[] 30)
    have hown0 : Rw (w.alloc (.cells #[] 30)) 30 5 (.slice (some ⟨w.heap.size, 0, none⟩) 0 0) 0 [] := ⟨rfl, Or.inr ⟨_, 0, #[], rfl, heap_new w _, Nat.le_refl _, by unfold maxLen; omega, by simp, rfl⟩⟩
    obtain ⟨v', w4, hrun, hrw, hgr, hat, hnn⟩ := run_append_rw (P := Tryd.prog) (w.alloc (.cells #[] 30)) 22 22 30 i0 _ 5 40 Tryd.underlying22 hi hz0 hz1 hz2 rfl _ 0 [] hown0
      (.slice (some ⟨g, o, none⟩) l.length c) l.length (rfs l) (rfs_len l) (h'.below b1).src (rfs_one l) (by unfold maxLen; omega) (by omega)
    rw [Nat.zero_add, List.nil_append] at hrw
    have HB := hide (b1.grown hgr (by simp) (fun k hk => by simp [Value.ownBlock] at hk; omega))
    have HT := hide hat
    have HW := hide hrw
    have HR := hide hrun
    clear hgr hat hrw hnn hown0 hrun b1 h4 h' h3
    have hsn := rslice_nil
    generalize hL : l.length = L at *
    go_enter Tryd.func37, Tryd.ntmps37
    go_wp2_with (at_builtin; refine wpList_append_eq rfl (.tmp 5) (.tmp 6) 22 rfl _ _ v' w4 rfl rfl HR.out ?_)
    go_ret
    refine ⟨v', rfl, HW.out, fun k hk => ?_, HB.out⟩
    rcases HT.out with h | h
    · rw [h] at hk; simp [Value.ownBlock] at hk; omega
    · rw [h] at hk; simp at hk; omega

end Go.Proofs.YtfcmmchppcffmaaDoor
