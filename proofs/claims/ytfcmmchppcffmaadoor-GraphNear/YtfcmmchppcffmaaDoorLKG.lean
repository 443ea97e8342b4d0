/- Lists are put in order: slices.SortFunc by the library's contract. -/
import Derived.Test.YtfcmmchppcffmaaDoorLKD
import Derived.Test.YtfcmmchppcffmaaDoorLSG
import Derived.Shelf.SlSortCmp.WholeK
namespace Go.Proofs.YtfcmmchppcffmaaDoor
open Go.RowKit Go.Maps

def flatX (l : List Lx) : List Value := l.flatMap encX
theorem encX_len (x : Lx) : (encX x).length = 3 := rfl
theorem flatX_len : ∀ l : List Lx, (flatX l).length = l.length * 3
  | [] => rfl
  | x :: l => by
    have := flatX_len l
    unfold flatX at this ⊢
    simp [this, encX_len]
    omega
theorem flatX_app (l : List Lx) (x : Lx) : flatX (l ++ [x]) = flatX l ++ encX x := by simp [flatX]
theorem encX_one (x : Lx) : ∀ v ∈ encX x, v.oneCell' = true := by
  intro v hv
  simp only [encX, List.mem_cons, List.not_mem_nil, or_false] at hv
  rcases hv with h | h | h <;> rw [h] <;> rfl
/-- A slice of such lists. -/
def RowX (w : World) (v : Value) (As : List Lx) : Prop := Rw w 40 3 v As.length (flatX As)
theorem infoX : (Tryd.prog.info? 40).map (fun i => (i.zero, i.size, i.bytes)) = some (some (.agg #[.int .i64 0, .int .u64 0, .slice none 0 0]), 3, 40) := by kernel_rfl
theorem flatX_get : ∀ (l : List Lx) (j : Nat), j < l.length * 3 → (flatX l)[j]? = some (encX l.toArray[j / 3]!)[j % 3]!
  | [], j, h => by simp at h
  | x :: t, j, h => by
    have e : flatX (x :: t) = encX x ++ flatX t := rfl
    rw [e]
    by_cases hj : j < 3
    · rw [List.getElem?_append_left (by rw [encX_len]; exact hj), show j / 3 = 0 by omega, show j % 3 = j by omega]
      rw [List.getElem?_eq_getElem (by rw [encX_len]; exact hj)]
      have : (x :: t).toArray[0]! = x := rfl
      rw [this, getElem!_pos (encX x) j (by rw [encX_len]; exact hj)]
    · have ih := flatX_get t (j - 3) (by simp at h; omega)
      rw [List.getElem?_append_right (by rw [encX_len]; omega), encX_len, ih, show (j - 3) % 3 = j % 3 by omega]
      have h2 : (x :: t).toArray[j / 3]! = t.toArray[(j - 3) / 3]! := by
        rw [show j / 3 = (j - 3) / 3 + 1 by omega]
        have hq : (j - 3) / 3 < t.length := by simp at h; omega
        rw [getElem!_pos _ _ (by simpa using hq), getElem!_pos _ _ (by simpa using hq)]
        simp
      rw [h2]
theorem flatK_X (l : List Lx) : (Sort.flatK encX 3 l.toArray).toList = flatX l := by
  apply List.ext_getElem?
  intro j
  by_cases hj : j < l.length * 3
  · rw [flatX_get l j hj]
    have h2 := Sort.get_flatK encX 3 l.toArray j (by simpa using hj)
    have h3 : j < (Sort.flatK encX 3 l.toArray).size := by simpa using hj
    rw [getElem!_pos (Sort.flatK encX 3 l.toArray) j h3] at h2
    rw [← h2]
    simp
  · rw [List.getElem?_eq_none (by simp; omega), List.getElem?_eq_none (by rw [flatX_len]; omega)]
theorem agg24X : ∀ w, (isAgg (Tryd.sg6_ren.t 24)).run Tryd.prog w = .ok true w := fun w => by
  have : Tryd.sg6_ren.t 24 = 40 := rfl
  rw [this]
  exact Tryd.isAgg40 w
theorem size24X : ∀ w, (Go.sizeOf (Tryd.sg6_ren.t 24)).run Tryd.prog w = .ok 3 w := fun w => by
  have : Tryd.sg6_ren.t 24 = 40 := rfl
  rw [this]
  exact Tryd.sizeOf40 w
theorem entersX : ∀ args w, (callFunc 42 args).run Tryd.prog w = .ok (.enter 42 args) w := enters_of Tryd.func42 (by kernel_rfl) rfl
/-! A slice of none is put in order: nothing turns. -/
set_option maxHeartbeats 2000000 in
theorem insert_noneX (fv : Value) (w : World) : Calls Tryd.prog 82 #[.slice none 0 0, .int .i64 0, .int .i64 0, fv] w fun e w' => e = .returned (.tuple #[]) ∧ w' = w := by
  go_enter Tryd.func82, Tryd.ntmps82
  go_wp2
  refine wp_loop_rounds 1 ?_
  rw [rounds_succ]
  go_wp2
  go_end0
  exact ⟨rfl, rfl⟩
set_option maxHeartbeats 2000000 in
theorem pdq_noneX (lim : Int) (fv : Value) (w : World) : Calls Tryd.prog 62 #[.slice none 0 0, .int .i64 0, .int .i64 0, .int .i64 lim, fv] w fun e w' => e = .returned (.tuple #[]) ∧ w' = w := by
  go_enter Tryd.func62, Tryd.ntmps62
  go_wp2
  refine wp_loop_rounds 1 ?_
  rw [rounds_succ]
  go_wp2_with (go_at_call 82; refine (insert_noneX _ _).mono ?_; rintro e w' ⟨rfl, rfl⟩)
  (try simp only [Exit.inBlock, Exit.then]); refine bodyPost_ret (results_none rfl _ _ _) rfl ?_
  exact ⟨rfl, rfl⟩
set_option maxHeartbeats 2000000 in
theorem sort_noneX (fv : Value) (w : World) : Calls Tryd.prog 41 #[.slice none 0 0, fv] w fun e w' => e = .returned (.tuple #[]) ∧ w' = w := by
  have hl : ∀ W, Calls Tryd.prog 58 #[.int .u64 0] W fun e w' => e = .returned (.int .i64 (Lib.bitLen 0 : Nat)) ∧ w' = W := fun W => by
    have h := Any.bits_Len (SlLaysF0.n15.bits (P := Tryd.prog) (ρ := Tryd.sg6_ren) { Tryd.sg6 with }) 0 W (by omega) (by omega)
    exact h
  go_enter Tryd.func41, Tryd.ntmps41
  go_wp2_with (first | (go_at_call 58; refine (hl _).mono ?_; rintro e w' ⟨rfl, rfl⟩) | (go_at_call 62; refine (pdq_noneX _ _ _).mono ?_; rintro e w' ⟨rfl, rfl⟩))
  go_end0
  exact ⟨rfl, rfl⟩
set_option maxHeartbeats 4000000 in
theorem sortX (v : Value) (As : List Lx) (w : World) (h : RowX w v As) (hlen : As.length ≤ 1000000) : Calls Tryd.prog 41 #[v, .func (.func 42) #[] #[]] w fun e w' => e = .returned (.tuple #[]) ∧ ∃ As' : List Lx, As'.Perm As ∧ (∀ i j (hj : j < As'.length) (hij : i < j), ltOf cfX As'[j] As'[i] = false) ∧ RowX w' v As' ∧ Kp v.ownBlock.toList w w' := by
  rcases h.2 with ⟨rfl, h0⟩ | ⟨g, cap, cur, rfl, hg, hnc, hcm, hcs, htake⟩
  · have : As = [] := List.eq_nil_of_length_eq_zero h0
    subst this
    refine (sort_noneX _ w).mono ?_
    rintro e w' ⟨rfl, rfl⟩
    exact ⟨rfl, [], List.Perm.refl _, (fun i j hj => absurd hj (by simp)), h, Kp.refl _ _⟩
  · have hcell : Sort.HoldsK encX 3 w g 0 As.toArray := by
      intro j hj
      have hj2 : j < As.length * 3 := by simpa using hj
      refine ⟨?_, ?_⟩
      · rw [Nat.zero_add, h.cellAt j hj2, flatX_get As j hj2, Sort.get_flatK encX 3 As.toArray j (by simpa using hj2)]
        rfl
      · rw [Nat.zero_add]
        exact h.frozenAt j
    have hC : CmpLays Tryd.prog 42 #[] encX 3 cfX g 0 As.toArray.size w := fun m os dk _ x y => lessX_any x y _
    have := AnyQ.slices_SortFunc (P := Tryd.prog) Tryd.sg6 3 agg24X size24X encX encX_len encX_one cfX swoX 42 #[] g 0 cap As.toArray w entersX hC hcell (lt_of_heap hg) (by simp; omega)
    refine this.mono ?_
    rintro e w' ⟨rfl, d', n, os, hp, hs, rfl⟩
    obtain ⟨hsz, -, hperm⟩ := hp
    have hsz' : d'.size = As.length := by simpa using hsz
    have e1 : d'.extract 0 As.toArray.size = d' := by
      rw [← hsz]
      simp
    have e2 : As.toArray.extract 0 As.toArray.size = As.toArray := by simp
    rw [e1, e2] at hperm
    have hF : (Sort.flatK encX 3 d').toList = flatX d'.toList := by
      have := flatK_X d'.toList
      simpa using this
    have hFs : (Sort.flatK encX 3 d').size = As.length * 3 := by simp [hsz']
    have hblk : (sortWorldK encX 3 w g 0 n d' os).heap[g]? = some (.cells (Sort.putCells id 0 (Sort.flatK encX 3 d') cur) 40 (0, 0)) := by
      show (Sort.grow (Sort.putRowK encX 3 (Sort.ahead w n) g 0 d') os).heap[g]? = _
      have hlt : g < (Sort.putRowK encX 3 (Sort.ahead w n) g 0 d').heap.size := by
        show g < (w.heap.modify g _).size
        simpa using lt_of_heap hg
      rw [Sort.heap_grow_old _ _ hlt]
      show (w.heap.modify g (Sort.onCells (Sort.putCells id 0 (Sort.flatK encX 3 d'))))[g]? = _
      rw [Array.getElem?_modify, if_pos rfl, hg]
      rfl
    have hkp : Kp [g] w (sortWorldK encX 3 w g 0 n d' os) := by
      refine ⟨rfl, rfl, rfl, ?_, fun k hk hn => ?_⟩
      · show w.heap.size ≤ (Sort.grow (Sort.putRowK encX 3 (Sort.ahead w n) g 0 d') os).heap.size
        rw [Sort.size_grow]
        have : (Sort.putRowK encX 3 (Sort.ahead w n) g 0 d').heap.size = w.heap.size := by
          show (w.heap.modify g _).size = _
          simp
        omega
      · show (Sort.grow (Sort.putRowK encX 3 (Sort.ahead w n) g 0 d') os).heap[k]? = _
        have hlt : k < (Sort.putRowK encX 3 (Sort.ahead w n) g 0 d').heap.size := by
          show k < (w.heap.modify g _).size
          simpa using hk
        rw [Sort.heap_grow_old _ _ hlt]
        show (w.heap.modify g _)[k]? = _
        rw [Array.getElem?_modify, if_neg (fun e => hn (by simp [e]))]
    refine ⟨rfl, d'.toList, hperm, ?_, ?_, hkp⟩
    · intro i j hj hij
      have hj2 : j < d'.size := by simpa using hj
      have := hs i j (Nat.zero_le _) hij (by simp; omega)
      rw [getElem!_pos d' j hj2, getElem!_pos d' i (by omega)] at this
      simpa using this
    · refine ⟨by rw [flatX_len], Or.inr ⟨g, cap, _, by simp [hsz'], hblk, by simp [hsz']; exact hnc, hcm, by simp [Sort.putCells]; exact hcs, ?_⟩⟩
      rw [← hF]
      apply List.ext_getElem?
      intro j
      have hlen2 : d'.toList.length = As.length := by simpa using hsz'
      rw [List.getElem?_take]
      by_cases hj : j < As.length * 3
      · rw [if_pos (by rw [hlen2]; exact hj)]
        have hj3 : j < cur.size := by
          have : As.length * 3 ≤ cap * 3 := Nat.mul_le_mul_right _ hnc
          omega
        have hj4 : j < (Sort.flatK encX 3 d').size := by rw [hFs]; exact hj
        simp only [Sort.putCells, Array.getElem?_toList, Array.getElem?_mapIdx]
        rw [Array.getElem?_eq_getElem hj3]
        simp only [Option.map_some, Nat.zero_le, true_and, Nat.zero_add, Nat.sub_zero]
        rw [if_pos hj4, getElem!_pos (Sort.flatK encX 3 d') j hj4]
        simp
      · rw [if_neg (by rw [hlen2]; exact hj), List.getElem?_eq_none (by simp; omega)]

end Go.Proofs.YtfcmmchppcffmaaDoor
