/- The records of All are put in order: slices.SortFunc by the library's contract. -/
import Derived.Test.YtledkljffjomdaaDoorKF
import Derived.Test.YtledkljffjomdaaDoorLSF
import Derived.Shelf.SlSortCmp.WholeK
namespace Go.Proofs.YtledkljffjomdaaDoor
open Go.RowKit Go.Maps

theorem flatS_get : ∀ (l : List Sx) (j : Nat), j < l.length * 16 → (flatS l)[j]? = some (encS l.toArray[j / 16]!)[j % 16]!
  | [], j, h => by simp at h
  | x :: t, j, h => by
    have e : flatS (x :: t) = encS x ++ flatS t := rfl
    rw [e]
    by_cases hj : j < 16
    · rw [List.getElem?_append_left (by rw [encS_len]; exact hj), show j / 16 = 0 by omega, show j % 16 = j by omega]
      rw [List.getElem?_eq_getElem (by rw [encS_len]; exact hj)]
      have : (x :: t).toArray[0]! = x := rfl
      rw [this, getElem!_pos (encS x) j (by rw [encS_len]; exact hj)]
    · have ih := flatS_get t (j - 16) (by simp at h; omega)
      rw [List.getElem?_append_right (by rw [encS_len]; omega), encS_len, ih, show (j - 16) % 16 = j % 16 by omega]
      have h2 : (x :: t).toArray[j / 16]! = t.toArray[(j - 16) / 16]! := by
        rw [show j / 16 = (j - 16) / 16 + 1 by omega]
        have hq : (j - 16) / 16 < t.length := by simp at h; omega
        rw [getElem!_pos _ _ (by simpa using hq), getElem!_pos _ _ (by simpa using hq)]
        simp
      rw [h2]
theorem flatK_S (l : List Sx) : (Sort.flatK encS 16 l.toArray).toList = flatS l := by
  apply List.ext_getElem?
  intro j
  by_cases hj : j < l.length * 16
  · rw [flatS_get l j hj]
    have h2 := Sort.get_flatK encS 16 l.toArray j (by simpa using hj)
    have h3 : j < (Sort.flatK encS 16 l.toArray).size := by simpa using hj
    rw [getElem!_pos (Sort.flatK encS 16 l.toArray) j h3] at h2
    rw [← h2]
    simp
  · rw [List.getElem?_eq_none (by simp; omega), List.getElem?_eq_none (by rw [flatS_len]; omega)]
theorem agg24 : ∀ w, (isAgg (Tryd.sf6_ren.t 24)).run Tryd.prog w = .ok true w := fun w => by
  have : Tryd.sf6_ren.t 24 = 34 := rfl
  rw [this]
  exact Tryd.isAgg34 w
theorem size24 : ∀ w, (Go.sizeOf (Tryd.sf6_ren.t 24)).run Tryd.prog w = .ok 16 w := fun w => by
  have : Tryd.sf6_ren.t 24 = 34 := rfl
  rw [this]
  exact Tryd.sizeOf34 w
theorem enters33 : ∀ args w, (callFunc 33 args).run Tryd.prog w = .ok (.enter 33 args) w := enters_of Tryd.func33 (by kernel_rfl) rfl
/-! A slice of none is put in order: nothing turns. -/
set_option maxHeartbeats 2000000 in
theorem insert_none (fv : Value) (w : World) : Calls Tryd.prog 67 #[.slice none 0 0, .int .i64 0, .int .i64 0, fv] w fun e w' => e = .returned (.tuple #[]) ∧ w' = w := by
  go_enter Tryd.func67, Tryd.ntmps67
  go_wp2
  refine wp_loop_rounds 1 ?_
  rw [rounds_succ]
  go_wp2
  go_end0
  exact ⟨rfl, rfl⟩
set_option maxHeartbeats 2000000 in
theorem pdq_none (lim : Int) (fv : Value) (w : World) : Calls Tryd.prog 51 #[.slice none 0 0, .int .i64 0, .int .i64 0, .int .i64 lim, fv] w fun e w' => e = .returned (.tuple #[]) ∧ w' = w := by
  go_enter Tryd.func51, Tryd.ntmps51
  go_wp2
  refine wp_loop_rounds 1 ?_
  rw [rounds_succ]
  go_wp2_with (go_at_call 67; refine (insert_none _ _).mono ?_; rintro e w' ⟨rfl, rfl⟩)
  (try simp only [Exit.inBlock, Exit.then]); refine bodyPost_ret (results_none rfl _ _ _) rfl ?_
  exact ⟨rfl, rfl⟩
set_option maxHeartbeats 2000000 in
theorem sort_none (fv : Value) (w : World) : Calls Tryd.prog 32 #[.slice none 0 0, fv] w fun e w' => e = .returned (.tuple #[]) ∧ w' = w := by
  have hl : ∀ W, Calls Tryd.prog 52 #[.int .u64 0] W fun e w' => e = .returned (.int .i64 (Lib.bitLen 0 : Nat)) ∧ w' = W := fun W => by
    have h := Any.bits_Len (SlLaysF0.n15.bits (P := Tryd.prog) (ρ := Tryd.sf6_ren) { Tryd.sf6 with }) 0 W (by omega) (by omega)
    exact h
  go_enter Tryd.func32, Tryd.ntmps32
  go_wp2_with (first | (go_at_call 52; refine (hl _).mono ?_; rintro e w' ⟨rfl, rfl⟩) | (go_at_call 51; refine (pdq_none _ _ _).mono ?_; rintro e w' ⟨rfl, rfl⟩))
  go_end0
  exact ⟨rfl, rfl⟩
theorem sortsAll : SortsAll := by
  intro v As w h hlen
  rcases h.row.2 with ⟨rfl, h0⟩ | ⟨g, cap, cur, rfl, hg, hnc, hcm, hcs, htake⟩
  · have : As = [] := List.eq_nil_of_length_eq_zero h0
    subst this
    refine (sort_none _ w).mono ?_
    rintro e w' ⟨rfl, rfl⟩
    exact ⟨rfl, [], List.Perm.refl _, (fun i j hj => absurd hj (by simp)), h, Kp.refl _ _⟩
  · have hcell : Sort.HoldsK encS 16 w g 0 As.toArray := by
      intro j hj
      have hj2 : j < As.length * 16 := by simpa using hj
      refine ⟨?_, ?_⟩
      · rw [Nat.zero_add, h.row.cellAt j hj2, flatS_get As j hj2, Sort.get_flatK encS 16 As.toArray j (by simpa using hj2)]
        rfl
      · rw [Nat.zero_add]
        exact h.row.frozenAt j
    have hC : CmpLays Tryd.prog 33 #[] encS 16 cfS g 0 As.toArray.size w := fun m os dk _ x y => less_any x y _
    have := AnyQ.slices_SortFunc (P := Tryd.prog) Tryd.sf6 16 agg24 size24 encS encS_len encS_one cfS swoS 33 #[] g 0 cap As.toArray w enters33 hC hcell (lt_of_heap hg) (by simp; omega)
    refine this.mono ?_
    rintro e w' ⟨rfl, d', n, os, hp, hs, rfl⟩
    obtain ⟨hsz, -, hperm⟩ := hp
    have hsz' : d'.size = As.length := by simpa using hsz
    have e1 : d'.extract 0 As.toArray.size = d' := by
      rw [← hsz]
      simp
    have e2 : As.toArray.extract 0 As.toArray.size = As.toArray := by simp
    rw [e1, e2] at hperm
    have hF : (Sort.flatK encS 16 d').toList = flatS d'.toList := by
      have := flatK_S d'.toList
      simpa using this
    have hFs : (Sort.flatK encS 16 d').size = As.length * 16 := by simp [hsz']
    have hblk : (sortWorldK encS 16 w g 0 n d' os).heap[g]? = some (.cells (Sort.putCells id 0 (Sort.flatK encS 16 d') cur) 34 (0, 0)) := by
      show (Sort.grow (Sort.putRowK encS 16 (Sort.ahead w n) g 0 d') os).heap[g]? = _
      have hlt : g < (Sort.putRowK encS 16 (Sort.ahead w n) g 0 d').heap.size := by
        show g < (w.heap.modify g _).size
        simpa using lt_of_heap hg
      rw [Sort.heap_grow_old _ _ hlt]
      show (w.heap.modify g (Sort.onCells (Sort.putCells id 0 (Sort.flatK encS 16 d'))))[g]? = _
      rw [Array.getElem?_modify, if_pos rfl, hg]
      rfl
    have hkp : Kp [g] w (sortWorldK encS 16 w g 0 n d' os) := by
      refine ⟨rfl, rfl, rfl, ?_, fun k hk hn => ?_⟩
      · show w.heap.size ≤ (Sort.grow (Sort.putRowK encS 16 (Sort.ahead w n) g 0 d') os).heap.size
        rw [Sort.size_grow]
        have : (Sort.putRowK encS 16 (Sort.ahead w n) g 0 d').heap.size = w.heap.size := by
          show (w.heap.modify g _).size = _
          simp
        omega
      · show (Sort.grow (Sort.putRowK encS 16 (Sort.ahead w n) g 0 d') os).heap[k]? = _
        have hlt : k < (Sort.putRowK encS 16 (Sort.ahead w n) g 0 d').heap.size := by
          show k < (w.heap.modify g _).size
          simpa using hk
        rw [Sort.heap_grow_old _ _ hlt]
        show (w.heap.modify g _)[k]? = _
        rw [Array.getElem?_modify, if_neg (fun e => hn (by simp [e]))]
    refine ⟨rfl, d'.toList, hperm, ?_, ⟨?_, ?_⟩, hkp⟩
    · intro i j hj hij
      have hj2 : j < d'.size := by simpa using hj
      have := hs i j (Nat.zero_le _) hij (by simp; omega)
      rw [getElem!_pos d' j hj2, getElem!_pos d' i (by omega)] at this
      simpa using this
    · refine ⟨by rw [flatS_len], Or.inr ⟨g, cap, _, by simp [hsz'], hblk, by simp [hsz']; exact hnc, hcm, by simp [Sort.putCells]; exact hcs, ?_⟩⟩
      rw [← hF]
      apply List.ext_getElem?
      intro j
      have hlen2 : d'.toList.length = As.length := by simpa using hsz'
      rw [List.getElem?_take]
      by_cases hj : j < As.length * 16
      · rw [if_pos (by rw [hlen2]; exact hj)]
        have hj3 : j < cur.size := by
          have : As.length * 16 ≤ cap * 16 := Nat.mul_le_mul_right _ hnc
          omega
        have hj4 : j < (Sort.flatK encS 16 d').size := by rw [hFs]; exact hj
        simp only [Sort.putCells, Array.getElem?_toList, Array.getElem?_mapIdx]
        rw [Array.getElem?_eq_getElem hj3]
        simp only [Option.map_some, Nat.zero_le, true_and, Nat.zero_add, Nat.sub_zero]
        rw [if_pos hj4, getElem!_pos (Sort.flatK encS 16 d') j hj4]
        simp
      · rw [if_neg (by rw [hlen2]; exact hj), List.getElem?_eq_none (by simp; omega)]
    · intro z hz
      have hz2 := h.qs z (hperm.mem_iff.1 hz)
      refine hz2.kp hkp fun k hk => ?_
      simp
      rintro rfl
      obtain ⟨-, cur3, hc⟩ := hz2.lt _ hk
      rw [hg] at hc
      injection hc with hc
      injection hc with _ hc
      exact absurd hc (by decide)

end Go.Proofs.YtledkljffjomdaaDoor
