/- Package key: Sorted, over what the sort does. -/
import Derived.Test.YtidgkaephikjaaaDoorSE
import Derived.Test.YtidgkaephikjaaaDoorL
import Derived.Shelf.SlicesE.Clone
namespace Go.Proofs.YtidgkaephikjaaaDoor
open Go.Shelf Go.RowKit Go.Lib Go.Sort

theorem klt_iff (a b : Int × Int) : klt a b = true ↔ a.1 < b.1 ∨ a.1 = b.1 ∧ a.2 < b.2 := by
  unfold klt kcmp
  rw [decide_eq_true_iff]
  rcases cmpI_cases a.1 b.1 with ⟨h, hx⟩ | ⟨h, hx⟩ | ⟨h, hx⟩
  · rw [h, orI_nz _ (by omega)]; omega
  · rw [h, orI_nz _ (by omega)]; omega
  · rw [h, orI_z _ rfl]
    rcases cmpI_cases a.2 b.2 with ⟨h, hy⟩ | ⟨h, hy⟩ | ⟨h, hy⟩ <;> rw [h] <;> omega
theorem klt_false (a b : Int × Int) : klt a b = false ↔ ¬ (a.1 < b.1 ∨ a.1 = b.1 ∧ a.2 < b.2) := by
  rw [← klt_iff]; simp
theorem swo_klt : SWO klt := ⟨fun a => by rw [klt_false]; omega, fun a b c h1 h2 => by rw [klt_iff] at *; omega, fun a b c h1 h2 => by rw [klt_false] at *; omega⟩

theorem get_encK {l : List (Int × Int)} {j : Nat} (hj : j < l.length * 2) : (flatK encK 2 l.toArray)[j]! = (encK l[j / 2]!)[j % 2]! := by
  rw [get_flatK _ _ _ _ (by simpa using hj)]; simp
theorem toList_flat (l : List (Int × Int)) (j : Nat) (u : Value) (h : (flatK encK 2 l.toArray).toList[j]? = some u) : j < l.length * 2 ∧ u = (encK l[j / 2]!)[j % 2]! := by
  have hj := (List.getElem?_eq_some_iff.1 h).1
  rw [Array.length_toList, size_flatK] at hj
  have hj : j < l.length * 2 := by simpa using hj
  refine ⟨hj, ?_⟩
  rw [← get_encK hj]
  have h2 := (List.getElem?_eq_some_iff.1 h).2
  rw [← h2, getElem!_pos _ _ (by rw [size_flatK]; simpa using hj)]; simp
theorem flat_cells {w : World} {b o : Nat} {l : List (Int × Int)} (h : HoldsL w b o l) (j : Nat) (u : Value) (hu : (flatK encK 2 l.toArray).toList[j]? = some u) : w.cell? ⟨b, o + j, none⟩ = some u := by
  obtain ⟨hj, rfl⟩ := toList_flat l j u hu
  have hx : l[j / 2]? = some l[j / 2]! := by
    have : j / 2 < l.length := by omega
    rw [List.getElem?_eq_getElem this, getElem!_pos l _ this]
  have := h _ _ hx
  rcases (by omega : j % 2 = 0 ∨ j % 2 = 1) with e | e
  · rw [e, show o + j = o + j / 2 * 2 by omega, this.1]; rfl
  · rw [e, show o + j = o + j / 2 * 2 + 1 by omega, this.2]; rfl
theorem flat_one (l : List (Int × Int)) : ∀ u ∈ (flatK encK 2 l.toArray).toList, u.oneCell' = true := fun u hu => by
  obtain ⟨j, hj⟩ := List.mem_iff_getElem?.1 hu
  obtain ⟨_, rfl⟩ := toList_flat l j u hj
  rcases (by omega : j % 2 = 0 ∨ j % 2 = 1) with e | e <;> rw [e] <;> rfl

noncomputable def Tryd.svT : TypeInfo := (Tryd.prog.info? 34).get (by kernel_rfl)
noncomputable def Tryd.svE : TypeInfo := (Tryd.prog.info? 25).get (by kernel_rfl)
theorem Tryd.svK (n : Nat) (h2 : 2 ≤ n) : Lib.swapperK n Tryd.svE 25 = 9 := by
  have a : Tryd.svE.hasPointers = false := by kernel_rfl
  have b : Tryd.svE.bytes = 16 := by kernel_rfl
  have c : (n == 0) = false := by simp; omega
  have d : (n == 1) = false := by simp; omega
  simp [Lib.swapperK, a, b, c, d]

/-- What the sort does with n keys. -/
def SortsAt (n : Nat) : Prop := ∀ (blk off c Bs : Nat) (d : Array (Int × Int)) (w : World), d.size = n → HoldsK encK 2 w blk off d → blk < w.heap.size →
  w.cell? ⟨Bs, 0, none⟩ = some (.slice (some ⟨blk, off, none⟩) d.size c) → Bs < w.heap.size → Bs ≠ blk →
    Calls Tryd.prog 43 #[.iface 34 (.slice (some ⟨blk, off, none⟩) d.size c), .func (.func 44) #[] #[.pointer (some ⟨Bs, 0, none⟩)]] w fun e w' =>
      e = .returned (.tuple #[]) ∧ ∃ d' n, PermIn 0 d.size d d' ∧ SortedIn klt 0 d.size d' ∧ w' = putRowK encK 2 (gr w n) blk off d'

theorem sorts_small (n : Nat) (h2 : 2 ≤ n) (h12 : n ≤ 12) : SortsAt n := by
  rintro blk off c Bs d w rfl hH hblk hBs hB1 hB2
  have h := sort_Slice_small_lays Tryd.sv6 34 25 Tryd.svT Tryd.svE (by kernel_rfl) (by kernel_rfl) (by kernel_rfl) (by kernel_rfl) 25 (fun _ => by kernel_rfl) encK 2 encK_len (by kernel_rfl) (fun _ => by kernel_rfl)
    encK_one klt 44 _ (enters_of Tryd.func44 (by kernel_rfl) rfl) blk off c d h2 h12 67 (by rw [Tryd.svK _ h2]; kernel_rfl) false
    (fun args W => run_callFunc_extern Tryd.func67 (by kernel_rfl) (by kernel_rfl) (by kernel_rfl) (e := Extern.ReflectliteSwapper.swap false) (by kernel_rfl) args W) w (less_lays blk off c Bs d w hH hblk (by omega) hBs hB1 hB2) hH hblk
  refine h.mono ?_
  rintro e w' ⟨rfl, n, rfl⟩
  have hh := insertionSort_holds (lt := klt) swo_klt d 0 d.size (Nat.zero_le _) (Nat.le_refl _)
  exact ⟨rfl, _, n, hh.1, hh.2, rfl⟩

theorem infoKey : (Tryd.prog.info? 25).map (fun i => (i.zero, i.size, i.bytes)) = some (some (.agg #[.int .i64 (0), .int .u64 (0)]), 2, 16) := by kernel_rfl

/-- What a slice of keys behind Sorted holds. -/
def SortedOf (l S : List (Int × Int)) : Prop := ∃ d', PermIn 0 l.length l.toArray d' ∧ SortedIn klt 0 l.length d' ∧ S = compactUpTo d' d'.size

set_option maxHeartbeats 2000000 in
theorem kSorted_any (b o n c : Nat) (l : List (Int × Int)) (w : World) (hl : l.length = n) (h2 : 2 ≤ n) (hn : n ≤ 1000) (hsort : SortsAt n) (hL : HoldsL w b o l) :
    Calls Tryd.prog 26 #[.slice (some ⟨b, o, none⟩) n c] w fun e w' => ∃ g cap S, e = .returned (.slice (some ⟨g, 0, none⟩) (List.length S) cap) ∧ w.heap.size ≤ g ∧ g < w'.heap.size ∧ HoldsL w' g 0 S ∧ SortedOf l S ∧ List.length S ≤ n ∧ RowKit.Below w.heap.size w w' := by
  obtain ⟨i0, hi0, hi1⟩ := Option.map_eq_some_iff.1 infoKey
  simp only [Prod.mk.injEq] at hi1
  have cl := AnyE.slices_Clone Tryd.lcl i0 (.agg #[.int .i64 (0), .int .u64 (0)]) 2 16 hi0 hi1.1 hi1.2.1 hi1.2.2 rfl (by omega) Tryd.sizeOf25 b o n c (flatK encK 2 l.toArray).toList w (by simp [hl]) (by unfold maxLen; omega) (by omega) (fun j u hu => flat_cells hL j u hu) (flat_one l)
  change Calls Tryd.prog 42 _ w _ at cl
  have HL := hide hL
  have HS := hide hsort
  clear hL hsort hi0 hi1
  go_enter Tryd.func26, Tryd.ntmps26
  go_wp2_with fail
  refine cl.mono ?_
  rintro e w1 ⟨v', rfl, ⟨-, hown⟩, hnil, hb1⟩
  rcases hown with ⟨rfl, h0⟩ | ⟨g, cap, cur, rfl, hg, hblk, hcap, hmax, hcs, htake⟩
  · omega
  have hglt : g < w1.heap.size := by
    rcases Nat.lt_or_ge g w1.heap.size with h | h
    · exact h
    · rw [Array.getElem?_eq_none h] at hblk; cases hblk
  have hH1 : HoldsK encK 2 w1 g 0 l.toArray := by
    intro j hj
    rw [size_flatK] at hj
    have hj' : j < n * 2 := by simpa [hl] using hj
    have e1 : (flatK encK 2 l.toArray).toList[j]? = cur.toList[j]? := by
      rw [← htake, List.getElem?_take, if_pos hj']
    have e2 : cur[j]? = some (flatK encK 2 l.toArray)[j]! := by
      rw [← Array.getElem?_toList, ← e1, Array.getElem?_toList, getElem!_pos _ _ (by rw [size_flatK]; exact hj), Array.getElem?_eq_getElem]
    exact ⟨by rw [Nat.zero_add, cell_of_row w1 g j _ _ _ hblk, e2]; rfl, frozen_of_row w1 g _ _ _ hblk⟩
  clear hblk htake hcs
  have HN := hide hnil
  clear hnil
  have H1 := hide hH1
  have HB1 := hide hb1
  clear hH1 hb1
  go_wp2_with fail
  have es : l.toArray.size = n := by simp [hl]
  have hne : w1.heap.size ≠ g := by omega
  have q1 : HoldsK encK 2 (w1.alloc (.cells #[.slice (some ⟨g, 0, none⟩) n cap] 34)) g 0 l.toArray := by rw [alloc_eq_grow]; exact holdsK_grow _ _ _ _ _ _ _ hglt H1.out
  have q2 : (w1.alloc (.cells #[.slice (some ⟨g, 0, none⟩) n cap] 34)).cell? ⟨w1.heap.size, 0, none⟩ = some (.slice (some ⟨g, 0, none⟩) n cap) := by simp
  have q3 : w1.heap.size < (w1.alloc (.cells #[.slice (some ⟨g, 0, none⟩) n cap] 34)).heap.size := by rw [World.size_alloc]; omega
  have q4 : RowKit.Below w.heap.size w (w1.alloc (.cells #[.slice (some ⟨g, 0, none⟩) n cap] 34)) := HB1.out.alloc HB1.out.size _
  generalize w1.alloc (.cells #[.slice (some ⟨g, 0, none⟩) n cap] 34) = W2 at q1 q2 q3 q4 ⊢
  have hs := HS.out g 0 cap w1.heap.size l.toArray W2 es q1 (by omega) (by rw [es]; exact q2) q3 hne
  rw [es] at hs
  refine hs.mono ?_
  rintro e w3 ⟨rfl, d', m, hp, hso, hw3⟩
  have ed : d'.size = n := by rw [hp.1, es]
  have r1 : HoldsK encK 2 w3 g 0 d' := by rw [hw3]; exact holdsK_putRowK encK 2 _ g 0 l.toArray d' (holdsK_gr encK 2 W2 g 0 m _ (by omega) q1) (by rw [ed, es])
  have r2 : w3.cell? ⟨w1.heap.size, 0, none⟩ = some (.slice (some ⟨g, 0, none⟩) n cap) := by
    rw [hw3, cell?_putRowK_other encK 2 _ g 0 d' _ (by exact hne), cell?_gr _ _ _ (by exact q3)]; exact q2
  have r3 : g < w3.heap.size := by rw [hw3, size_putRowK, size_gr]; omega
  have r4 : RowKit.Below w.heap.size w w3 := by
    rw [hw3]; exact q4.trans ((below_putRowK g 0 d' m (by omega)).mono hg)
  have cc := compact_any g 0 cap d' w3 r1 r3 (by omega) (by omega)
  rw [show ∀ x, (#[Value.slice (some ⟨g, 0, none⟩) x cap] : Array Value) = #[Value.slice (some ⟨g, 0, none⟩) x cap] from fun _ => rfl, ed] at cc
  have R4 := hide r4
  have R5 := hide (show SortedOf l (compactUpTo d' n) from ⟨d', by rw [hl]; exact hp, by rw [hl]; exact hso, by rw [ed]⟩)
  have R6 := hide (show (compactUpTo d' n).length ≤ n from by
    unfold compactUpTo
    rw [List.length_map]
    exact Nat.le_trans (List.length_filter_le _ _) (by simp))
  clear q1 q2 q3 q4 hs hw3 hp hso r1 r4
  go_wp2_with fail
  refine cc.mono ?_
  rintro e w4 ⟨rfl, hh, hb4, hsz⟩
  go_wp2
  go_ret
  exact ⟨g, cap, _, rfl, hg, by omega, hh, R5.out, R6.out, R4.out.trans (hb4.mono hg)⟩

end Go.Proofs.YtidgkaephikjaaaDoor
