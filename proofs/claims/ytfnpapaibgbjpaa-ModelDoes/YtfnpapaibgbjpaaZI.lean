/- Package slices at items: Insert of one. -/
import Derived.Test.YtfnpapaibgbjpaaZH
import Derived.Shelf.Spec.SlicesInsertGrow
namespace Go.Proofs.Ytfnpapaibgbjpaa
open Go.RowKit Go.Maps

theorem size_it : (Try.prog.info? 61).map (·.size) = some 2 := by kernel_rfl
theorem zc_size (n : Nat) : (Builtin.zeroCells (Value.agg #[.int .u64 0, .slice none 0 0]).cells n).size = n * 2 := by rw [size_zeroCells]; rfl
theorem IsB.shape {w : World} {b : Nat} {cs : Array Value} {t : TypeId} (h : IsB w b cs t) : w.shape? b = some (t, cs.size) := by
  have h : w.heap[b]? = some (.cells cs t (0, 0)) := h
  simp [World.shape?, h]
theorem cell_of_take {w : World} {g : Nat} {cur : Array Value} {l : List It} {n : Nat} (hB : IsB w g cur 61) (htk : cur.toList.take (n * 2) = its l) (i j : Nat) (u : Value) (hu : (its (l.drop i))[j]? = some u) : w.cell? ⟨g, i * 2 + j, none⟩ = some u := by
  rw [hB.cell]
  rw [← its_drop, List.getElem?_drop, ← htk, List.getElem?_take] at hu
  split at hu
  · simpa using hu
  · cases hu
theorem insert_grow (g cap : Nat) (cur : Array Value) (l : List It) (hl : l.length ≤ 100000) (x : It) (gx c1 : Nat) (i q n : Nat) (hn : l.length = n) (hq : q = i + 1) (hi : i < n) (w : World) (hB : IsB w g cur 61) (hX : IsB w gx #[.int .u64 x.k, .slice x.a x.bs.length x.c] 61) (hcap : cap = n) (htk : cur.toList.take (n * 2) = its l) (hby : ∀ it ∈ l, By w it.a it.c it.bs ∧ (it.a = none → it.c = 0)) (hbx : By w x.a x.c x.bs ∧ (x.a = none → x.c = 0)) :
    ∃ G W1 W2 W3, (∀ ty, (Builtin.append_ #[22, 3] ty #[.slice (some ⟨g, 0, none⟩) i cap, .int .i64 ((n : Int) + 1 - (i : Int))]).run Try.prog w = .ok (.slice (some ⟨w.heap.size, 0, none⟩) (n + 1) G) W1) ∧
      (∀ ty, (Builtin.copy_ #[22, 22] ty #[.slice (some ⟨w.heap.size, i * 2, none⟩) (n + 1 - i) (G - i), .slice (some ⟨gx, 0, none⟩) 1 c1]).run Try.prog W1 = .ok (goInt 1) W2) ∧
      (∀ ty, (Builtin.copy_ #[22, 22] ty #[.slice (some ⟨w.heap.size, q * 2, none⟩) (n - i) (G - q), .slice (some ⟨g, i * 2, none⟩) (n - i) (cap - i)]).run Try.prog W2.drew = .ok (goInt ((n - i : Nat) : Int)) W3) ∧
      n + 1 ≤ G ∧ G ≤ 9223372036854775807 ∧ Ow W3 (.slice (some ⟨w.heap.size, 0, none⟩) (n + 1) G) (l.take i ++ x :: l.drop i) ∧ Kp [] w W3 := by
  obtain ⟨i0, hi0, hz0, hz1, hz2⟩ := info_parts Try.infoIt
  have hgn : g ≠ w.heap.size := Nat.ne_of_lt hB.lt
  have hxn : gx ≠ w.heap.size := Nat.ne_of_lt hX.lt
  have hold : (Builtin.firstCells i0.size i (.slice (some ⟨g, 0, none⟩) i cap)).run Try.prog w.drew = .ok (its (l.take i)).toArray w.drew := by
    rw [hz1]
    refine run_firstCells_some w.drew 2 i ⟨g, 0, none⟩ i cap (its (l.take i)) (by rw [its_len, List.length_take]; omega) (fun j v hj => ?_)
    rw [add_none, Nat.zero_add]
    show w.cell? _ = _
    rw [hB.cell]
    rw [← its_take, ← htk, List.take_take, List.getElem?_take] at hj
    split at hj
    · simpa using hj
    · cases hj
  have hkk : (n : Int) + 1 - (i : Int) = ((n + 1 - i : Nat) : Int) := by omega
  have hrz := fun ty => Lib.run_append_grow_zeros w 22 3 ty 61 i0 _ .i64 .i64 Try.underlying22 Try.underlying3 hi0 hz0 (some ⟨g, 0, none⟩) i cap (its (l.take i)) hold (n + 1 - i) (by omega) (by omega) (by omega) (by omega) (by rw [hz2]; omega) (by rw [hz2, show i + (n + 1 - i) = n + 1 by omega]; exact growslice_fits (by omega) (by omega))
  rw [show i + (n + 1 - i) = n + 1 by omega] at hrz
  rw [hkk]
  have hGn : n + 1 ≤ grownCap w (n + 1) cap 61 := grownCap_ge w _ _ _
  have hG63 := grownCap_le_maxLen w (n + 1) cap 61 (by unfold maxLen; omega)
  generalize grownCap w (n + 1) cap 61 = G at hrz hGn hG63
  obtain ⟨ROW, hROW⟩ : ∃ R : Array Value, R = (its (l.take i)).toArray ++ Builtin.zeroCells (Value.agg #[.int .u64 0, .slice none 0 0]).cells (n + 1 - i) ++ Builtin.zeroCells (Value.agg #[.int .u64 0, .slice none 0 0]).cells (G - (n + 1)) := ⟨_, rfl⟩
  rw [← hROW] at hrz
  have hRs : ROW.size = G * 2 := by
    rw [hROW, Array.size_append, Array.size_append, zc_size, zc_size, List.size_toArray, its_len, List.length_take]
    omega
  have hRt : ROW.toList.take (i * 2) = its (l.take i) := by
    rw [hROW, Array.toList_append, Array.toList_append, List.append_assoc]
    exact List.take_left' (by rw [its_len, List.length_take]; omega)
  have I1 : IsB (w.drew.alloc (.cells ROW 61)) w.heap.size ROW 61 := IsB.new w.drew ROW _
  have B1 : Below w.heap.size w (w.drew.alloc (.cells ROW 61)) := ((Below.refl w.heap.size w).drew).alloc (Nat.le_refl _) _
  have X1 := hX.below B1
  have G1 := hB.below B1
  generalize w.drew.alloc (.cells ROW 61) = W1 at hrz I1 B1 X1 G1
  have hxs : ∀ j v, (its [x])[j]? = some v → W1.cell? ((⟨gx, 0, none⟩ : Addr).add j) = some v := fun j v hv => by
    rw [add_none, Nat.zero_add, X1.cell j]
    simpa [its] using hv
  have hc1 := fun ty => run_copy_k (P := Try.prog) W1 22 22 ty 61 2 w.heap.size (i * 2) (n + 1 - i) (G - i) ⟨gx, 0, none⟩ 1 c1 1 ROW 61 (its [x]) Try.underlying22 size_it I1 (by simp only [Nat.min_def]; split <;> omega) rfl hxs (by rw [its_len, hRs]; simp; omega) (its_one _)
  have hR2s : (ROW.toList.take (i * 2) ++ its [x] ++ ROW.toList.drop (i * 2 + (its [x]).length)).toArray.size = G * 2 := by
    rw [List.size_toArray, List.length_append, List.length_append, List.length_take, List.length_drop, its_len, Array.length_toList, hRs]
    simp
    omega
  have ht2 : (ROW.toList.take (i * 2) ++ its [x] ++ ROW.toList.drop (i * 2 + (its [x]).length)).toArray.toList.take (q * 2) = its (l.take i) ++ its [x] := by
    show (ROW.toList.take (i * 2) ++ its [x] ++ ROW.toList.drop (i * 2 + (its [x]).length)).take (q * 2) = _
    rw [hRt]
    exact List.take_left' (by rw [List.length_append, its_len, its_len, List.length_take]; simp; omega)
  have I2 := isB_setRow I1 (ROW.toList.take (i * 2) ++ its [x] ++ ROW.toList.drop (i * 2 + (its [x]).length)).toArray
  have K2 : Kp [w.heap.size] W1 (W1.setRow w.heap.size (ROW.toList.take (i * 2) ++ its [x] ++ ROW.toList.drop (i * 2 + (its [x]).length)).toArray) := kp_setRow _
  generalize (ROW.toList.take (i * 2) ++ its [x] ++ ROW.toList.drop (i * 2 + (its [x]).length)).toArray = cur2 at hc1 hR2s ht2 I2 K2
  generalize W1.setRow w.heap.size cur2 = W2 at hc1 I2 K2
  have G2 := (G1.kp K2 (by simp [hgn])).below ((Below.refl _ _).drew)
  have I2' := I2.below ((Below.refl _ _).drew)
  have hgs : ∀ j v, (its (l.drop i))[j]? = some v → W2.drew.cell? ((⟨g, i * 2, none⟩ : Addr).add j) = some v := fun j v hv => by
    rw [add_none]
    exact cell_of_take G2 htk i j v hv
  have hdl : (its (l.drop i)).length = (n - i) * 2 := by rw [its_len, List.length_drop, hn]
  have hc2 := fun ty => run_copy_k (P := Try.prog) W2.drew 22 22 ty 61 2 w.heap.size (q * 2) (n - i) (G - q) ⟨g, i * 2, none⟩ (n - i) (cap - i) (n - i) cur2 61 (its (l.drop i)) Try.underlying22 size_it I2' (by simp) hdl hgs (by rw [hR2s, hdl]; omega) (its_one _)
  have K3 : Kp [w.heap.size] w (W2.drew.setRow w.heap.size (cur2.toList.take (q * 2) ++ its (l.drop i) ++ cur2.toList.drop (q * 2 + (its (l.drop i)).length)).toArray) := ((Kp.of_below (S := [w.heap.size]) B1).trans K2 (by simp)).drew.trans (kp_setRow _) (by simp)
  have I3 := isB_setRow I2' (cur2.toList.take (q * 2) ++ its (l.drop i) ++ cur2.toList.drop (q * 2 + (its (l.drop i)).length)).toArray
  refine ⟨G, W1, W2, _, hrz, hc1, hc2, hGn, by unfold maxLen at hG63; omega, ?_, K3.mono (by simp)⟩
  refine Ow.of_cells (w := w) ?_ I3 hGn hG63 ?_ ?_ K3 (fun cur0 h0 => by have := lt_of_heap h0; omega) ?_
  · rw [List.length_append, List.length_take, List.length_cons, List.length_drop]; omega
  · rw [List.size_toArray, List.length_append, List.length_append, List.length_take, List.length_drop, hdl, Array.length_toList, hR2s]
    omega
  · show (cur2.toList.take (q * 2) ++ its (l.drop i) ++ _).take _ = _
    have e3 : (its (l.take i) ++ its [x] ++ its (l.drop i)).length = (n + 1) * 2 := by
      rw [List.length_append, List.length_append, its_len, its_len, hdl, List.length_take]
      simp
      omega
    rw [ht2, List.take_left' e3, its_app, List.append_assoc]
    rfl
  · intro it hm
    rcases List.mem_append.1 hm with hm | hm
    · exact hby it (List.mem_of_mem_take hm)
    · rcases List.mem_cons.1 hm with rfl | hm
      · exact hbx
      · exact hby it (List.mem_of_mem_drop hm)

theorem insert_shift (g cap : Nat) (cur : Array Value) (l : List It) (x : It) (gx c1 : Nat) (i q n : Nat) (hn : l.length = n) (hq : q = i + 1) (hi : i < n) (w : World) (hB : IsB w g cur 61) (hX : IsB w gx #[.int .u64 x.k, .slice x.a x.bs.length x.c] 61) (hne : g ≠ gx) (hcap : n + 1 ≤ cap) (hcm : cap ≤ maxLen) (hcs : cap * 2 ≤ cur.size) (htk : cur.toList.take (n * 2) = its l) (hby : ∀ it ∈ l, By w it.a it.c it.bs ∧ (it.a = none → it.c = 0)) (hbx : By w x.a x.c x.bs ∧ (x.a = none → x.c = 0)) :
    ∃ W2 W3, (∀ lb cb, (callFunc 53 #[.slice (some ⟨gx, 0, none⟩) 1 c1, .slice (some ⟨g, q * 2, none⟩) lb cb]).run Try.prog w = .ok (.value (.bool false)) w) ∧
      (∀ ty, (Builtin.copy_ #[22, 22] ty #[.slice (some ⟨g, q * 2, none⟩) (n - i) (cap - q), .slice (some ⟨g, i * 2, none⟩) (n + 1 - i) (cap - i)]).run Try.prog w.drew = .ok (goInt ((n - i : Nat) : Int)) W2) ∧
      (∀ ty, (Builtin.copy_ #[22, 22] ty #[.slice (some ⟨g, i * 2, none⟩) (n + 1 - i) (cap - i), .slice (some ⟨gx, 0, none⟩) 1 c1]).run Try.prog W2 = .ok (goInt 1) W3) ∧
      Ow W3 (.slice (some ⟨g, 0, none⟩) (n + 1) cap) (l.take i ++ x :: l.drop i) ∧ Kp [g] w W3 := by
  have hov : ∀ lb cb, (callFunc 53 #[.slice (some ⟨gx, 0, none⟩) 1 c1, .slice (some ⟨g, q * 2, none⟩) lb cb]).run Try.prog w = .ok (.value (.bool false)) w := fun lb cb => by
    rw [run_callFunc_extern Try.func53 (by kernel_rfl) (by kernel_rfl) (by kernel_rfl) (e := Extern.SlicesOverlaps.overlaps #[22, 22] #[4]) (by kernel_rfl),
      Lib.run_overlaps_apart w 22 4 61 Try.underlying22 2 Try.sizeOf61 ⟨gx, 0, none⟩ ⟨g, q * 2, none⟩ 1 c1 lb cb (Ne.symm hne) _ _ _ _ hX.shape hB.shape (by omega) (hX.free 0) (hX.free _)]
    rfl
  have hB' := hB.below ((Below.refl _ _).drew)
  have hgs : ∀ j v, (its (l.drop i))[j]? = some v → w.drew.cell? ((⟨g, i * 2, none⟩ : Addr).add j) = some v := fun j v hv => by
    rw [add_none]
    exact cell_of_take hB' htk i j v hv
  have hc1 := fun ty => run_copy_k (P := Try.prog) w.drew 22 22 ty 61 2 g (q * 2) (n - i) (cap - q) ⟨g, i * 2, none⟩ (n + 1 - i) (cap - i) (n - i) cur 61 (its (l.drop i)) Try.underlying22 size_it hB' (by simp only [Nat.min_def]; split <;> omega) (by rw [its_len, List.length_drop, hn]) hgs (by rw [its_len, List.length_drop]; omega) (its_one _)
  have hdl : (its (l.drop i)).length = (n - i) * 2 := by rw [its_len, List.length_drop, hn]
  have hs2 : (cur.toList.take (q * 2) ++ its (l.drop i) ++ cur.toList.drop (q * 2 + (its (l.drop i)).length)).toArray.size = cur.size := by
    rw [List.size_toArray, List.length_append, List.length_append, List.length_take, List.length_drop, hdl, Array.length_toList]
    omega
  have I2 := isB_setRow hB' (cur.toList.take (q * 2) ++ its (l.drop i) ++ cur.toList.drop (q * 2 + (its (l.drop i)).length)).toArray
  have K2 : Kp [g] w (w.drew.setRow g (cur.toList.take (q * 2) ++ its (l.drop i) ++ cur.toList.drop (q * 2 + (its (l.drop i)).length)).toArray) := (Kp.refl [g] w).drew.trans (kp_setRow _) (by simp)
  have X2 := hX.kp K2 (by simp; exact Ne.symm hne)
  have ht2 : (cur.toList.take (q * 2) ++ its (l.drop i) ++ cur.toList.drop (q * 2 + (its (l.drop i)).length)).toArray.toList.take (i * 2) = its (l.take i) := by
    show (cur.toList.take (q * 2) ++ its (l.drop i) ++ _).take (i * 2) = _
    rw [List.append_assoc, List.take_append_of_le_length (by rw [List.length_take, Array.length_toList]; omega), List.take_take, ← its_take, ← htk, List.take_take]
    congr 1
    omega
  have hd2 : (cur.toList.take (q * 2) ++ its (l.drop i) ++ cur.toList.drop (q * 2 + (its (l.drop i)).length)).toArray.toList.drop (q * 2) = its (l.drop i) ++ cur.toList.drop (q * 2 + (its (l.drop i)).length) := by
    show (cur.toList.take (q * 2) ++ its (l.drop i) ++ _).drop (q * 2) = _
    rw [List.append_assoc]
    exact List.drop_left' (by rw [List.length_take, Array.length_toList]; omega)
  generalize (cur.toList.take (q * 2) ++ its (l.drop i) ++ cur.toList.drop (q * 2 + (its (l.drop i)).length)).toArray = cur2 at hc1 hs2 I2 K2 X2 ht2 hd2
  generalize w.drew.setRow g cur2 = W2 at hc1 I2 K2 X2
  have hxs : ∀ j v, (its [x])[j]? = some v → W2.cell? ((⟨gx, 0, none⟩ : Addr).add j) = some v := fun j v hv => by
    rw [add_none, Nat.zero_add, X2.cell j]
    simpa [its] using hv
  have hxl : (its [x]).length = 2 := rfl
  have hc2 := fun ty => run_copy_k (P := Try.prog) W2 22 22 ty 61 2 g (i * 2) (n + 1 - i) (cap - i) ⟨gx, 0, none⟩ 1 c1 1 cur2 61 (its [x]) Try.underlying22 size_it I2 (by simp only [Nat.min_def]; split <;> omega) rfl hxs (by rw [hxl, hs2]; omega) (its_one _)
  have K3 : Kp [g] w (W2.setRow g (cur2.toList.take (i * 2) ++ its [x] ++ cur2.toList.drop (i * 2 + (its [x]).length)).toArray) := K2.trans (kp_setRow _) (by simp)
  refine ⟨W2, _, hov, hc1, hc2, ?_, K3⟩
  refine Ow.of_cells (w := w) ?_ (isB_setRow I2 _) hcap hcm ?_ ?_ K3 (fun cur0 h0 => absurd (cells_inj h0 hB) (by decide)) ?_
  · rw [List.length_append, List.length_take, List.length_cons, List.length_drop]; omega
  · rw [List.size_toArray, List.length_append, List.length_append, List.length_take, List.length_drop, hxl, Array.length_toList]
    omega
  · show (cur2.toList.take (i * 2) ++ its [x] ++ cur2.toList.drop (i * 2 + (its [x]).length)).take _ = _
    rw [ht2, show i * 2 + (its [x]).length = q * 2 by rw [hxl]; omega, hd2, its_app, ← List.append_assoc]
    have e3 : (its (l.take i) ++ its [x] ++ its (l.drop i)).length = (n + 1) * 2 := by
      rw [List.length_append, List.length_append, its_len, hxl, hdl, List.length_take]
      omega
    rw [List.take_left' e3, List.append_assoc]
    rfl
  · intro it hm
    rcases List.mem_append.1 hm with hm | hm
    · exact hby it (List.mem_of_mem_take hm)
    · rcases List.mem_cons.1 hm with rfl | hm
      · exact hbx
      · exact hby it (List.mem_of_mem_drop hm)

set_option maxHeartbeats 1000000 in
set_option maxRecDepth 100000 in
theorem insert_any (v : Value) (l : List It) (hl : l.length ≤ 100000) (x : It) (gx c1 : Nat) (i : Nat) (hi : i ≤ l.length) (w : World) (h : Ow w v l) (hX : IsB w gx #[.int .u64 x.k, .slice x.a x.bs.length x.c] 61) (hne : v.ownBlock ≠ some gx) (hbx : By w x.a x.c x.bs ∧ (x.a = none → x.c = 0)) :
    Calls Try.prog 47 #[v, .int .i64 (i : Int), .slice (some ⟨gx, 0, none⟩) 1 c1] w fun e w' => ∃ v', e = .returned v' ∧ Ow w' v' (l.take i ++ x :: l.drop i) ∧ (v'.ownBlock = v.ownBlock ∨ v'.ownBlock = some w.heap.size) ∧ Kp v.ownBlock.toList w w' := by
  have mixed : Try.prog.follows .mixedOrders = true := by kernel_rfl
  by_cases hin : i = l.length
  · subst hin
    obtain ⟨qa, qc, w', hrun, hO, hgr, hat⟩ := h.push x hbx.1 hbx.2 gx c1 hX hl 22
    have HO : Hid (Ow w' (.slice qa (l.length + 1) qc) (l.take l.length ++ x :: l.drop l.length)) := by
      show Ow _ _ _
      rw [List.take_length, List.drop_length]
      exact hO
    have HK : Hid (Kp v.ownBlock.toList w w') := Kp.of_grown hgr (fun k hk => Or.inl (by rw [hk]; simp))
    have HA := hide hat
    obtain ⟨va, vc, rfl, hnc, hcm⟩ := h.sl.shape
    have hcm2 : vc ≤ 9223372036854775807 := by unfold maxLen at hcm; omega
    have HR := hide hrun
    clear h hX hne hbx hrun hO hgr hat hcm
    generalize hn : l.length = n at *
    replace hn := hide hn
    go_enter Try.func47, Try.ntmps47
    go_wp2_with (at_builtin; refine wpList_append_eq rfl (.tmp 23) (.tmp 24) 22 rfl _ _ (.slice qa (n + 1) qc) w' rfl rfl HR.out ?_)
    all_goals go_ret
    all_goals first | exact ⟨_, rfl, HO.out, HA.out, HK.out⟩ | (have hvc : vc = n := (by omega); rw [hvc] at HA HK; exact ⟨_, rfl, HO.out, HA.out, HK.out⟩)
  · obtain ⟨g, cap, cur, rfl, hB, hnc, hcm, hcs, htk⟩ := h.form (by omega)
    obtain ⟨q, hq⟩ : ∃ q, q = i + 1 := ⟨_, rfl⟩
    have hgx : g ≠ gx := fun e => hne (by rw [e]; rfl)
    have hw1 : Hid (IntKind.i64.wrap ((i : Int) + 1) = (q : Int)) := by show _ = _; rw [IntKind.wrap_i64]; omega
    by_cases hroom : l.length + 1 ≤ cap
    · obtain ⟨W2, W3, hov, hc1, hc2, hO, hK⟩ := insert_shift g cap cur l x gx c1 i q l.length rfl hq (by omega) w hB hX hgx hroom hcm hcs htk h.byt hbx
      have HC1 := hide (hc1 3)
      have HO := hide hO
      have HK := hide hK
      clear h hX hne hbx hB hcs htk hc1 hO hK
      generalize hn : l.length = n at *
      replace hn := hide hn
      have hz2 : ((i : Int) == (n : Int)) = false := by simp; omega
      have hcq : ¬cap = q := by omega
      have hci : ¬cap = i := by omega
      have hnq : Hid (n + 1 - q = n - i) := by show _ = _; omega
      have hcm2 : cap ≤ 9223372036854775807 := by unfold maxLen at hcm; omega
      have hin2 : i ≤ n := by omega
      have hqn : q ≤ n + 1 := by omega
      have hqz : (q : Int) ≤ (n : Int) + 1 := by omega
      have hiqz : (i : Int) + 1 = (q : Int) := by omega
      have hrm : ¬((cap : Int) < (n : Int) + 1) := by omega
      clear hin hcm hq
      go_enter Try.func47, Try.ntmps47
      go_wp2_with (simp only [hov])
      refine regionL 9 (fun _ => True) mixed trivial (fun hHeld => ?_)
      refine pickA (v := ?_) 0 (some 69) rfl rfl (by kernel_rfl) (by kernel_rfl) (by kernel_rfl) (by decide) (fun _ _ _ h => h) (by rfl) ?_ (by assumption) ?_
      rotate_left
      · intro w'
        go_simp
        try with_reducible rfl
      try simp only [Act.put, List.setIfInBounds_toArray, List.set_cons_zero, List.set_cons_succ]
      refine pickA (v := ?_) 1 (some 70) rfl rfl (by kernel_rfl) (by kernel_rfl) (by kernel_rfl) (by decide) (fun _ _ _ h => h) (by rfl) ?_ (by assumption) ?_
      rotate_left
      · intro w'
        go_simp
        try with_reducible rfl
      try simp only [Act.put, List.setIfInBounds_toArray, List.set_cons_zero, List.set_cons_succ]
      refine pickA (v := ?_) 2 (some 71) rfl rfl (by kernel_rfl) (by kernel_rfl) (by kernel_rfl) (by decide) (fun _ _ _ h => h) (by rfl) ?_ (by assumption) ?_
      rotate_left
      · intro w'
        go_simp
        try with_reducible rfl
      try simp only [Act.put, List.setIfInBounds_toArray, List.set_cons_zero, List.set_cons_succ]
      refine pickA (v := .int .i64 (q : Int)) 3 (some 72) rfl rfl (by kernel_rfl) (by kernel_rfl) (by kernel_rfl) (by decide) (fun _ _ _ h => h) (by rfl) ?_ (by assumption) ?_
      · intro w'
        go_simp
        all_goals (first | rw [hw1.out] | (rw [IntKind.wrap_i64]; omega))
      try simp only [Act.put, List.setIfInBounds_toArray, List.set_cons_zero, List.set_cons_succ]
      refine pickA (v := .slice (some ⟨g, q * 2, none⟩) (n - i) (cap - q)) 4 (some 73) rfl rfl (by kernel_rfl) (by kernel_rfl) (by kernel_rfl) (by decide) (fun _ _ _ h => h) (by rfl) ?_ (by assumption) ?_
      · intro w'
        go_simp
        all_goals (first | rw [hnq.out] | (simp [hnq.out]; done))
      try simp only [Act.put, List.setIfInBounds_toArray, List.set_cons_zero, List.set_cons_succ]
      refine pickA (v := ?_) 5 (some 74) rfl rfl (by kernel_rfl) (by kernel_rfl) (by kernel_rfl) (by decide) (fun _ _ _ h => h) (by rfl) ?_ (by assumption) ?_
      rotate_left
      · intro w'
        go_simp
        try with_reducible rfl
      try simp only [Act.put, List.setIfInBounds_toArray, List.set_cons_zero, List.set_cons_succ]
      refine pickA (v := ?_) 6 (some 75) rfl rfl (by kernel_rfl) (by kernel_rfl) (by kernel_rfl) (by decide) (fun _ _ _ h => h) (by rfl) ?_ (by assumption) ?_
      rotate_left
      · intro w'
        go_simp
        try with_reducible rfl
      try simp only [Act.put, List.setIfInBounds_toArray, List.set_cons_zero, List.set_cons_succ]
      refine pickA (v := .slice (some ⟨g, i * 2, none⟩) (n + 1 - i) (cap - i)) 7 (some 76) rfl rfl (by kernel_rfl) (by kernel_rfl) (by kernel_rfl) (by decide) (fun _ _ _ h => h) (by rfl) ?_ (by assumption) ?_
      · intro w'
        go_simp
        all_goals (first | (simp [hci]; done) | omega)
      try simp only [Act.put, List.setIfInBounds_toArray, List.set_cons_zero, List.set_cons_succ]
      refine oneL (i := 8) (by kernel_rfl) rfl (fun K hK => ?_)
      refine step_copy_runI rfl (.tmp 73) (.tmp 76) 22 22 rfl (.slice (some ⟨g, q * 2, none⟩) (n - i) (cap - q)) (.slice (some ⟨g, i * 2, none⟩) (n + 1 - i) (cap - i)) rfl rfl HC1.out ?_
      refine hK.out _ _ ?_ ?_
      · trivial
      clear hK K
      try simp only [Act.put, List.setIfInBounds_toArray]
      refine doneL (by kernel_rfl) ?_ _
      clear hHeld
      go_wp2
      go_ret
      exact ⟨_, rfl, HO.out, Or.inl rfl, HK.out⟩
    · obtain ⟨G, W1, W2, W3, hrz, hc1, hc2, hG1, hG2, hO, hK⟩ := insert_grow g cap cur l hl x gx c1 i q l.length rfl hq (by omega) w hB hX (by omega) htk h.byt hbx
      have HC2 := hide (hc2 3)
      have HO := hide hO
      have HK := hide hK
      have HR := hide (hrz 22)
      clear h hX hne hbx hB hcs htk hc2 hO hK hrz
      generalize hn : l.length = n at *
      replace hn := hide hn
      generalize hnb : w.heap.size = nb at *
      replace hnb := hide hnb
      have hz2 : ((i : Int) == (n : Int)) = false := by simp; omega
      have hGq : ¬G = q := by omega
      have hGi : ¬G = i := by omega
      have hci : ¬cap = i := by omega
      have hnq : Hid (n + 1 - q = n - i) := by show _ = _; omega
      have hcm2 : cap ≤ 9223372036854775807 := by unfold maxLen at hcm; omega
      have hin2 : i ≤ n := by omega
      have hqn : q ≤ n + 1 := by omega
      have hqz : (q : Int) ≤ (n : Int) + 1 := by omega
      have hiqz : (i : Int) + 1 = (q : Int) := by omega
      have hrm : (cap : Int) < (n : Int) + 1 := by omega
      clear hin hcm hq
      go_enter Try.func47, Try.ntmps47
      go_wp2_with (at_builtin; refine Lib.wpList_append_run _ rfl (.tmp 34) (.tmp 39) 22 3 rfl _ _ rfl rfl (.slice (some ⟨nb, 0, none⟩) (n + 1) G) W1 HR.out ?_)
      refine regionL 9 (fun _ => True) mixed trivial (fun hHeld => ?_)
      refine pickA (v := ?_) 0 (some 46) rfl rfl (by kernel_rfl) (by kernel_rfl) (by kernel_rfl) (by decide) (fun _ _ _ h => h) (by rfl) ?_ (by assumption) ?_
      rotate_left
      · intro w'
        go_simp
        try with_reducible rfl
      try simp only [Act.put, List.setIfInBounds_toArray, List.set_cons_zero, List.set_cons_succ]
      refine pickA (v := ?_) 1 (some 47) rfl rfl (by kernel_rfl) (by kernel_rfl) (by kernel_rfl) (by decide) (fun _ _ _ h => h) (by rfl) ?_ (by assumption) ?_
      rotate_left
      · intro w'
        go_simp
        try with_reducible rfl
      try simp only [Act.put, List.setIfInBounds_toArray, List.set_cons_zero, List.set_cons_succ]
      refine pickA (v := ?_) 2 (some 48) rfl rfl (by kernel_rfl) (by kernel_rfl) (by kernel_rfl) (by decide) (fun _ _ _ h => h) (by rfl) ?_ (by assumption) ?_
      rotate_left
      · intro w'
        go_simp
        try with_reducible rfl
      try simp only [Act.put, List.setIfInBounds_toArray, List.set_cons_zero, List.set_cons_succ]
      refine pickA (v := .int .i64 (q : Int)) 3 (some 49) rfl rfl (by kernel_rfl) (by kernel_rfl) (by kernel_rfl) (by decide) (fun _ _ _ h => h) (by rfl) ?_ (by assumption) ?_
      · intro w'
        go_simp
        all_goals (first | rw [hw1.out] | (rw [IntKind.wrap_i64]; omega))
      try simp only [Act.put, List.setIfInBounds_toArray, List.set_cons_zero, List.set_cons_succ]
      refine pickA (v := .slice (some ⟨nb, q * 2, none⟩) (n - i) (G - q)) 4 (some 50) rfl rfl (by kernel_rfl) (by kernel_rfl) (by kernel_rfl) (by decide) (fun _ _ _ h => h) (by rfl) ?_ (by assumption) ?_
      · intro w'
        go_simp
        all_goals (first | rw [hnq.out] | (simp [hnq.out]; done))
      try simp only [Act.put, List.setIfInBounds_toArray, List.set_cons_zero, List.set_cons_succ]
      refine pickA (v := ?_) 5 (some 51) rfl rfl (by kernel_rfl) (by kernel_rfl) (by kernel_rfl) (by decide) (fun _ _ _ h => h) (by rfl) ?_ (by assumption) ?_
      rotate_left
      · intro w'
        go_simp
        try with_reducible rfl
      try simp only [Act.put, List.setIfInBounds_toArray, List.set_cons_zero, List.set_cons_succ]
      refine pickA (v := ?_) 6 (some 52) rfl rfl (by kernel_rfl) (by kernel_rfl) (by kernel_rfl) (by decide) (fun _ _ _ h => h) (by rfl) ?_ (by assumption) ?_
      rotate_left
      · intro w'
        go_simp
        try with_reducible rfl
      try simp only [Act.put, List.setIfInBounds_toArray, List.set_cons_zero, List.set_cons_succ]
      refine pickA (v := .slice (some ⟨g, i * 2, none⟩) (n - i) (cap - i)) 7 (some 53) rfl rfl (by kernel_rfl) (by kernel_rfl) (by kernel_rfl) (by decide) (fun _ _ _ h => h) (by rfl) ?_ (by assumption) ?_
      · intro w'
        go_simp
        all_goals (first | (simp [hci]; done) | omega)
      try simp only [Act.put, List.setIfInBounds_toArray, List.set_cons_zero, List.set_cons_succ]
      refine oneL (i := 8) (by kernel_rfl) rfl (fun K hK => ?_)
      refine step_copy_runI rfl (.tmp 50) (.tmp 53) 22 22 rfl (.slice (some ⟨nb, q * 2, none⟩) (n - i) (G - q)) (.slice (some ⟨g, i * 2, none⟩) (n - i) (cap - i)) rfl rfl HC2.out ?_
      refine hK.out _ _ ?_ ?_
      · trivial
      clear hK K
      try simp only [Act.put, List.setIfInBounds_toArray]
      refine doneL (by kernel_rfl) ?_ _
      clear hHeld
      go_wp2
      go_ret
      exact ⟨_, rfl, HO.out, Or.inr rfl, HK.out.mono (by simp)⟩

end Go.Proofs.Ytfnpapaibgbjpaa
