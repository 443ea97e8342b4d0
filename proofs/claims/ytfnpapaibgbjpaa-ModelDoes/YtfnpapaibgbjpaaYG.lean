/- The document's Do. -/
import Derived.Test.YtfnpapaibgbjpaaYF
namespace Go.Proofs.Ytfnpapaibgbjpaa
open Go.RowKit Go.Maps

theorem kB_th {l : List It} (ho : okM l) (x : Int) : kB x l = th l x := by rw [kB_val, th_fnd ho]; rfl
theorem ph_pl {l : List It} (ho : okM l) {x : Int} (h : th l x = false) : ph x l = pl x l := by
  refine tw_len l _ (pl_le x l) (fun q hq hqi => ?_) (fun hi => ?_)
  · have hm : l[q] ∈ l.take (pl x l) := by
      rw [List.mem_take_iff_getElem]
      exact ⟨q, by omega, rfl⟩
    have := pl_lt _ hm
    exact decide_eq_true (by omega)
  · have hm : l[pl x l] ∈ l.drop (pl x l) := by
      rw [List.mem_drop_iff_getElem]
      exact ⟨0, by omega, by simp⟩
    have := pl_gt ho h _ hm
    exact decide_eq_false (by omega)
theorem filter_without {l : List It} (ho : okM l) {x : Int} (h : th l x = true) : l.filter (fun it => !(it.k == x)) = l.take (pl x l) ++ l.drop (pl x l + 1) := by
  have hlt := th_lt h
  have hk : l[pl x l].k = x := by
    unfold th at h
    rw [List.getElem?_eq_getElem hlt] at h
    simpa using h
  conv => lhs; rw [← List.take_append_drop (pl x l) l, List.drop_eq_getElem_cons hlt]
  rw [List.filter_append, List.filter_cons]
  have e1 : (l.take (pl x l)).filter (fun it => !(it.k == x)) = l.take (pl x l) := by
    rw [List.filter_eq_self]
    intro it hi
    have := pl_lt it hi
    simp
    omega
  have e2 : (l.drop (pl x l + 1)).filter (fun it => !(it.k == x)) = l.drop (pl x l + 1) := by
    rw [List.filter_eq_self]
    intro it hi
    obtain ⟨j, hj, rfl⟩ := List.getElem_of_mem hi
    rw [List.length_drop] at hj
    rw [List.getElem_drop]
    have := okM_lt2 ho (i := pl x l) (j := pl x l + 1 + j) (by omega) (by omega)
    simp
    omega
  rw [e1, e2, hk]
  simp
theorem Ro.fin {w w5 w6 w9 : World} {v : Value} {l : List It} {b : Nat} (h : Ro w5 w6 v l) (hk : Kp [b] w6 w9) (hb : b < w5.heap.size) (hrd : ∀ it ∈ l, RdI w it) (B9 : Below w.heap.size w w9) : Sl w9 v l :=
  (h.row.kp hk (fun k hv hm => by simp at hm; have := h.new k hv; omega)).sl (fun it hi => (hrd it hi).below B9)

theorem RsD.low {w w5 w7 w8 : World} {l : List It} {r : Rs} {b : Nat} (h : RsD w5 w7 l r) (hk : Kp [b] w7 w8) (hb : b < w5.heap.size) (hw : w.heap.size ≤ w5.heap.size) : RsD w w8 l r :=
  ⟨h.vb, h.row.kp hk (fun k hv hm => by simp at hm; have := h.new k hv; omega), fun k hk' => Nat.le_trans hw (h.new k hk'), h.mem⟩
theorem Ro.low {w w5 w6 w9 : World} {v : Value} {l : List It} {b : Nat} (h : Ro w5 w6 v l) (hk : Kp [b] w6 w9) (hb : b < w5.heap.size) (hw : w.heap.size ≤ w5.heap.size) : Rw w9 61 2 v l.length (its l) ∧ ∀ k, v.ownBlock = some k → w.heap.size ≤ k :=
  ⟨h.row.kp hk (fun k hv hm => by simp at hm; have := h.new k hv; omega), fun k hk' => Nat.le_trans hw (h.new k hk')⟩
/-- What the document's Do made: the map, and the result. -/
structure DoR (w w' : World) (v : Value) (l : List It) (x : It) (v' : Value) (m : List It) (r : Rs) : Prop where
  row : (v' = v ∧ m = l) ∨ (Rw w' 61 2 v' m.length (its m) ∧ ∀ k, v'.ownBlock = some k → w.heap.size ≤ k)
  mem : ∀ it ∈ m, it ∈ l ∨ it = x
  res : RsD w w' l r
theorem insMem {l : List It} {x : It} {i : Nat} : ∀ it ∈ l.take i ++ x :: l.drop i, it ∈ l ∨ it = x := fun it hi => by
  rcases List.mem_append.1 hi with hi | hi
  · exact Or.inl (List.mem_of_mem_take hi)
  · rcases List.mem_cons.1 hi with hi | hi
    · exact Or.inr hi
    · exact Or.inl (List.mem_of_mem_drop hi)
theorem nilRow (w w' : World) : Rw w' 61 2 (.slice none 0 0) ([] : List It).length (its []) ∧ ∀ k, (Value.slice none 0 0).ownBlock = some k → w.heap.size ≤ k := ⟨⟨rfl, Or.inl ⟨rfl, rfl⟩⟩, fun k hk => (by cases hk)⟩

set_option maxHeartbeats 1600000 in
set_option maxRecDepth 100000 in
theorem rdo_any (v : Value) (l : List It) (hl : l.length ≤ 10000) (hkm : ∀ it ∈ l, it.k ≤ 18446744073709551615) (kd key high : Int) (ca : Option Addr) (cc : Nat) (cb : List UInt8) (w : World) (h : Sl w v l) (hrd : RdC w (⟨kd, key, high, ca, cc, cb⟩ : Ca)) :
    Calls Try.prog 22 #[v, .agg #[.int .i64 kd, .int .u64 key, .int .u64 high, .slice ca cb.length cc]] w fun e w' => ∃ v' m r E, e = .returned (.tuple #[v', .agg (Rs.cells r), .int .i64 E]) ∧ DoR w w' v l ⟨key, ca, cc, cb⟩ v' m r ∧ (m.map It.val, Rs.val r, E) = doE l (⟨kd, key, high, ca, cc, cb⟩ : Ca) ∧ Below w.heap.size w w' := by
  obtain ⟨cn, hcn⟩ : ∃ z, cb.length = z := ⟨_, rfl⟩
  rw [hcn]
  replace hcn := hide hcn
  have HKM := hide hkm
  have b2 := ((Below.refl w.heap.size w).alloc (Nat.le_refl _) (.cells #[.int .i64 kd, .int .u64 key, .int .u64 high, .slice ca cn cc] 27)).alloc (by simp) (.cells #[.int .i64 0, .int .u64 0, .slice none 0 0, .slice none 0 0, .int .i64 0, .int .i64 0, .int .u64 0, .int .i64 0, .int .u64 0, .int .i64 0, .int .i64 0, .int .u64 0, .int .i64 0, .int .u64 0, .bool false] 46)
  have Va : Hid (IsB ((w.alloc (.cells #[.int .i64 kd, .int .u64 key, .int .u64 high, .slice ca cn cc] 27)).alloc (.cells #[.int .i64 0, .int .u64 0, .slice none 0 0, .slice none 0 0, .int .i64 0, .int .i64 0, .int .u64 0, .int .i64 0, .int .u64 0, .int .i64 0, .int .i64 0, .int .u64 0, .int .i64 0, .int .u64 0, .bool false] 46)) w.heap.size #[.int .i64 kd, .int .u64 key, .int .u64 high, .slice ca cn cc] 27) := (IsB.new w #[.int .i64 kd, .int .u64 key, .int .u64 high, .slice ca cn cc] _).below ((Below.refl _ _).alloc (Nat.le_refl _) _)
  have Zb : Hid (IsB ((w.alloc (.cells #[.int .i64 kd, .int .u64 key, .int .u64 high, .slice ca cn cc] 27)).alloc (.cells #[.int .i64 0, .int .u64 0, .slice none 0 0, .slice none 0 0, .int .i64 0, .int .i64 0, .int .u64 0, .int .i64 0, .int .u64 0, .int .i64 0, .int .i64 0, .int .u64 0, .int .i64 0, .int .u64 0, .bool false] 46)) (w.heap.size + 1) #[.int .i64 0, .int .u64 0, .slice none 0 0, .slice none 0 0, .int .i64 0, .int .i64 0, .int .u64 0, .int .i64 0, .int .u64 0, .int .i64 0, .int .i64 0, .int .u64 0, .int .i64 0, .int .u64 0, .bool false] 46) := by
    have := IsB.new (w.alloc (.cells #[.int .i64 kd, .int .u64 key, .int .u64 high, .slice ca cn cc] 27)) #[.int .i64 0, .int .u64 0, .slice none 0 0, .slice none 0 0, .int .i64 0, .int .i64 0, .int .u64 0, .int .i64 0, .int .u64 0, .int .i64 0, .int .i64 0, .int .u64 0, .int .i64 0, .int .u64 0, .bool false] 46
    rwa [World.size_alloc] at this
  have SL := hide (h.below b2)
  have HRd := hide (hrd.below b2)
  have B := hide b2
  have hsz : Hid (w.heap.size + 1 < ((w.alloc (.cells #[.int .i64 kd, .int .u64 key, .int .u64 high, .slice ca cn cc] 27)).alloc (.cells #[.int .i64 0, .int .u64 0, .slice none 0 0, .slice none 0 0, .int .i64 0, .int .i64 0, .int .u64 0, .int .i64 0, .int .u64 0, .int .i64 0, .int .i64 0, .int .u64 0, .int .i64 0, .int .u64 0, .bool false] 46)).heap.size) := by show _ < _; simp
  clear h hrd hkm b2
  go_enter Try.func22, Try.ntmps22
  go_wp2_with fail
  generalize ((w.alloc (.cells #[.int .i64 kd, .int .u64 key, .int .u64 high, .slice ca cn cc] 27)).alloc (.cells #[.int .i64 0, .int .u64 0, .slice none 0 0, .slice none 0 0, .int .i64 0, .int .i64 0, .int .u64 0, .int .i64 0, .int .u64 0, .int .i64 0, .int .i64 0, .int .u64 0, .int .i64 0, .int .u64 0, .bool false] 46)) = W2 at *
  generalize hH : w.heap.size = H at Va Zb hsz ⊢
  replace hH := hide hH
  refine (rcheck_any v l (by omega) W2 SL.out).mono ?_
  rintro e w3 ⟨rfl, hb⟩
  replace Va := hide (Va.out.below hb)
  replace Zb := hide (Zb.out.below hb)
  replace SL := hide (SL.out.below hb)
  replace HRd := hide (HRd.out.below hb)
  replace B := hide (B.out.trans (hb.mono B.out.size))
  have hs3 : Hid (H + 1 < w3.heap.size) := Nat.lt_of_lt_of_le hsz.out hb.size
  clear hb hsz
  by_cases ho : okM l
  rotate_left
  · rw [ckE_no ho]
    obtain ⟨w4, hst, Z4, k4⟩ := store_res Zb.out (cs := #[.int .i64 0, .int .u64 0, .slice none 0 0, .slice none 0 0, .int .i64 0, .int .i64 0, .int .u64 0, .int .i64 0, .int .u64 0, .int .i64 0, .int .i64 0, .int .u64 0, .int .i64 0, .int .u64 0, .bool false]) rfl rfl (by first | kernel_rfl | (unfold Rs.cells; kernel_rfl))
    have HST := hide hst
    have S4 := hide Z4
    have B4 : Hid (Below w.heap.size w w4) := B.out.trans (k4.to_below (by have := B.out.size; omega) (by simp; have := hH.out; omega))
    have KK := hide k4
    clear hst Z4 k4
    go_wp2_with ((with_reducible refine wpList_store_w ?hw 46 (.tmp 5) (.tmp 12) ?ho ?hx ?hy HST.out ?h); (case ho => rfl); (case hw => rfl); (case hx => rfl); (case hy => rfl))
    refine ret_do (t := 4) (p := 5) (u := 6) (b := H + 1) Try.results22 rfl rfl rfl rfl S4.out ?_
    exact ⟨_, [], ⟨0, 0, none, 0, [], none, 0, [], false⟩, 103, rfl, ⟨Or.inr (nilRow _ _), by simp, RsD.plain _ _ _ _⟩, (by unfold doE; rw [if_neg ho]; rfl), B4.out⟩
  rw [ckE_yes ho]
  have HOK := hide ho
  have LC := hide (load_call Va.out rfl)
  go_wp2_with ((with_reducible refine wpList_load_w ?hw 27 (.tmp 3) ?ho ?hx LC.out ?h); (case ho => rfl); (case hw => rfl); (case hx => rfl))
  clear LC
  refine (rcall_any kd key high ca cn cc w3).mono ?_
  rintro e w5 ⟨rfl, hb⟩
  replace Va := hide (Va.out.below hb)
  replace Zb := hide (Zb.out.below hb)
  replace SL := hide (SL.out.below hb)
  replace HRd := hide (HRd.out.below hb)
  replace B := hide (B.out.trans (hb.mono B.out.size))
  have hs5 : Hid (H + 1 < w5.heap.size) := Nat.lt_of_lt_of_le hs3.out hb.size
  clear hb hs3
  cases hck : okC kd high cn with
  | false =>
    rw [clE_no hck]
    obtain ⟨w6, hst, Z6, k6⟩ := store_res Zb.out (cs := #[.int .i64 0, .int .u64 0, .slice none 0 0, .slice none 0 0, .int .i64 0, .int .i64 0, .int .u64 0, .int .i64 0, .int .u64 0, .int .i64 0, .int .i64 0, .int .u64 0, .int .i64 0, .int .u64 0, .bool false]) rfl rfl (by first | kernel_rfl | (unfold Rs.cells; kernel_rfl))
    have HST := hide hst
    have S6 := hide Z6
    have B6 : Hid (Below w.heap.size w w6) := B.out.trans (k6.to_below (by have := B.out.size; omega) (by simp; have := hH.out; omega))
    have KK := hide k6
    clear hst Z6 k6
    have hcb : Ca.ok (⟨kd, key, high, ca, cc, cb⟩ : Ca) = false := by show okC kd high cb.length = false; rw [hcn.out]; exact hck
    go_wp2_with ((with_reducible refine wpList_store_w ?hw 46 (.tmp 5) (.tmp 16) ?ho ?hx ?hy HST.out ?h); (case ho => rfl); (case hw => rfl); (case hx => rfl); (case hy => rfl))
    refine ret_do (t := 4) (p := 5) (u := 6) (b := H + 1) Try.results22 rfl rfl rfl rfl S6.out ?_
    exact ⟨_, [], ⟨0, 0, none, 0, [], none, 0, [], false⟩, 104, rfl, ⟨Or.inr (nilRow _ _), by simp, RsD.plain _ _ _ _⟩, (by unfold doE; rw [if_pos ho, hcb]; rfl), B6.out⟩
  | true =>
    rw [clE_yes hck]
    have HCK : Hid (Ca.ok (⟨kd, key, high, ca, cc, cb⟩ : Ca) = true) := by show okC kd high cb.length = true; rw [hcn.out]; exact hck
    have HD := hide (doE_yes HOK.out HCK.out)
    have hkinds := Ca.kinds HCK.out
    simp only [] at hkinds
    clear hck ho
    have y0 := Va.out.cell 0
    have y1 := Va.out.cell 1
    have y3 := Va.out.cell 3
    simp at y0 y1 y3
    go_wp2_with fail
    refine (rkey_any v l (by omega) key w5 SL.out).mono ?_
    intro e w6 hE
    obtain ⟨rfl, hw6⟩ := hE
    rw [hw6]; clear hw6 w6
    rw [kB_th HOK.out]
    obtain ⟨ka, kc, hkv, -, -⟩ := kV_form SL.out key
    rw [hkv]
    clear hkv
    generalize (kS key l).length = kn at *
    cases ht : th l key with
    | true =>
      have HT := hide ht
      rcases hkinds with ⟨hk, -⟩ | hk | hk | hk | hk
      · subst hk
        go_wp2_with fail
        refine (err_any 100 w5).mono ?_
        rintro e w7 ⟨rfl, hb⟩
        replace Va := hide (Va.out.below hb)
        replace Zb := hide (Zb.out.below hb)
        replace SL := hide (SL.out.below hb)
        replace HRd := hide (HRd.out.below hb)
        replace B := hide (B.out.trans (hb.mono B.out.size))
        clear hb
        obtain ⟨w8, hst, Z8, k8⟩ := store_res Zb.out (cs := #[.int .i64 100, .int .u64 0, .slice none 0 0, .slice none 0 0, .int .i64 0, .int .i64 0, .int .u64 0, .int .i64 0, .int .u64 0, .int .i64 0, .int .i64 0, .int .u64 0, .int .i64 0, .int .u64 0, .bool false]) rfl rfl (by first | kernel_rfl | (unfold Rs.cells; kernel_rfl))
        have HST := hide hst
        have S8 := hide Z8
        have B8 : Hid (Below w.heap.size w w8) := B.out.trans (k8.to_below (by have := B.out.size; omega) (by simp; have := hH.out; omega))
        have KK := hide k8
        clear hst Z8 k8
        go_wp2_with ((with_reducible refine wpList_store_w ?hw 46 (.tmp 5) (.tmp 32) ?ho ?hx ?hy HST.out ?h); (case ho => rfl); (case hw => rfl); (case hx => rfl); (case hy => rfl))
        refine ret_do (t := 4) (p := 5) (u := 6) (b := H + 1) Try.results22 rfl rfl rfl rfl S8.out ?_
        exact ⟨_, l, ⟨100, 0, none, 0, [], none, 0, [], false⟩, 0, rfl, ⟨Or.inl ⟨rfl, rfl⟩, fun it hi => Or.inl hi, RsD.plain _ _ _ _⟩, (by rw [HD.out]; simp [Ca.wrote, Ca.told, wv, tl, HT.out, Rs.val]), B8.out⟩
      · subst hk
        go_wp2_with fail
        refine (rwithout_any v l (by omega) key w5 SL.out).mono ?_
        rintro e w7 ⟨v7, rfl, hRo⟩
        have hb := hRo.bel
        have RO := hide hRo
        replace Va := hide (Va.out.below hb)
        replace Zb := hide (Zb.out.below hb)
        replace SL := hide (SL.out.below hb)
        replace HRd := hide (HRd.out.below hb)
        replace B := hide (B.out.trans (hb.mono B.out.size))
        clear hb hRo
        obtain ⟨w8, hst, Z8, k8⟩ := store_res Zb.out (cs := #[.int .i64 0, .int .u64 0, .slice none 0 0, .slice none 0 0, .int .i64 0, .int .i64 0, .int .u64 0, .int .i64 0, .int .u64 0, .int .i64 0, .int .i64 0, .int .u64 0, .int .i64 0, .int .u64 0, .bool false]) rfl rfl (by first | kernel_rfl | (unfold Rs.cells; kernel_rfl))
        have HST := hide hst
        have S8 := hide Z8
        have B8 : Hid (Below w.heap.size w w8) := B.out.trans (k8.to_below (by have := B.out.size; omega) (by simp; have := hH.out; omega))
        have KK := hide k8
        clear hst Z8 k8
        have S9 := hide (RO.out.low (w := w) KK.out hs5.out (by have := hs5.out; have := hH.out; omega))
        go_wp2_with ((with_reducible refine wpList_store_w ?hw 46 (.tmp 5) (.tmp 63) ?ho ?hx ?hy HST.out ?h); (case ho => rfl); (case hw => rfl); (case hx => rfl); (case hy => rfl))
        refine ret_do (t := 4) (p := 5) (u := 6) (b := H + 1) Try.results22 rfl rfl rfl rfl S8.out ?_
        exact ⟨_, _, ⟨0, 0, none, 0, [], none, 0, [], false⟩, 0, rfl, ⟨Or.inr S9.out, fun it hi => Or.inl (List.mem_filter.1 hi).1, RsD.plain _ _ _ _⟩, (by rw [HD.out, filter_without HOK.out HT.out]; simp [Ca.wrote, Ca.told, wv, tl, HT.out, Rs.val]), B8.out⟩
      · subst hk
        clear y0 y1 y3
        have y0 := Va.out.cell 0
        have y1 := Va.out.cell 1
        have y3 := Va.out.cell 3
        simp at y0 y1 y3
        have LC := hide (load_call Va.out rfl)
        go_wp2_with ((with_reducible refine wpList_load_w ?hw 27 (.tmp 3) ?ho ?hx LC.out ?h); (case ho => rfl); (case hw => rfl); (case hx => rfl))
        clear LC
        refine (asked_3 v l (by omega) HOK.out key high ca cn cc w5 SL.out).mono ?_
        rintro e w7 ⟨r, rfl, hrv, hrr, hb⟩
        replace Va := hide (Va.out.below hb)
        replace Zb := hide (Zb.out.below hb)
        replace SL := hide (SL.out.below hb)
        replace HRd := hide (HRd.out.below hb)
        replace B := hide (B.out.trans (hb.mono B.out.size))
        have RV := hide hrv
        have RR := hide hrr
        have hb7 := hide hb
        clear hrv hrr hb
        obtain ⟨w8, hst, Z8, k8⟩ := store_res Zb.out (cs := r.cells) rfl rfl (by first | kernel_rfl | (unfold Rs.cells; kernel_rfl))
        have HST := hide hst
        have S8 := hide Z8
        have B8 : Hid (Below w.heap.size w w8) := B.out.trans (k8.to_below (by have := B.out.size; omega) (by simp; have := hH.out; omega))
        have KK := hide k8
        clear hst Z8 k8
        have RR8 : Hid (RsD w w8 l r) := RR.out.low KK.out hs5.out (by have := hs5.out; have := hH.out; omega)
        go_wp2_with ((with_reducible refine wpList_store_w ?hw 46 (.tmp 5) (.tmp 67) ?ho ?hx ?hy HST.out ?h); (case ho => rfl); (case hw => rfl); (case hx => rfl); (case hy => rfl))
        refine ret_do (t := 4) (p := 5) (u := 6) (b := H + 1) Try.results22 rfl rfl rfl rfl S8.out ?_
        exact ⟨_, l, r, 0, rfl, ⟨Or.inl ⟨rfl, rfl⟩, fun it hi => Or.inl hi, RR8.out⟩, (by rw [HD.out, RV.out]; simp [Ca.wrote, Ca.told, wv]), B8.out⟩
      · subst hk
        clear y0 y1 y3
        have y0 := Va.out.cell 0
        have y1 := Va.out.cell 1
        have y3 := Va.out.cell 3
        simp at y0 y1 y3
        have LC := hide (load_call Va.out rfl)
        go_wp2_with ((with_reducible refine wpList_load_w ?hw 27 (.tmp 3) ?ho ?hx LC.out ?h); (case ho => rfl); (case hw => rfl); (case hx => rfl))
        clear LC
        refine (asked_4 v l (by omega) HOK.out HKM.out key high ca cn cc w5 SL.out).mono ?_
        rintro e w7 ⟨r, rfl, hrv, hrr, hb⟩
        replace Va := hide (Va.out.below hb)
        replace Zb := hide (Zb.out.below hb)
        replace SL := hide (SL.out.below hb)
        replace HRd := hide (HRd.out.below hb)
        replace B := hide (B.out.trans (hb.mono B.out.size))
        have RV := hide hrv
        have RR := hide hrr
        have hb7 := hide hb
        clear hrv hrr hb
        obtain ⟨w8, hst, Z8, k8⟩ := store_res Zb.out (cs := r.cells) rfl rfl (by first | kernel_rfl | (unfold Rs.cells; kernel_rfl))
        have HST := hide hst
        have S8 := hide Z8
        have B8 : Hid (Below w.heap.size w w8) := B.out.trans (k8.to_below (by have := B.out.size; omega) (by simp; have := hH.out; omega))
        have KK := hide k8
        clear hst Z8 k8
        have RR8 : Hid (RsD w w8 l r) := RR.out.low KK.out hs5.out (by have := hs5.out; have := hH.out; omega)
        go_wp2_with ((with_reducible refine wpList_store_w ?hw 46 (.tmp 5) (.tmp 67) ?ho ?hx ?hy HST.out ?h); (case ho => rfl); (case hw => rfl); (case hx => rfl); (case hy => rfl))
        refine ret_do (t := 4) (p := 5) (u := 6) (b := H + 1) Try.results22 rfl rfl rfl rfl S8.out ?_
        exact ⟨_, l, r, 0, rfl, ⟨Or.inl ⟨rfl, rfl⟩, fun it hi => Or.inl hi, RR8.out⟩, (by rw [HD.out, RV.out]; simp [Ca.wrote, Ca.told, wv]), B8.out⟩
      · subst hk
        clear y0 y1 y3
        have y0 := Va.out.cell 0
        have y1 := Va.out.cell 1
        have y3 := Va.out.cell 3
        simp at y0 y1 y3
        have LC := hide (load_call Va.out rfl)
        go_wp2_with ((with_reducible refine wpList_load_w ?hw 27 (.tmp 3) ?ho ?hx LC.out ?h); (case ho => rfl); (case hw => rfl); (case hx => rfl))
        clear LC
        refine (asked_5 v l (by omega) HOK.out key high ca cn cc w5 SL.out).mono ?_
        rintro e w7 ⟨r, rfl, hrv, hrr, hb⟩
        replace Va := hide (Va.out.below hb)
        replace Zb := hide (Zb.out.below hb)
        replace SL := hide (SL.out.below hb)
        replace HRd := hide (HRd.out.below hb)
        replace B := hide (B.out.trans (hb.mono B.out.size))
        have RV := hide hrv
        have RR := hide hrr
        have hb7 := hide hb
        clear hrv hrr hb
        obtain ⟨w8, hst, Z8, k8⟩ := store_res Zb.out (cs := r.cells) rfl rfl (by first | kernel_rfl | (unfold Rs.cells; kernel_rfl))
        have HST := hide hst
        have S8 := hide Z8
        have B8 : Hid (Below w.heap.size w w8) := B.out.trans (k8.to_below (by have := B.out.size; omega) (by simp; have := hH.out; omega))
        have KK := hide k8
        clear hst Z8 k8
        have RR8 : Hid (RsD w w8 l r) := RR.out.low KK.out hs5.out (by have := hs5.out; have := hH.out; omega)
        go_wp2_with ((with_reducible refine wpList_store_w ?hw 46 (.tmp 5) (.tmp 67) ?ho ?hx ?hy HST.out ?h); (case ho => rfl); (case hw => rfl); (case hx => rfl); (case hy => rfl))
        refine ret_do (t := 4) (p := 5) (u := 6) (b := H + 1) Try.results22 rfl rfl rfl rfl S8.out ?_
        exact ⟨_, l, r, 0, rfl, ⟨Or.inl ⟨rfl, rfl⟩, fun it hi => Or.inl hi, RR8.out⟩, (by rw [HD.out, RV.out]; simp [Ca.wrote, Ca.told, wv]), B8.out⟩
    | false =>
      have HT := hide ht
      rcases hkinds with ⟨hk, hcl⟩ | hk | hk | hk | hk
      · subst hk
        have INS := rinsert_any v l hl key ca cc cb w5 SL.out HRd.out
        rw [hcn.out, ph_pl HOK.out HT.out] at INS
        replace INS := hide INS
        go_wp2_with fail
        refine INS.out.mono ?_
        rintro e w7 ⟨v7, rfl, hRo⟩
        have hb := hRo.bel
        have RO := hide hRo
        replace Va := hide (Va.out.below hb)
        replace Zb := hide (Zb.out.below hb)
        replace SL := hide (SL.out.below hb)
        replace HRd := hide (HRd.out.below hb)
        replace B := hide (B.out.trans (hb.mono B.out.size))
        clear hb hRo INS
        obtain ⟨w8, hst, Z8, k8⟩ := store_res Zb.out (cs := #[.int .i64 0, .int .u64 0, .slice none 0 0, .slice none 0 0, .int .i64 0, .int .i64 0, .int .u64 0, .int .i64 0, .int .u64 0, .int .i64 0, .int .i64 0, .int .u64 0, .int .i64 0, .int .u64 0, .bool false]) rfl rfl (by first | kernel_rfl | (unfold Rs.cells; kernel_rfl))
        have HST := hide hst
        have S8 := hide Z8
        have B8 : Hid (Below w.heap.size w w8) := B.out.trans (k8.to_below (by have := B.out.size; omega) (by simp; have := hH.out; omega))
        have KK := hide k8
        clear hst Z8 k8
        have S9 := hide (RO.out.low (w := w) KK.out hs5.out (by have := hs5.out; have := hH.out; omega))
        go_wp2_with ((with_reducible refine wpList_store_w ?hw 46 (.tmp 5) (.tmp 44) ?ho ?hx ?hy HST.out ?h); (case ho => rfl); (case hw => rfl); (case hx => rfl); (case hy => rfl))
        refine ret_do (t := 4) (p := 5) (u := 6) (b := H + 1) Try.results22 rfl rfl rfl rfl S8.out ?_
        exact ⟨_, _, ⟨0, 0, none, 0, [], none, 0, [], false⟩, 0, rfl, ⟨Or.inr S9.out, insMem, RsD.plain _ _ _ _⟩, (by rw [HD.out]; simp [Ca.wrote, Ca.told, wv, tl, HT.out, Rs.val, It.val]), B8.out⟩
      · subst hk
        go_wp2_with fail
        refine (err_any 101 w5).mono ?_
        rintro e w7 ⟨rfl, hb⟩
        replace Va := hide (Va.out.below hb)
        replace Zb := hide (Zb.out.below hb)
        replace SL := hide (SL.out.below hb)
        replace HRd := hide (HRd.out.below hb)
        replace B := hide (B.out.trans (hb.mono B.out.size))
        clear hb
        obtain ⟨w8, hst, Z8, k8⟩ := store_res Zb.out (cs := #[.int .i64 101, .int .u64 0, .slice none 0 0, .slice none 0 0, .int .i64 0, .int .i64 0, .int .u64 0, .int .i64 0, .int .u64 0, .int .i64 0, .int .i64 0, .int .u64 0, .int .i64 0, .int .u64 0, .bool false]) rfl rfl (by first | kernel_rfl | (unfold Rs.cells; kernel_rfl))
        have HST := hide hst
        have S8 := hide Z8
        have B8 : Hid (Below w.heap.size w w8) := B.out.trans (k8.to_below (by have := B.out.size; omega) (by simp; have := hH.out; omega))
        have KK := hide k8
        clear hst Z8 k8
        go_wp2_with ((with_reducible refine wpList_store_w ?hw 46 (.tmp 5) (.tmp 54) ?ho ?hx ?hy HST.out ?h); (case ho => rfl); (case hw => rfl); (case hx => rfl); (case hy => rfl))
        refine ret_do (t := 4) (p := 5) (u := 6) (b := H + 1) Try.results22 rfl rfl rfl rfl S8.out ?_
        exact ⟨_, l, ⟨101, 0, none, 0, [], none, 0, [], false⟩, 0, rfl, ⟨Or.inl ⟨rfl, rfl⟩, fun it hi => Or.inl hi, RsD.plain _ _ _ _⟩, (by rw [HD.out]; simp [Ca.wrote, Ca.told, wv, tl, HT.out, Rs.val]), B8.out⟩
      · subst hk
        clear y0 y1 y3
        have y0 := Va.out.cell 0
        have y1 := Va.out.cell 1
        have y3 := Va.out.cell 3
        simp at y0 y1 y3
        have LC := hide (load_call Va.out rfl)
        go_wp2_with ((with_reducible refine wpList_load_w ?hw 27 (.tmp 3) ?ho ?hx LC.out ?h); (case ho => rfl); (case hw => rfl); (case hx => rfl))
        clear LC
        refine (asked_3 v l (by omega) HOK.out key high ca cn cc w5 SL.out).mono ?_
        rintro e w7 ⟨r, rfl, hrv, hrr, hb⟩
        replace Va := hide (Va.out.below hb)
        replace Zb := hide (Zb.out.below hb)
        replace SL := hide (SL.out.below hb)
        replace HRd := hide (HRd.out.below hb)
        replace B := hide (B.out.trans (hb.mono B.out.size))
        have RV := hide hrv
        have RR := hide hrr
        have hb7 := hide hb
        clear hrv hrr hb
        obtain ⟨w8, hst, Z8, k8⟩ := store_res Zb.out (cs := r.cells) rfl rfl (by first | kernel_rfl | (unfold Rs.cells; kernel_rfl))
        have HST := hide hst
        have S8 := hide Z8
        have B8 : Hid (Below w.heap.size w w8) := B.out.trans (k8.to_below (by have := B.out.size; omega) (by simp; have := hH.out; omega))
        have KK := hide k8
        clear hst Z8 k8
        have RR8 : Hid (RsD w w8 l r) := RR.out.low KK.out hs5.out (by have := hs5.out; have := hH.out; omega)
        go_wp2_with ((with_reducible refine wpList_store_w ?hw 46 (.tmp 5) (.tmp 67) ?ho ?hx ?hy HST.out ?h); (case ho => rfl); (case hw => rfl); (case hx => rfl); (case hy => rfl))
        refine ret_do (t := 4) (p := 5) (u := 6) (b := H + 1) Try.results22 rfl rfl rfl rfl S8.out ?_
        exact ⟨_, l, r, 0, rfl, ⟨Or.inl ⟨rfl, rfl⟩, fun it hi => Or.inl hi, RR8.out⟩, (by rw [HD.out, RV.out]; simp [Ca.wrote, Ca.told, wv]), B8.out⟩
      · subst hk
        clear y0 y1 y3
        have y0 := Va.out.cell 0
        have y1 := Va.out.cell 1
        have y3 := Va.out.cell 3
        simp at y0 y1 y3
        have LC := hide (load_call Va.out rfl)
        go_wp2_with ((with_reducible refine wpList_load_w ?hw 27 (.tmp 3) ?ho ?hx LC.out ?h); (case ho => rfl); (case hw => rfl); (case hx => rfl))
        clear LC
        refine (asked_4 v l (by omega) HOK.out HKM.out key high ca cn cc w5 SL.out).mono ?_
        rintro e w7 ⟨r, rfl, hrv, hrr, hb⟩
        replace Va := hide (Va.out.below hb)
        replace Zb := hide (Zb.out.below hb)
        replace SL := hide (SL.out.below hb)
        replace HRd := hide (HRd.out.below hb)
        replace B := hide (B.out.trans (hb.mono B.out.size))
        have RV := hide hrv
        have RR := hide hrr
        have hb7 := hide hb
        clear hrv hrr hb
        obtain ⟨w8, hst, Z8, k8⟩ := store_res Zb.out (cs := r.cells) rfl rfl (by first | kernel_rfl | (unfold Rs.cells; kernel_rfl))
        have HST := hide hst
        have S8 := hide Z8
        have B8 : Hid (Below w.heap.size w w8) := B.out.trans (k8.to_below (by have := B.out.size; omega) (by simp; have := hH.out; omega))
        have KK := hide k8
        clear hst Z8 k8
        have RR8 : Hid (RsD w w8 l r) := RR.out.low KK.out hs5.out (by have := hs5.out; have := hH.out; omega)
        go_wp2_with ((with_reducible refine wpList_store_w ?hw 46 (.tmp 5) (.tmp 67) ?ho ?hx ?hy HST.out ?h); (case ho => rfl); (case hw => rfl); (case hx => rfl); (case hy => rfl))
        refine ret_do (t := 4) (p := 5) (u := 6) (b := H + 1) Try.results22 rfl rfl rfl rfl S8.out ?_
        exact ⟨_, l, r, 0, rfl, ⟨Or.inl ⟨rfl, rfl⟩, fun it hi => Or.inl hi, RR8.out⟩, (by rw [HD.out, RV.out]; simp [Ca.wrote, Ca.told, wv]), B8.out⟩
      · subst hk
        clear y0 y1 y3
        have y0 := Va.out.cell 0
        have y1 := Va.out.cell 1
        have y3 := Va.out.cell 3
        simp at y0 y1 y3
        have LC := hide (load_call Va.out rfl)
        go_wp2_with ((with_reducible refine wpList_load_w ?hw 27 (.tmp 3) ?ho ?hx LC.out ?h); (case ho => rfl); (case hw => rfl); (case hx => rfl))
        clear LC
        refine (asked_5 v l (by omega) HOK.out key high ca cn cc w5 SL.out).mono ?_
        rintro e w7 ⟨r, rfl, hrv, hrr, hb⟩
        replace Va := hide (Va.out.below hb)
        replace Zb := hide (Zb.out.below hb)
        replace SL := hide (SL.out.below hb)
        replace HRd := hide (HRd.out.below hb)
        replace B := hide (B.out.trans (hb.mono B.out.size))
        have RV := hide hrv
        have RR := hide hrr
        have hb7 := hide hb
        clear hrv hrr hb
        obtain ⟨w8, hst, Z8, k8⟩ := store_res Zb.out (cs := r.cells) rfl rfl (by first | kernel_rfl | (unfold Rs.cells; kernel_rfl))
        have HST := hide hst
        have S8 := hide Z8
        have B8 : Hid (Below w.heap.size w w8) := B.out.trans (k8.to_below (by have := B.out.size; omega) (by simp; have := hH.out; omega))
        have KK := hide k8
        clear hst Z8 k8
        have RR8 : Hid (RsD w w8 l r) := RR.out.low KK.out hs5.out (by have := hs5.out; have := hH.out; omega)
        go_wp2_with ((with_reducible refine wpList_store_w ?hw 46 (.tmp 5) (.tmp 67) ?ho ?hx ?hy HST.out ?h); (case ho => rfl); (case hw => rfl); (case hx => rfl); (case hy => rfl))
        refine ret_do (t := 4) (p := 5) (u := 6) (b := H + 1) Try.results22 rfl rfl rfl rfl S8.out ?_
        exact ⟨_, l, r, 0, rfl, ⟨Or.inl ⟨rfl, rfl⟩, fun it hi => Or.inl hi, RR8.out⟩, (by rw [HD.out, RV.out]; simp [Ca.wrote, Ca.told, wv]), B8.out⟩

end Go.Proofs.Ytfnpapaibgbjpaa
