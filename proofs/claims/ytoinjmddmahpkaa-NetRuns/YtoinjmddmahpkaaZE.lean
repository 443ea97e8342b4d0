/- The places of those that go to an address: by the program and by the document. -/
import Derived.Test.YtoinjmddmahpkaaZD
namespace Go.Proofs.Ytoinjmddmahpkaa
open Go.RowKit Go.Maps

/-- Does the parcel at this place go there? -/
def goesTo (ga : Bool) (gn : Int) (ps : List Pc) (i : Nat) : Bool := match ps[i]? with | some p => p.ta == ga && p.tn == gn | none => false
/-- A row of the first n places of which f holds. -/
def plc (f : Nat → Bool) (n : Nat) : List Nat := (List.range n).filter f
def Places (w : World) (u : Value) (f : Nat → Bool) (n : Nat) : Prop := Rw w 3 1 u (plc f n).length ((plc f n).map fun (i : Nat) => Value.int .i64 (i : Int))
theorem plc_succ (f : Nat → Bool) (n : Nat) : plc f (n + 1) = plc f n ++ (if f n then [n] else []) := by
  unfold plc
  rw [List.range_succ, List.filter_append, List.filter_cons, List.filter_nil]
theorem Places.skip {w : World} {u : Value} {f : Nat → Bool} {n : Nat} (h : Places w u f n) (hf : f n = false) : Places w u f (n + 1) := by
  unfold Places
  rw [plc_succ, hf]
  simp
  exact h
theorem Places.succ {w w' : World} {u u' : Value} {f : Nat → Bool} {n : Nat} (_ : Places w u f n) (hf : f n = true) (hr : Rw w' 3 1 u' ((plc f n).length + 1) (((plc f n).map fun (i : Nat) => Value.int .i64 (i : Int)) ++ [.int .i64 (n : Int)])) : Places w' u' f (n + 1) := by
  unfold Places
  rw [plc_succ, hf]
  simpa using hr
theorem Places.below {w w' : World} {u : Value} {f : Nat → Bool} {n : Nat} (h : Places w u f n) (hb : Below w.heap.size w w') : Places w' u f n := Rw.below h hb
theorem plc_le (f : Nat → Bool) (n : Nat) : (plc f n).length ≤ n := by unfold plc; exact Nat.le_trans (List.length_filter_le _ _) (by simp)

set_option maxHeartbeats 8000000 in
set_option maxRecDepth 100000 in
theorem to_any (b m : Nat) (v : Value) (ps : List Pc) (c : Cnt) (k : Nat) (w : World) (h : NS w b m v ps c k) (ga : Bool) (gn : Int) :
    Calls Try.prog 24 #[.pointer (some ⟨b, 0, none⟩), .agg #[.bool ga, .int .i64 gn]] w fun e w' => (∃ u, e = .returned u ∧ Places w' u (goesTo ga gn ps) ps.length) ∧ Below w.heap.size w w' := by
  have hq := addr_eq
  obtain ⟨va, vc, rfl, hvc, hvm⟩ := h.row.row.shape
  have hlen := h.len
  obtain ⟨i0, hi0, hz0, hz1, hz2⟩ := info_parts Try.infoI
  have bel := (Below.refl w.heap.size w).alloc (Nat.le_refl _) (.cells #[.bool ga, .int .i64 gn] 32)
  have A1 := IsB.new w #[.bool ga, .int .i64 gn] 32
  have h1 := h.below bel
  have hb0 := h1.blk.cell 0
  simp at hb0
  replace h1 := hide h1
  replace A1 := hide A1
  replace bel := hide bel
  clear h
  go_enter Try.func24, Try.ntmps24
  go_wp2_with fail
  clear hb0
  refine (made_yes b m _ _ h1.out.blk).mono ?_; intro e W hE; obtain ⟨rfl, hw⟩ := hE
  rw [← hw] at h1 A1 bel
  clear hw
  have hb0 := h1.out.blk.cell 0
  simp at hb0
  go_wp2
  generalize hAe : w.heap.size = A at *
  go_loopw [5, 16] (fun u i wr => ∃ j : Nat, j ≤ ps.length ∧ i = .int .i64 (j : Int) ∧ Hid (Places wr u (goesTo ga gn ps) j) ∧ Hid (∀ q, u.ownBlock = some q → W.heap.size ≤ q) ∧ Hid (Below W.heap.size W wr)) (fun _ i _ => ps.length - (intOf i).toNat)
  case atStart => exact ⟨0, by omega, rfl, ⟨rfl, Or.inl ⟨rfl, rfl⟩⟩, (by intro q hq; simp [Value.ownBlock] at hq), Below.refl _ _⟩
  case round =>
    obtain ⟨j, hj, rfl, HP, HO, HB⟩ := hrel
    have hbr : wr.cell? ⟨b, 0, none⟩ = some (.slice va ps.length vc) := (h1.out.blk.below HB.out).cell 0
    have x0 : wr.cell? ⟨A, 0, none⟩ = some (.bool ga) := (A1.out.below HB.out).cell 0
    have x1 : wr.cell? ⟨A, 1, none⟩ = some (.int .i64 gn) := (A1.out.below HB.out).cell 1
    have xlt : A < wr.heap.size := (A1.out.below HB.out).lt
    obtain ⟨ua, uc, hu, -, -⟩ := Rw.shape HP.out
    subst hu
    generalize hun : (plc (goesTo ga gn ps) j).length = un at *
    replace hun := hide hun
    by_cases hlt : j < ps.length
    · obtain ⟨g, cap, hv, -, -, c0, c1, c2, c3, c4⟩ := h1.out.cells j hlt
      injection hv with hv1 _ hv3
      subst hv1
      subst hv3
      have d0 := (HB.out.cell (lt_of_cell c0)).trans c0
      have d1 := (HB.out.cell (lt_of_cell c1)).trans c1
      have d2 := (HB.out.cell (lt_of_cell c2)).trans c2
      have d3 := (HB.out.cell (lt_of_cell c3)).trans c3
      have d4 := (HB.out.cell (lt_of_cell c4)).trans c4
      have glt : g < wr.heap.size := lt_of_cell d0
      have hgt : Hid (goesTo ga gn ps j = (ps[j].ta == ga && ps[j].tn == gn)) := by show _ = _; simp [goesTo, hlt]
      clear c0 c1 c2 c3 c4
      generalize ps[j] = p at *
      obtain ⟨fa, fn, ta, tn, pa, pc, bs⟩ := p
      simp only [] at d0 d1 d2 d3 d4 hgt
      generalize bs.length = pl at *
      generalize hBB : (ta == ga && tn == gn) = BB at hgt
      cases BB
      · have HP2 := hide (Places.skip HP.out hgt.out)
        have B3 := hide ((Below.refl wr.heap.size wr).alloc (Nat.le_refl _) (.cells #[.bool fa, .int .i64 fn, .bool ta, .int .i64 tn, .slice pa pl pc] 35))
        go_wp2
        exact ⟨⟨j + 1, by omega, by simp, (HP2.out).below B3.out, HO, HB.out.trans (B3.out.mono HB.out.size)⟩, by simp [intOf]; omega⟩
      · have hR : Rw wr 3 1 (.slice ua un uc) un ((plc (goesTo ga gn ps) j).map fun (i : Nat) => Value.int .i64 (i : Int)) := by have := HP.out; unfold Places at this; rw [hun.out] at this; exact this
        have hple : un ≤ j := by rw [← hun.out]; exact plc_le _ _
        have B3 := hide ((Below.refl wr.heap.size wr).alloc (Nat.le_refl _) (.cells #[.bool fa, .int .i64 fn, .bool ta, .int .i64 tn, .slice pa pl pc] 35))
        have belI := (Below.refl (wr.alloc (.cells #[.bool fa, .int .i64 fn, .bool ta, .int .i64 tn, .slice pa pl pc] 35)).heap.size (wr.alloc (.cells #[.bool fa, .int .i64 fn, .bool ta, .int .i64 tn, .slice pa pl pc] 35))).alloc (Nat.le_refl _) (.cells #[.int .i64 (j : Int)] 3)
        have I4 := IsB.new (wr.alloc (.cells #[.bool fa, .int .i64 fn, .bool ta, .int .i64 tn, .slice pa pl pc] 35)) #[.int .i64 (j : Int)] 3
        have hnews : ∀ jj x, ([Value.int .i64 (j : Int)])[jj]? = some x → ((wr.alloc (.cells #[.bool fa, .int .i64 fn, .bool ta, .int .i64 tn, .slice pa pl pc] 35)).alloc (.cells #[.int .i64 (j : Int)] 3)).cell? ((⟨wr.heap.size + 1, 0, none⟩ : Addr).add jj) = some x := by
          intro jj x hu
          have h9 := I4.cell jj
          have e9 : ((wr.alloc (.cells #[.bool fa, .int .i64 fn, .bool ta, .int .i64 tn, .slice pa pl pc] 35))).heap.size = wr.heap.size + 1 := by simp
          rw [e9] at h9
          rw [add_none, Nat.zero_add, h9]
          simpa using hu
        obtain ⟨v', w4, hrun, hrw, hgr, hat, -⟩ := run_append_rw (P := Try.prog) ((wr.alloc (.cells #[.bool fa, .int .i64 fn, .bool ta, .int .i64 tn, .slice pa pl pc] 35)).alloc (.cells #[.int .i64 (j : Int)] 3)) 61 61 3 i0 _ 1 8 Try.underlying61 hi0 hz0 hz1 hz2 rfl
          _ _ _ ((hR.below B3.out).below belI) (.slice (some ⟨wr.heap.size + 1, 0, none⟩) 1 1) 1 [.int .i64 (j : Int)] (by rfl) (Or.inl ⟨_, _, rfl, hnews⟩) (by intro x hx; simp at hx; subst hx; rfl) (by unfold maxLen; omega) (by omega)
        have P4 := hide (Places.succ (w' := w4) HP.out hgt.out (by rw [hun.out]; exact hrw))
        have B4 := hide (((HB.out.trans (B3.out.mono HB.out.size)).trans (belI.mono (Nat.le_trans HB.out.size B3.out.size))).grown hgr (Nat.le_trans (Nat.le_trans HB.out.size B3.out.size) belI.size) (fun q hq => HO.out q hq))
        have HO4 : Hid (∀ q, v'.ownBlock = some q → W.heap.size ≤ q) := fun q hq => by
          rcases hat with h9 | h9
          · exact HO.out q (by rw [← h9]; exact hq)
          · rw [hq] at h9
            have h8 := Option.some.inj h9
            have h7 := HB.out.size
            have h6 := B3.out.size
            simp at h8 h6
            omega
        obtain ⟨ya, yn, yc, rfl⟩ : ∃ ya yn yc, v' = .slice ya yn yc := by
          obtain ⟨x, y, z, -, -⟩ := hrw.shape
          exact ⟨_, _, _, z⟩
        have HRUN := hide hrun
        clear hrun hrw hgr hat hnews I4 belI hR
        go_wp2_with (at_builtin; refine wpList_append_eq rfl (.tmp 25) (.tmp 27) 61 rfl _ _ (.slice ya yn yc) w4 rfl rfl HRUN.out ?_)
        exact ⟨⟨j + 1, by omega, by simp, P4.out, HO4, B4⟩, by simp [intOf]; omega⟩
    · obtain rfl : j = ps.length := by omega
      go_wp2
      go_ret
      exact ⟨⟨_, rfl, HP.out⟩, by rw [hAe]; exact bel.out.trans (HB.out.mono (by rw [← hAe]; exact bel.out.size))⟩


set_option maxHeartbeats 8000000 in
set_option maxRecDepth 100000 in
theorem rto_any (b : Nat) (v : Value) (ps : List Pc) (c : Cnt) (k : Nat) (w : World) (h : RS w b v ps c k) (ga : Bool) (gn : Int) :
    Calls Try.prog 33 #[.pointer (some ⟨b, 0, none⟩), .agg #[.bool ga, .int .i64 gn]] w fun e w' => (∃ u, e = .returned u ∧ Places w' u (goesTo ga gn ps) ps.length) ∧ Below w.heap.size w w' := by
  have mixed : Try.prog.follows .mixedOrders = true := by kernel_rfl
  have hq := addr_eq
  obtain ⟨va, vc, rfl, hvc, hvm⟩ := h.row.row.shape
  have hlen := h.len
  obtain ⟨i0, hi0, hz0, hz1, hz2⟩ := info_parts Try.infoI
  have bel := (Below.refl w.heap.size w).alloc (Nat.le_refl _) (.cells #[.bool ga, .int .i64 gn] 32)
  have A1 := IsB.new w #[.bool ga, .int .i64 gn] 32
  have h1 := h.below bel
  have hb0 := h1.blk.cell 0
  simp at hb0
  replace h1 := hide h1
  replace A1 := hide A1
  replace bel := hide bel
  clear h
  go_enter Try.func33, Try.ntmps33
  go_wp2
  generalize w.alloc (.cells #[.bool ga, .int .i64 gn] 32) = W at *
  generalize hAe : w.heap.size = A at *
  go_loopw [5, 6] (fun u i wr => ∃ j : Nat, j ≤ ps.length ∧ i = .int .i64 (j : Int) ∧ Hid (Places wr u (goesTo ga gn ps) j) ∧ Hid (∀ q, u.ownBlock = some q → W.heap.size ≤ q) ∧ Hid (Below W.heap.size W wr)) (fun _ i _ => ps.length - (intOf i).toNat)
  case atStart => exact ⟨0, by omega, rfl, ⟨rfl, Or.inl ⟨rfl, rfl⟩⟩, (by intro q hq; simp [Value.ownBlock] at hq), Below.refl _ _⟩
  case round =>
    obtain ⟨j, hj, rfl, HP, HO, HB⟩ := hrel
    have hbr : wr.cell? ⟨b, 0, none⟩ = some (.slice va ps.length vc) := (h1.out.blk.below HB.out).cell 0
    have x0 : wr.cell? ⟨A, 0, none⟩ = some (.bool ga) := (A1.out.below HB.out).cell 0
    have x1 : wr.cell? ⟨A, 1, none⟩ = some (.int .i64 gn) := (A1.out.below HB.out).cell 1
    have xlt : A < wr.heap.size := (A1.out.below HB.out).lt
    obtain ⟨ua, uc, hu, -, -⟩ := Rw.shape HP.out
    subst hu
    generalize hun : (plc (goesTo ga gn ps) j).length = un at *
    replace hun := hide hun
    by_cases hlt : j < ps.length
    · obtain ⟨g, cap, hv, -, -, c0, c1, c2, c3, c4⟩ := h1.out.cells j hlt
      injection hv with hv1 _ hv3
      subst hv1
      subst hv3
      have d0 := (HB.out.cell (lt_of_cell c0)).trans c0
      have d1 := (HB.out.cell (lt_of_cell c1)).trans c1
      have d2 := (HB.out.cell (lt_of_cell c2)).trans c2
      have d3 := (HB.out.cell (lt_of_cell c3)).trans c3
      have d4 := (HB.out.cell (lt_of_cell c4)).trans c4
      have glt : g < wr.heap.size := lt_of_cell d0
      have hgt : Hid (goesTo ga gn ps j = (ps[j].ta == ga && ps[j].tn == gn)) := by show _ = _; simp [goesTo, hlt]
      clear c0 c1 c2 c3 c4
      generalize ps[j] = p at *
      obtain ⟨fa, fn, ta, tn, pa, pc, bs⟩ := p
      simp only [] at d0 d1 d2 d3 d4 hgt
      generalize bs.length = pl at *
      generalize hBB : (ta == ga && tn == gn) = BB at hgt
      cases BB
      · have HP2 := hide (Places.skip HP.out hgt.out)
        have B3 := hide ((Below.refl wr.heap.size wr).drew)
        go_wp2
        refine regionL 10 (fun w' => w'.cell? ⟨b, 0, none⟩ = some (.slice (some ⟨g, 0, none⟩) ps.length vc) ∧ w'.cell? ⟨g, j * 5 + 2, none⟩ = some (.bool ta) ∧ w'.cell? ⟨g, j * 5 + 3, none⟩ = some (.int .i64 tn) ∧ w'.cell? ⟨A, 0, none⟩ = some (.bool ga) ∧ w'.cell? ⟨A, 1, none⟩ = some (.int .i64 gn)) mixed ⟨hbr, d2, d3, x0, x1⟩ (fun hHeld => ?_)
        refine pickA (v := ?_) 0 (some 16) rfl rfl (by kernel_rfl) (by kernel_rfl) (by kernel_rfl) (by decide) (fun _ _ _ h => h) (by rfl) ?_ (by assumption) ?_
        rotate_left
        · intro w'
          go_simp
          try with_reducible rfl
        try simp only [Act.put, List.setIfInBounds_toArray, List.set_cons_zero, List.set_cons_succ]
        refine pickA (v := ?_) 1 (some 17) rfl rfl (by kernel_rfl) (by kernel_rfl) (by kernel_rfl) (by decide) (fun _ _ _ h => h) (by rfl) ?_ (by assumption) ?_
        rotate_left
        · intro w'
          go_simp
          try with_reducible rfl
        try simp only [Act.put, List.setIfInBounds_toArray, List.set_cons_zero, List.set_cons_succ]
        refine pickA (v := ?_) 2 (some 18) rfl rfl (by kernel_rfl) (by kernel_rfl) (by kernel_rfl) (by decide) (fun _ _ _ h => h) (by rfl) ?_ (by assumption) ?_
        rotate_left
        · intro w'
          go_simp
          try with_reducible rfl
        try simp only [Act.put, List.setIfInBounds_toArray, List.set_cons_zero, List.set_cons_succ]
        refine pickL (v := ?_) 3 (some 19) rfl rfl (by kernel_rfl) (by kernel_rfl) (by kernel_rfl) (by decide) (by kernel_rfl) (by kernel_rfl) (fun _ _ _ h => h) (by rfl) ?_ (by assumption) ?_
        rotate_left
        · intro w' hSw
          obtain ⟨g0, g1, g2, g3, g4⟩ := hSw
          go_simp
          try with_reducible rfl
        try simp only [Act.put, List.setIfInBounds_toArray, List.set_cons_zero, List.set_cons_succ]
        refine pickA (v := ?_) 4 (some 20) rfl rfl (by kernel_rfl) (by kernel_rfl) (by kernel_rfl) (by decide) (fun _ _ _ h => h) (by rfl) ?_ (by assumption) ?_
        rotate_left
        · intro w'
          go_simp
          try with_reducible rfl
        try simp only [Act.put, List.setIfInBounds_toArray, List.set_cons_zero, List.set_cons_succ]
        refine pickA (v := ?_) 5 (some 21) rfl rfl (by kernel_rfl) (by kernel_rfl) (by kernel_rfl) (by decide) (fun _ _ _ h => h) (by rfl) ?_ (by assumption) ?_
        rotate_left
        · intro w'
          go_simp
          try with_reducible rfl
        try simp only [Act.put, List.setIfInBounds_toArray, List.set_cons_zero, List.set_cons_succ]
        refine pickA (v := ?_) 6 (some 22) rfl rfl (by kernel_rfl) (by kernel_rfl) (by kernel_rfl) (by decide) (fun _ _ _ h => h) (by rfl) ?_ (by assumption) ?_
        rotate_left
        · intro w'
          go_simp
          try with_reducible rfl
        try simp only [Act.put, List.setIfInBounds_toArray, List.set_cons_zero, List.set_cons_succ]
        refine pickL (v := ?_) 7 (some 23) rfl rfl (by kernel_rfl) (by kernel_rfl) (by kernel_rfl) (by decide) (by kernel_rfl) (by kernel_rfl) (fun _ _ _ h => h) (by rfl) ?_ (by assumption) ?_
        rotate_left
        · intro w' hSw
          obtain ⟨g0, g1, g2, g3, g4⟩ := hSw
          go_simp
          try with_reducible rfl
        try simp only [Act.put, List.setIfInBounds_toArray, List.set_cons_zero, List.set_cons_succ]
        refine pickL (v := ?_) 8 (some 24) rfl rfl (by kernel_rfl) (by kernel_rfl) (by kernel_rfl) (by decide) (by kernel_rfl) (by kernel_rfl) (fun _ _ _ h => h) (by rfl) ?_ (by assumption) ?_
        rotate_left
        · intro w' hSw
          obtain ⟨g0, g1, g2, g3, g4⟩ := hSw
          go_simp
          try with_reducible rfl
        try simp only [Act.put, List.setIfInBounds_toArray, List.set_cons_zero, List.set_cons_succ]
        refine pickA (v := ?_) 9 (some 25) rfl rfl (by kernel_rfl) (by kernel_rfl) (by kernel_rfl) (by decide) (fun _ _ _ h => h) (by rfl) ?_ (by assumption) ?_
        rotate_left
        · intro w'
          go_simp
          try with_reducible rfl
        try simp only [Act.put, List.setIfInBounds_toArray, List.set_cons_zero, List.set_cons_succ]
        refine doneL (by kernel_rfl) ?_ _
        clear hHeld
        go_wp2
        exact ⟨⟨j + 1, by omega, by simp, (HP2.out).below B3.out, HO, HB.out.trans (B3.out.mono HB.out.size)⟩, by simp [intOf]; omega⟩
      · have hR : Rw wr 3 1 (.slice ua un uc) un ((plc (goesTo ga gn ps) j).map fun (i : Nat) => Value.int .i64 (i : Int)) := by have := HP.out; unfold Places at this; rw [hun.out] at this; exact this
        have hple : un ≤ j := by rw [← hun.out]; exact plc_le _ _
        have B3 := hide ((Below.refl wr.heap.size wr).drew)
        have d5 : wr.drew.heap.size = wr.heap.size := rfl
        have belI := (Below.refl (wr.drew).heap.size (wr.drew)).alloc (Nat.le_refl _) (.cells #[.int .i64 (j : Int)] 3)
        have I4 := IsB.new (wr.drew) #[.int .i64 (j : Int)] 3
        have hnews : ∀ jj x, ([Value.int .i64 (j : Int)])[jj]? = some x → ((wr.drew).alloc (.cells #[.int .i64 (j : Int)] 3)).cell? ((⟨wr.heap.size, 0, none⟩ : Addr).add jj) = some x := by
          intro jj x hu
          have h9 := I4.cell jj
          have e9 : ((wr.drew)).heap.size = wr.heap.size := by simp
          rw [e9] at h9
          rw [add_none, Nat.zero_add, h9]
          simpa using hu
        obtain ⟨v', w4, hrun, hrw, hgr, hat, -⟩ := run_append_rw (P := Try.prog) ((wr.drew).alloc (.cells #[.int .i64 (j : Int)] 3)) 61 61 3 i0 _ 1 8 Try.underlying61 hi0 hz0 hz1 hz2 rfl
          _ _ _ ((hR.below B3.out).below belI) (.slice (some ⟨wr.heap.size, 0, none⟩) 1 1) 1 [.int .i64 (j : Int)] (by rfl) (Or.inl ⟨_, _, rfl, hnews⟩) (by intro x hx; simp at hx; subst hx; rfl) (by unfold maxLen; omega) (by omega)
        have P4 := hide (Places.succ (w' := w4) HP.out hgt.out (by rw [hun.out]; exact hrw))
        have B4 := hide (((HB.out.trans (B3.out.mono HB.out.size)).trans (belI.mono (Nat.le_trans HB.out.size B3.out.size))).grown hgr (Nat.le_trans (Nat.le_trans HB.out.size B3.out.size) belI.size) (fun q hq => HO.out q hq))
        have HO4 : Hid (∀ q, v'.ownBlock = some q → W.heap.size ≤ q) := fun q hq => by
          rcases hat with h9 | h9
          · exact HO.out q (by rw [← h9]; exact hq)
          · rw [hq] at h9
            have h8 := Option.some.inj h9
            have h7 := HB.out.size
            have h6 := B3.out.size
            simp at h8 h6
            omega
        obtain ⟨ya, yn, yc, rfl⟩ : ∃ ya yn yc, v' = .slice ya yn yc := by
          obtain ⟨x, y, z, -, -⟩ := hrw.shape
          exact ⟨_, _, _, z⟩
        have HRUN := hide hrun
        clear hrun hrw hgr hat hnews I4 belI hR
        go_wp2
        refine regionL 10 (fun w' => w'.cell? ⟨b, 0, none⟩ = some (.slice (some ⟨g, 0, none⟩) ps.length vc) ∧ w'.cell? ⟨g, j * 5 + 2, none⟩ = some (.bool ta) ∧ w'.cell? ⟨g, j * 5 + 3, none⟩ = some (.int .i64 tn) ∧ w'.cell? ⟨A, 0, none⟩ = some (.bool ga) ∧ w'.cell? ⟨A, 1, none⟩ = some (.int .i64 gn)) mixed ⟨hbr, d2, d3, x0, x1⟩ (fun hHeld => ?_)
        refine pickA (v := ?_) 0 (some 16) rfl rfl (by kernel_rfl) (by kernel_rfl) (by kernel_rfl) (by decide) (fun _ _ _ h => h) (by rfl) ?_ (by assumption) ?_
        rotate_left
        · intro w'
          go_simp
          try with_reducible rfl
        try simp only [Act.put, List.setIfInBounds_toArray, List.set_cons_zero, List.set_cons_succ]
        refine pickA (v := ?_) 1 (some 17) rfl rfl (by kernel_rfl) (by kernel_rfl) (by kernel_rfl) (by decide) (fun _ _ _ h => h) (by rfl) ?_ (by assumption) ?_
        rotate_left
        · intro w'
          go_simp
          try with_reducible rfl
        try simp only [Act.put, List.setIfInBounds_toArray, List.set_cons_zero, List.set_cons_succ]
        refine pickA (v := ?_) 2 (some 18) rfl rfl (by kernel_rfl) (by kernel_rfl) (by kernel_rfl) (by decide) (fun _ _ _ h => h) (by rfl) ?_ (by assumption) ?_
        rotate_left
        · intro w'
          go_simp
          try with_reducible rfl
        try simp only [Act.put, List.setIfInBounds_toArray, List.set_cons_zero, List.set_cons_succ]
        refine pickL (v := ?_) 3 (some 19) rfl rfl (by kernel_rfl) (by kernel_rfl) (by kernel_rfl) (by decide) (by kernel_rfl) (by kernel_rfl) (fun _ _ _ h => h) (by rfl) ?_ (by assumption) ?_
        rotate_left
        · intro w' hSw
          obtain ⟨g0, g1, g2, g3, g4⟩ := hSw
          go_simp
          try with_reducible rfl
        try simp only [Act.put, List.setIfInBounds_toArray, List.set_cons_zero, List.set_cons_succ]
        refine pickA (v := ?_) 4 (some 20) rfl rfl (by kernel_rfl) (by kernel_rfl) (by kernel_rfl) (by decide) (fun _ _ _ h => h) (by rfl) ?_ (by assumption) ?_
        rotate_left
        · intro w'
          go_simp
          try with_reducible rfl
        try simp only [Act.put, List.setIfInBounds_toArray, List.set_cons_zero, List.set_cons_succ]
        refine pickA (v := ?_) 5 (some 21) rfl rfl (by kernel_rfl) (by kernel_rfl) (by kernel_rfl) (by decide) (fun _ _ _ h => h) (by rfl) ?_ (by assumption) ?_
        rotate_left
        · intro w'
          go_simp
          try with_reducible rfl
        try simp only [Act.put, List.setIfInBounds_toArray, List.set_cons_zero, List.set_cons_succ]
        refine pickA (v := ?_) 6 (some 22) rfl rfl (by kernel_rfl) (by kernel_rfl) (by kernel_rfl) (by decide) (fun _ _ _ h => h) (by rfl) ?_ (by assumption) ?_
        rotate_left
        · intro w'
          go_simp
          try with_reducible rfl
        try simp only [Act.put, List.setIfInBounds_toArray, List.set_cons_zero, List.set_cons_succ]
        refine pickL (v := ?_) 7 (some 23) rfl rfl (by kernel_rfl) (by kernel_rfl) (by kernel_rfl) (by decide) (by kernel_rfl) (by kernel_rfl) (fun _ _ _ h => h) (by rfl) ?_ (by assumption) ?_
        rotate_left
        · intro w' hSw
          obtain ⟨g0, g1, g2, g3, g4⟩ := hSw
          go_simp
          try with_reducible rfl
        try simp only [Act.put, List.setIfInBounds_toArray, List.set_cons_zero, List.set_cons_succ]
        refine pickL (v := ?_) 8 (some 24) rfl rfl (by kernel_rfl) (by kernel_rfl) (by kernel_rfl) (by decide) (by kernel_rfl) (by kernel_rfl) (fun _ _ _ h => h) (by rfl) ?_ (by assumption) ?_
        rotate_left
        · intro w' hSw
          obtain ⟨g0, g1, g2, g3, g4⟩ := hSw
          go_simp
          try with_reducible rfl
        try simp only [Act.put, List.setIfInBounds_toArray, List.set_cons_zero, List.set_cons_succ]
        refine pickA (v := ?_) 9 (some 25) rfl rfl (by kernel_rfl) (by kernel_rfl) (by kernel_rfl) (by decide) (fun _ _ _ h => h) (by rfl) ?_ (by assumption) ?_
        rotate_left
        · intro w'
          go_simp
          try with_reducible rfl
        try simp only [Act.put, List.setIfInBounds_toArray, List.set_cons_zero, List.set_cons_succ]
        refine doneL (by kernel_rfl) ?_ _
        clear hHeld
        go_wp2_with (at_builtin; refine wpList_append_eq rfl (.tmp 26) (.tmp 28) 61 rfl _ _ (.slice ya yn yc) w4 rfl rfl HRUN.out ?_)
        exact ⟨⟨j + 1, by omega, by simp, P4.out, HO4, B4⟩, by simp [intOf]; omega⟩
    · obtain rfl : j = ps.length := by omega
      go_wp2
      go_ret
      exact ⟨⟨_, rfl, HP.out⟩, by rw [hAe]; exact bel.out.trans (HB.out.mono (by rw [← hAe]; exact bel.out.size))⟩

end Go.Proofs.Ytoinjmddmahpkaa
