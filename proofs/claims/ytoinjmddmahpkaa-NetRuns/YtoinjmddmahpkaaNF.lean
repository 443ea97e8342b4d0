/- Package net: New, Len, Stats, checkPlaces, At. -/
import Derived.Test.YtoinjmddmahpkaaND
import Derived.Test.YtoinjmddmahpkaaNE
namespace Go.Proofs.Ytoinjmddmahpkaa
open Go.RowKit Go.Maps

/-- What a call makes of a network: what it is now, that only its own blocks have turned, and where its row lies. -/
structure Nx (w w' : World) (b m : Nat) (v v' : Value) (ps' : List Pc) (c' : Cnt) (k' : Nat) : Prop where
  ns : NS w' b m v' ps' c' k'
  kp : Kp (foot b m v) w w'
  at_ : ∀ q, v'.ownBlock = some q → v.ownBlock = some q ∨ w.heap.size ≤ q
theorem Nx.trans {w w1 w2 : World} {b m : Nat} {v v1 v2 : Value} {ps1 ps2 : List Pc} {c1 c2 : Cnt} {k1 k2 : Nat} (h : Nx w w1 b m v v1 ps1 c1 k1) (g : Nx w1 w2 b m v1 v2 ps2 c2 k2) : Nx w w2 b m v v2 ps2 c2 k2 := by
  refine ⟨g.ns, h.kp.trans g.kp ?_, ?_⟩
  · intro j hj
    unfold foot at hj ⊢
    simp only [List.mem_cons, Option.mem_toList] at hj ⊢
    rcases hj with rfl | rfl | hj
    · exact Or.inl (Or.inl rfl)
    · exact Or.inl (Or.inr (Or.inl rfl))
    · rcases h.at_ j hj with h1 | h1
      · exact Or.inl (Or.inr (Or.inr h1))
      · exact Or.inr h1
  · intro q hq
    rcases g.at_ q hq with h1 | h1
    · exact h.at_ q h1
    · exact Or.inr (Nat.le_trans h.kp.size h1)
theorem Nx.bel {w w1 w2 : World} {b m : Nat} {v v1 : Value} {ps1 : List Pc} {c1 : Cnt} {k1 : Nat} (h : Nx w w1 b m v v1 ps1 c1 k1) (hb : Below w1.heap.size w1 w2) : Nx w w2 b m v v1 ps1 c1 k1 :=
  ⟨h.ns.below hb, h.kp.bel hb, h.at_⟩
theorem NS.nx {w w' : World} {b m : Nat} {v : Value} {ps : List Pc} {c : Cnt} {k : Nat} (h : NS w b m v ps c k) (hb : Below w.heap.size w w') : Nx w w' b m v v ps c k :=
  ⟨h.below hb, Kp.of_below hb, fun _ hq => Or.inl hq⟩
theorem NS.lt {w : World} {b m : Nat} {v : Value} {ps : List Pc} {c : Cnt} {k : Nat} (h : NS w b m v ps c k) : ∀ j ∈ foot b m v, j < w.heap.size := by
  intro j hj
  unfold foot at hj
  simp only [List.mem_cons, Option.mem_toList] at hj
  rcases hj with rfl | rfl | hj
  · exact h.blk.lt
  · exact h.map.lt
  · exact (h.row.row.lt j hj).1

set_option maxHeartbeats 2000000 in
theorem new_any (w : World) : Calls Try.prog 8 #[] w fun e w' => ∃ b m, e = .returned (.pointer (some ⟨b, 0, none⟩)) ∧ w.heap.size ≤ b ∧ w.heap.size ≤ m ∧ NS w' b m (.slice none 0 0) [] Cnt.zero 0 ∧ Below w.heap.size w w' := by
  have hmm := @run_makeMap Try.prog
  go_enter Try.func8, Try.ntmps8
  go_wp2
  go_ret
  refine ⟨w.heap.size + 1, w.heap.size, rfl, by omega, Nat.le_refl _, ?_, ((Below.refl _ w).alloc (Nat.le_refl _) _).alloc (by simp) _⟩
  refine ⟨?_, (CM.made w).below ((Below.refl _ _).alloc (Nat.le_refl _) _), ⟨⟨rfl, Or.inl ⟨rfl, rfl⟩⟩, by simp⟩, by simp, by simp [Cnt.zero], by simp [Cnt.zero]⟩
  have := IsB.new (w.alloc (.map #[] 0)) #[.slice none 0 0, .map (some w.heap.size)] 58
  simpa using this

set_option maxHeartbeats 2000000 in
theorem len_any (b m : Nat) (v : Value) (ps : List Pc) (c : Cnt) (k : Nat) (w : World) (h : NS w b m v ps c k) : Calls Try.prog 10 #[.pointer (some ⟨b, 0, none⟩)] w fun e w' => e = .returned (.int .i64 (ps.length : Int)) ∧ w' = w := by
  obtain ⟨a, cap, rfl, -, -⟩ := h.row.row.shape
  have h0 := h.blk.cell 0
  simp at h0
  have hb := hide h.blk
  clear h
  go_enter Try.func10, Try.ntmps10
  go_wp2_with fail
  refine (made_yes b m _ w hb.out).mono ?_; rintro e w1 ⟨rfl, rfl⟩
  go_wp2
  go_ret
  exact ⟨rfl, rfl⟩

theorem IsB.drew {w : World} {b : Nat} {cs : Array Value} {t : TypeId} (h : IsB w b cs t) : IsB w.drew b cs t := h

theorem pick_yes {P : Program} {md : Region.Mode} {ops : Array Oper} {Q : Exit → Act → World → Prop} {S : World → Prop} (i : Nat) (d : Option Nat) {oi : Oper} {v : Value} {fuel : Nat} {listed : Array Bool} {a : Act} {w : World}
    (hi : ops[i]? = some oi) (hd : oi.dst = d) (hs : Region.noSelect ops = true) (hf : Region.free md ops listed i = true) (hr : (Region.ready md ops listed).contains i = true)
    (hQ : ∀ c a w, Q (.panic c) (a.put d v) w → Q (.panic c) a w) (hw : Region.wanted oi (yielded ops a.tmps) = true) (hy : ∀ w, S w → (execOp a.eval oi).run P w = .ok (.value v) w) (hS : S w)
    (h : wpAnyH P md ops Q S fuel (listed.setIfInBounds i true) (a.put d v) w) : wpAnyH P md ops Q S (fuel + 1) listed a w := by
  subst hd
  exact wpAnyH_take hi hs hf hr hQ (Or.inl ⟨hw, hy⟩) hS h

theorem pick_no {P : Program} {md : Region.Mode} {ops : Array Oper} {Q : Exit → Act → World → Prop} {S : World → Prop} (i : Nat) (d : Option Nat) {oi : Oper} {fuel : Nat} {listed : Array Bool} {a : Act} {w : World}
    (hi : ops[i]? = some oi) (hd : oi.dst = d) (hs : Region.noSelect ops = true) (hf : Region.free md ops listed i = true) (hr : (Region.ready md ops listed).contains i = true)
    (hQ : ∀ c a w, Q (.panic c) (a.put d undef) w → Q (.panic c) a w) (hw : Region.wanted oi (yielded ops a.tmps) = false) (hS : S w)
    (h : wpAnyH P md ops Q S fuel (listed.setIfInBounds i true) (a.put d undef) w) : wpAnyH P md ops Q S (fuel + 1) listed a w := by
  subst hd
  exact wpAnyH_take hi hs hf hr hQ (Or.inr ⟨hw, rfl⟩) hS h

set_option maxHeartbeats 4000000 in
set_option maxRecDepth 100000 in
theorem stats_any (b m : Nat) (v : Value) (ps : List Pc) (c : Cnt) (k : Nat) (w : World) (h : NS w b m v ps c k) : Calls Try.prog 11 #[.pointer (some ⟨b, 0, none⟩)] w fun e w' => e = .returned (statV c.p c.l c.d c.r) ∧ Below w.heap.size w w' := by
  have h2 := hide ((h.below ((Below.refl _ w).alloc (Nat.le_refl _) (.cells #[.int .i64 0, .int .i64 0, .int .i64 0, .int .i64 0] 28))))
  have J := hide (IsB.new w #[.int .i64 0, .int .i64 0, .int .i64 0, .int .i64 0] 28)
  clear h
  go_enter Try.func11, Try.ntmps11
  go_wp2_with fail
  refine (made_yes b m _ _ h2.out.blk).mono ?_; intro e w1 hE; obtain ⟨rfl, hw⟩ := hE
  rw [← hw] at J h2
  have HB := hide ((Kp.refl [] w).alloc (.cells #[.int .i64 0, .int .i64 0, .int .i64 0, .int .i64 0] 28))
  rw [← hw] at HB
  clear hw
  have hm := h2.out.map
  have hl := fun (W : World) (h : W.heap[m]? = w1.heap[m]?) => (hm.kept h).look
  have HL := hide hl
  have hmH : m ≠ w.heap.size := by
    intro e
    obtain ⟨es, cl, h1⟩ := hm.heap
    have := J.out
    unfold IsB at this
    rw [e] at h1
    rw [h1] at this
    cases this
  have hbH : b ≠ w.heap.size := by
    intro e
    have h1 := h2.out.blk
    have := J.out
    unfold IsB at this h1
    rw [e] at h1
    rw [h1] at this
    injection this with this
    injection this with _ this
    cases this
  have hb1 := h2.out.blk.cell 1
  simp at hb1
  obtain ⟨a0, a1, a2, a3⟩ := J.out.cells4
  obtain ⟨f0, f1, f2, f3, -⟩ := J.out.free5
  obtain ⟨l0, l1, l2, l3⟩ := hl w1 rfl
  have HK : Hid (∀ x0 x1 x2 x3, Kp [w.heap.size] w1 (put4 w1 w.heap.size x0 x1 x2 x3).drew) := fun x0 x1 x2 x3 => (put4_kp w1 w.heap.size x0 x1 x2 x3).drew
  have HS2 : Hid (∀ x0 x1 x2 x3, (put4 w1 w.heap.size x0 x1 x2 x3).drew.cell? ⟨b, 1, none⟩ = some (.map (some m))) := fun x0 x1 x2 x3 => (World.cell?_of_block (w := w1) (w' := (put4 w1 w.heap.size x0 x1 x2 x3).drew) (a := ⟨b, 1, none⟩) ((HK.out x0 x1 x2 x3).block b h2.out.blk.lt (by simpa using hbH))).trans hb1
  have HS1 : Hid (w1.drew.cell? ⟨b, 1, none⟩ = some (.map (some m))) := hb1
  have HLd := hide (hl w1.drew rfl)
  have HLs := hide (fun x0 x1 x2 x3 => hl (put4 w1 w.heap.size x0 x1 x2 x3).drew ((HK.out x0 x1 x2 x3).block m hm.lt (by simpa using hmH)))
  clear hm hl HL
  obtain ⟨cp, cl, cd, cr⟩ := c
  simp only [] at *
  go_wp2
  have mixed : Try.prog.follows .mixedOrders = true := by kernel_rfl
  refine wp_region_held_drew (S := (fun w' => w'.cell? ⟨b, 1, none⟩ = some (.map (some m)) ∧ (Instr.lookup 56 (.map (some m)) (.int .i64 0) false).run Try.prog w' = .ok (.int .i64 cp) w' ∧ (Instr.lookup 56 (.map (some m)) (.int .i64 1) false).run Try.prog w' = .ok (.int .i64 cl) w' ∧ (Instr.lookup 56 (.map (some m)) (.int .i64 2) false).run Try.prog w' = .ok (.int .i64 cd) w' ∧ (Instr.lookup 56 (.map (some m)) (.int .i64 3) false).run Try.prog w' = .ok (.int .i64 cr) w')) (by assumption) ⟨HS1.out, HLd.out⟩ (fun hHeld => ?_)
  refine pick_yes (v := ?_) 0 (some 7) rfl rfl (by kernel_rfl) (by kernel_rfl) (by kernel_rfl) (fun _ _ _ h => h) (by rfl) ?_ (by assumption) ?_
  rotate_left
  · intro w' hSw
    clear hSw
    go_simp
    try with_reducible rfl
  try simp only [Act.put, List.setIfInBounds_toArray, List.set_cons_zero, List.set_cons_succ]
  refine pick_yes (v := ?_) 1 (some 8) rfl rfl (by kernel_rfl) (by kernel_rfl) (by kernel_rfl) (fun _ _ _ h => h) (by rfl) ?_ (by assumption) ?_
  rotate_left
  · intro w' hSw
    clear hSw
    go_simp
    try with_reducible rfl
  try simp only [Act.put, List.setIfInBounds_toArray, List.set_cons_zero, List.set_cons_succ]
  refine pick_yes (v := ?_) 2 (some 9) rfl rfl (by kernel_rfl) (by kernel_rfl) (by kernel_rfl) (fun _ _ _ h => h) (by rfl) ?_ (by assumption) ?_
  rotate_left
  · intro w' hSw
    clear hSw
    go_simp
    try with_reducible rfl
  try simp only [Act.put, List.setIfInBounds_toArray, List.set_cons_zero, List.set_cons_succ]
  refine pick_yes (v := ?_) 3 (some 10) rfl rfl (by kernel_rfl) (by kernel_rfl) (by kernel_rfl) (fun _ _ _ h => h) (by rfl) ?_ (by assumption) ?_
  rotate_left
  · intro w' hSw
    obtain ⟨q0, q1, q2, q3, q4⟩ := hSw
    go_simp
    try with_reducible rfl
  try simp only [Act.put, List.setIfInBounds_toArray, List.set_cons_zero, List.set_cons_succ]
  refine pick_yes (v := ?_) 4 (some 11) rfl rfl (by kernel_rfl) (by kernel_rfl) (by kernel_rfl) (fun _ _ _ h => h) (by rfl) ?_ (by assumption) ?_
  rotate_left
  · intro w' hSw
    obtain ⟨q0, q1, q2, q3, q4⟩ := hSw
    go_simp
    try with_reducible rfl
  try simp only [Act.put, List.setIfInBounds_toArray, List.set_cons_zero, List.set_cons_succ]
  refine pick_yes (v := ?_) 5 (some 12) rfl rfl (by kernel_rfl) (by kernel_rfl) (by kernel_rfl) (fun _ _ _ h => h) (by rfl) ?_ (by assumption) ?_
  rotate_left
  · intro w' hSw
    clear hSw
    go_simp
    try with_reducible rfl
  try simp only [Act.put, List.setIfInBounds_toArray, List.set_cons_zero, List.set_cons_succ]
  refine pick_yes (v := ?_) 6 (some 13) rfl rfl (by kernel_rfl) (by kernel_rfl) (by kernel_rfl) (fun _ _ _ h => h) (by rfl) ?_ (by assumption) ?_
  rotate_left
  · intro w' hSw
    clear hSw
    go_simp
    try with_reducible rfl
  try simp only [Act.put, List.setIfInBounds_toArray, List.set_cons_zero, List.set_cons_succ]
  refine pick_yes (v := ?_) 7 (some 14) rfl rfl (by kernel_rfl) (by kernel_rfl) (by kernel_rfl) (fun _ _ _ h => h) (by rfl) ?_ (by assumption) ?_
  rotate_left
  · intro w' hSw
    clear hSw
    go_simp
    try with_reducible rfl
  try simp only [Act.put, List.setIfInBounds_toArray, List.set_cons_zero, List.set_cons_succ]
  refine pick_yes (v := ?_) 8 (some 15) rfl rfl (by kernel_rfl) (by kernel_rfl) (by kernel_rfl) (fun _ _ _ h => h) (by rfl) ?_ (by assumption) ?_
  rotate_left
  · intro w' hSw
    obtain ⟨q0, q1, q2, q3, q4⟩ := hSw
    go_simp
    try with_reducible rfl
  try simp only [Act.put, List.setIfInBounds_toArray, List.set_cons_zero, List.set_cons_succ]
  refine pick_yes (v := ?_) 9 (some 16) rfl rfl (by kernel_rfl) (by kernel_rfl) (by kernel_rfl) (fun _ _ _ h => h) (by rfl) ?_ (by assumption) ?_
  rotate_left
  · intro w' hSw
    obtain ⟨q0, q1, q2, q3, q4⟩ := hSw
    go_simp
    try with_reducible rfl
  try simp only [Act.put, List.setIfInBounds_toArray, List.set_cons_zero, List.set_cons_succ]
  refine pick_yes (v := ?_) 10 (some 17) rfl rfl (by kernel_rfl) (by kernel_rfl) (by kernel_rfl) (fun _ _ _ h => h) (by rfl) ?_ (by assumption) ?_
  rotate_left
  · intro w' hSw
    clear hSw
    go_simp
    try with_reducible rfl
  try simp only [Act.put, List.setIfInBounds_toArray, List.set_cons_zero, List.set_cons_succ]
  refine pick_yes (v := ?_) 11 (some 18) rfl rfl (by kernel_rfl) (by kernel_rfl) (by kernel_rfl) (fun _ _ _ h => h) (by rfl) ?_ (by assumption) ?_
  rotate_left
  · intro w' hSw
    clear hSw
    go_simp
    try with_reducible rfl
  try simp only [Act.put, List.setIfInBounds_toArray, List.set_cons_zero, List.set_cons_succ]
  refine pick_yes (v := ?_) 12 (some 19) rfl rfl (by kernel_rfl) (by kernel_rfl) (by kernel_rfl) (fun _ _ _ h => h) (by rfl) ?_ (by assumption) ?_
  rotate_left
  · intro w' hSw
    clear hSw
    go_simp
    try with_reducible rfl
  try simp only [Act.put, List.setIfInBounds_toArray, List.set_cons_zero, List.set_cons_succ]
  refine pick_yes (v := ?_) 13 (some 20) rfl rfl (by kernel_rfl) (by kernel_rfl) (by kernel_rfl) (fun _ _ _ h => h) (by rfl) ?_ (by assumption) ?_
  rotate_left
  · intro w' hSw
    obtain ⟨q0, q1, q2, q3, q4⟩ := hSw
    go_simp
    try with_reducible rfl
  try simp only [Act.put, List.setIfInBounds_toArray, List.set_cons_zero, List.set_cons_succ]
  refine pick_yes (v := ?_) 14 (some 21) rfl rfl (by kernel_rfl) (by kernel_rfl) (by kernel_rfl) (fun _ _ _ h => h) (by rfl) ?_ (by assumption) ?_
  rotate_left
  · intro w' hSw
    obtain ⟨q0, q1, q2, q3, q4⟩ := hSw
    go_simp
    try with_reducible rfl
  try simp only [Act.put, List.setIfInBounds_toArray, List.set_cons_zero, List.set_cons_succ]
  refine pick_yes (v := ?_) 15 (some 22) rfl rfl (by kernel_rfl) (by kernel_rfl) (by kernel_rfl) (fun _ _ _ h => h) (by rfl) ?_ (by assumption) ?_
  rotate_left
  · intro w' hSw
    clear hSw
    go_simp
    try with_reducible rfl
  try simp only [Act.put, List.setIfInBounds_toArray, List.set_cons_zero, List.set_cons_succ]
  refine pick_yes (v := ?_) 16 (some 23) rfl rfl (by kernel_rfl) (by kernel_rfl) (by kernel_rfl) (fun _ _ _ h => h) (by rfl) ?_ (by assumption) ?_
  rotate_left
  · intro w' hSw
    clear hSw
    go_simp
    try with_reducible rfl
  try simp only [Act.put, List.setIfInBounds_toArray, List.set_cons_zero, List.set_cons_succ]
  refine pick_yes (v := ?_) 17 (some 24) rfl rfl (by kernel_rfl) (by kernel_rfl) (by kernel_rfl) (fun _ _ _ h => h) (by rfl) ?_ (by assumption) ?_
  rotate_left
  · intro w' hSw
    clear hSw
    go_simp
    try with_reducible rfl
  try simp only [Act.put, List.setIfInBounds_toArray, List.set_cons_zero, List.set_cons_succ]
  refine pick_yes (v := ?_) 18 (some 25) rfl rfl (by kernel_rfl) (by kernel_rfl) (by kernel_rfl) (fun _ _ _ h => h) (by rfl) ?_ (by assumption) ?_
  rotate_left
  · intro w' hSw
    obtain ⟨q0, q1, q2, q3, q4⟩ := hSw
    go_simp
    try with_reducible rfl
  try simp only [Act.put, List.setIfInBounds_toArray, List.set_cons_zero, List.set_cons_succ]
  refine pick_yes (v := ?_) 19 (some 26) rfl rfl (by kernel_rfl) (by kernel_rfl) (by kernel_rfl) (fun _ _ _ h => h) (by rfl) ?_ (by assumption) ?_
  rotate_left
  · intro w' hSw
    obtain ⟨q0, q1, q2, q3, q4⟩ := hSw
    go_simp
    try with_reducible rfl
  try simp only [Act.put, List.setIfInBounds_toArray, List.set_cons_zero, List.set_cons_succ]
  refine pick_yes (v := ?_) 20 (some 27) rfl rfl (by kernel_rfl) (by kernel_rfl) (by kernel_rfl) (fun _ _ _ h => h) (by rfl) ?_ (by assumption) ?_
  rotate_left
  · intro w' hSw
    clear hSw
    go_simp
    try with_reducible rfl
  try simp only [Act.put, List.setIfInBounds_toArray, List.set_cons_zero, List.set_cons_succ]
  refine wpAnyH_ready (rs := [21]) (by kernel_rfl) (by simp) ?_
  refine AllReadyH.cons rfl (fun K hK => ?_) AllReadyH.nil
  go_simp
  refine hK.out _ _ ?_ (fun hHeld => ?_)
  · exact ⟨HS2.out _ _ _ _, HLs.out _ _ _ _⟩
  clear hK K
  refine wpAnyH_done (by kernel_rfl) ?_ _
  go_wp2
  have I := IsB.drew (put4_is J.out (.int .i64 cp) (.int .i64 cl) (.int .i64 cd) (.int .i64 cr))
  have hk := HB.out.trans (HK.out (.int .i64 cp) (.int .i64 cl) (.int .i64 cd) (.int .i64 cr)) (by simp)
  exact bodyPost_ret (results_cell_row Try.results11 _ _ w.heap.size 28 _ (0, 0) _ rfl I Try.underlying28 rfl stats_info) rfl ⟨rfl, hk.to_below (Nat.le_refl _) (by simp)⟩

end Go.Proofs.Ytoinjmddmahpkaa
