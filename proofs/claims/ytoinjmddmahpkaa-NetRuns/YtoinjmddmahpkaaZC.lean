/- The document's network: Twin, Take, Drop. -/
import Derived.Test.YtoinjmddmahpkaaZB
namespace Go.Proofs.Ytoinjmddmahpkaa
open Go.RowKit Go.Maps

/-- One count of the document's network turns. -/
theorem RS.count {w : World} {b : Nat} {v : Value} {ps : List Pc} {c : Cnt} {k : Nat} (h : RS w b v ps c k) (j : Nat) (x : Int) (c' : Cnt) (hj : (#[v, .int .i64 c.p, .int .i64 c.l, .int .i64 c.d, .int .i64 c.r] : Array Value).setIfInBounds j (.int .i64 x) = #[v, .int .i64 c'.p, .int .i64 c'.l, .int .i64 c'.d, .int .i64 c'.r])
    (h0 : 0 ≤ c'.p ∧ 0 ≤ c'.l ∧ 0 ≤ c'.d ∧ 0 ≤ c'.r) (h1 : c'.p ≤ (k + 1 : Nat) * 4096 ∧ c'.l ≤ (k + 1 : Nat) * 4096 ∧ c'.d ≤ (k + 1 : Nat) * 4096 ∧ c'.r ≤ (k + 1 : Nat) * 4096) : Rx w (w.setCell ⟨b, j, none⟩ (.int .i64 x)) b v v ps c' (k + 1) := by
  have hkS : Kp [b] w (w.setCell ⟨b, j, none⟩ (.int .i64 x)) := (Kp.refl _ w).set _ _ (Or.inl (by simp))
  have hnb : NoBy w [b] := fun q hq => h.noBy q (by simp at hq; subst hq; simp [rfoot])
  have hvb : ∀ q, v.ownBlock = some q → q ∉ [b] := fun q hq hm => by
    simp at hm
    subst hm
    obtain ⟨-, cur, h2⟩ := h.row.row.lt q hq
    have h1 := h.blk
    unfold IsB at h1
    rw [h2] at h1
    injection h1 with h1
    injection h1 with _ h1
    cases h1
  refine ⟨⟨?_, h.row.kp hkS hvb hnb, h.len, h0, h1⟩, hkS.mono (fun q hq => Or.inl (by simp at hq; subst hq; simp [rfoot])), fun _ hq => Or.inl hq⟩
  have := h.blk.set j (.int .i64 x)
  rw [hj] at this
  exact this
theorem RS.bne {w : World} {b : Nat} {v : Value} {ps : List Pc} {c : Cnt} {k : Nat} (h : RS w b v ps c k) {q : Nat} {cs : Array Value} (hq : IsB w q cs 35) : q ≠ b := by
  intro e
  subst e
  have h1 := h.blk
  unfold IsB at h1 hq
  rw [hq] at h1
  injection h1 with h1
  injection h1 with _ h1
  cases h1

set_option maxHeartbeats 2000000 in
set_option maxRecDepth 100000 in
theorem rtwin_bad (b : Nat) (v : Value) (ps : List Pc) (c : Cnt) (k : Nat) (w : World) (h : RS w b v ps c k) (i : Int) (hi : inR ps.length i = false) :
    Calls Try.prog 27 #[.pointer (some ⟨b, 0, none⟩), .int .i64 i] w fun e w' => e = .returned (zeroE 5) ∧ Below w.heap.size w w' := by
  have bel := (Below.refl w.heap.size w).alloc (Nat.le_refl _) (.cells #[.bool false, .int .i64 0, .bool false, .int .i64 0, .slice none 0 0] 35)
  have h2 := hide (h.below bel)
  have J := hide (IsB.new w #[.bool false, .int .i64 0, .bool false, .int .i64 0, .slice none 0 0] 35)
  have HB := hide ((Kp.refl [] w).alloc (.cells #[.bool false, .int .i64 0, .bool false, .int .i64 0, .slice none 0 0] 35))
  clear h bel
  go_enter Try.func27, Try.ntmps27
  go_wp2_with fail
  refine (ris_any b v ps c k i _ h2.out).mono ?_
  intro e w1 hE; obtain ⟨rfl, hw⟩ := hE
  rw [hi]
  rw [← hw] at J HB
  clear hw h2
  obtain ⟨a0, a1, a2, a3, a4⟩ := J.out.cells5
  obtain ⟨f0, f1, f2, f3, f4⟩ := J.out.free5
  go_wp2
  refine ret_pe (p := 4) (u := 5) (b := w.heap.size) (v := .int .i64 5) Try.results27 ?_ ?_ J.out ?_
  · rfl
  · rfl
  intro W hk
  exact ⟨rfl, (HB.out.trans hk (by simp)).to_below (Nat.le_refl _) (by simp)⟩

set_option maxHeartbeats 2000000 in
set_option maxRecDepth 100000 in
theorem rtake_bad (b : Nat) (v : Value) (ps : List Pc) (c : Cnt) (k : Nat) (w : World) (h : RS w b v ps c k) (i : Int) (hi : inR ps.length i = false) :
    Calls Try.prog 26 #[.pointer (some ⟨b, 0, none⟩), .int .i64 i] w fun e w' => e = .returned (zeroE 5) ∧ Below w.heap.size w w' := by
  have bel := (Below.refl w.heap.size w).alloc (Nat.le_refl _) (.cells #[.bool false, .int .i64 0, .bool false, .int .i64 0, .slice none 0 0] 35)
  have h2 := hide (h.below bel)
  have J := hide (IsB.new w #[.bool false, .int .i64 0, .bool false, .int .i64 0, .slice none 0 0] 35)
  have HB := hide ((Kp.refl [] w).alloc (.cells #[.bool false, .int .i64 0, .bool false, .int .i64 0, .slice none 0 0] 35))
  clear h bel
  go_enter Try.func26, Try.ntmps26
  go_wp2_with fail
  refine (ris_any b v ps c k i _ h2.out).mono ?_
  intro e w1 hE; obtain ⟨rfl, hw⟩ := hE
  rw [hi]
  rw [← hw] at J HB
  clear hw h2
  obtain ⟨a0, a1, a2, a3, a4⟩ := J.out.cells5
  obtain ⟨f0, f1, f2, f3, f4⟩ := J.out.free5
  go_wp2
  refine ret_pe (p := 4) (u := 5) (b := w.heap.size) (v := .int .i64 5) Try.results26 ?_ ?_ J.out ?_
  · rfl
  · rfl
  intro W hk
  exact ⟨rfl, (HB.out.trans hk (by simp)).to_below (Nat.le_refl _) (by simp)⟩

set_option maxHeartbeats 4000000 in
set_option maxRecDepth 100000 in
theorem rtwin_ok (b : Nat) (v : Value) (ps : List Pc) (c : Cnt) (k : Nat) (hk : k < 1000000) (w : World) (h : RS w b v ps c k) (i : Nat) (hi : i < ps.length) :
    Calls Try.prog 27 #[.pointer (some ⟨b, 0, none⟩), .int .i64 (i : Int)] w fun e w' => e = .returned (.tuple #[ps[i].v5, .int .i64 0]) ∧ Rx w w' b v v ps { c with l := c.l + 1 } (k + 1) := by
  have bel := (Below.refl w.heap.size w).alloc (Nat.le_refl _) (.cells #[.bool false, .int .i64 0, .bool false, .int .i64 0, .slice none 0 0] 35)
  have h2 := hide (h.below bel)
  have X1 := hide (h.rx bel)
  have J := hide (IsB.new w #[.bool false, .int .i64 0, .bool false, .int .i64 0, .slice none 0 0] 35)
  have hin : inR ps.length (i : Int) = true := by simp [inR]; omega
  have hlen := h.len
  have hft := hide h.lt
  generalize hp : ps[i] = p
  have HP := hide hp
  clear h bel hp
  go_enter Try.func27, Try.ntmps27
  go_wp2_with fail
  refine (ris_any b v ps c k _ _ h2.out).mono ?_
  intro e w1 hE; obtain ⟨rfl, hw⟩ := hE
  rw [hin]
  rw [← hw] at J X1 h2
  clear hw hin
  obtain ⟨g, cap, rfl, hcap, hmax, c0, c1, c2, c3, c4⟩ := h2.out.cells i hi
  rw [HP.out] at c0 c1 c2 c3 c4
  clear HP
  have hb0 := h2.out.blk.cell 0
  have hb2 := h2.out.blk.cell 2
  have hf2 := h2.out.blk.free 2
  simp at hb0 hb2
  have hHb := h2.out.bne J.out
  have hgb : g ≠ b := by
    intro e
    have h1 := h2.out.blk
    obtain ⟨-, cur, h3⟩ := h2.out.row.row.lt g rfl
    unfold IsB at h1
    rw [← e, h3] at h1
    injection h1 with h1
    injection h1 with _ h1
    cases h1
  have q0 := h2.out.c0.2.1
  have q1 := h2.out.c1.2.1
  have X2 := hide (h2.out.count 2 (c.l + 1) { c with l := c.l + 1 } (by simp) ⟨h2.out.c0.1, by simp only []; omega, h2.out.c0.2.2⟩ ⟨by have := h2.out.c1.1; simp only []; omega, by simp only []; omega, by have := h2.out.c1.2.2.1; simp only []; omega, by have := h2.out.c1.2.2.2; simp only []; omega⟩)
  obtain ⟨fa, fn, ta, tn, a, cp, bs⟩ := p
  simp only [] at c0 c1 c2 c3 c4
  obtain ⟨a0, a1, a2, a3, a4⟩ := J.out.cells5
  obtain ⟨f0, f1, f2, f3, f4⟩ := J.out.free5
  clear h2
  generalize hcl : c.l = cl at *
  replace hcl := hide hcl
  generalize hH : w.heap.size = H at *
  replace hH := hide hH
  go_wp2
  refine ret_pe (p := 4) (u := 5) (b := H) (v := .int .i64 0) Try.results27 ?_ ?_ (J.out.setOther (a := ⟨b, 2, none⟩) hHb (.int .i64 (cl + 1))) ?_
  · rfl
  · rfl
  intro W hkW
  refine ⟨rfl, ?_⟩
  rw [hcl.out]
  have J2 := J.out.setOther (a := ⟨b, 2, none⟩) hHb (.int .i64 (cl + 1))
  exact (X1.out.trans X2.out).priv hkW (by simp; have := hH.out; omega) (fun x hx => by have := hft.out x hx; have := hH.out; simp; omega) (noBy_new J2)

set_option maxHeartbeats 4000000 in
set_option maxRecDepth 100000 in
theorem rtake_ok (b : Nat) (v : Value) (ps : List Pc) (c : Cnt) (k : Nat) (hk : k < 1000000) (w : World) (h : RS w b v ps c k) (i : Nat) (hi : i < ps.length) :
    Calls Try.prog 26 #[.pointer (some ⟨b, 0, none⟩), .int .i64 (i : Int)] w fun e w' => e = .returned (.tuple #[ps[i].v5, .int .i64 0]) ∧ ∃ v', Rx w w' b v v' (ps.eraseIdx i) { c with l := c.l + 1 } (k + 1) := by
  have bel := (Below.refl w.heap.size w).alloc (Nat.le_refl _) (.cells #[.bool false, .int .i64 0, .bool false, .int .i64 0, .slice none 0 0] 35)
  have h2 := hide (h.below bel)
  have X1 := hide (h.rx bel)
  have J := hide (IsB.new w #[.bool false, .int .i64 0, .bool false, .int .i64 0, .slice none 0 0] 35)
  have hin : inR ps.length (i : Int) = true := by simp [inR]; omega
  have hlen := h.len
  have hft := hide h.lt
  generalize hp : ps[i] = p
  have HP := hide hp
  clear h bel hp
  go_enter Try.func26, Try.ntmps26
  go_wp2_with fail
  refine (ris_any b v ps c k _ _ h2.out).mono ?_
  intro e w1 hE; obtain ⟨rfl, hw⟩ := hE
  rw [hin]
  rw [← hw] at J X1 h2
  clear hw hin
  obtain ⟨g, cap, hv, hcap, hmax, c0, c1, c2, c3, c4⟩ := h2.out.cells i hi
  rw [HP.out] at c0 c1 c2 c3 c4
  clear HP
  have hb0 := h2.out.blk.cell 0
  simp at hb0
  rw [hv] at hb0
  obtain ⟨fa, fn, ta, tn, a, cp, bs⟩ := p
  simp only [] at c0 c1 c2 c3 c4
  have bel2 := (Below.refl w1.heap.size w1).alloc (Nat.le_refl _) (.cells #[.bool fa, .int .i64 fn, .bool ta, .int .i64 tn, .slice a bs.length cp] 35)
  have X2 := hide (X1.out.bel bel2)
  have L2 := hide (IsB.new w1 #[.bool fa, .int .i64 fn, .bool ta, .int .i64 tn, .slice a bs.length cp] 35)
  have J2 := hide (J.out.below bel2)
  have hlt : w.heap.size < w1.heap.size := J.out.lt
  have hHf : w.heap.size ∉ rfoot b v := fun hm => by have := hft.out _ hm; omega
  have hLf : w1.heap.size ∉ rfoot b v := fun hm => by have := hft.out _ hm; omega
  clear h2 J bel2
  replace hHf := hide hHf
  replace hLf := hide hLf
  replace hv := hide hv
  have hi := hide hi
  go_wp2_with fail
  clear c0 c1 c2 c3 c4 hb0
  refine (off_any b v ps c k _ X2.out.rs i hi.out).mono ?_
  rintro e w3 ⟨rfl, v', hx3⟩
  have L3 := L2.out.kp hx3.kp hLf.out
  have J3 := J2.out.kp hx3.kp hHf.out
  have X3 := X2.out.trans hx3
  have hb2 := hx3.rs.blk.cell 2
  have hf2 := hx3.rs.blk.free 2
  simp at hb2
  have hHb := hx3.rs.bne J3
  have hLb := hx3.rs.bne L3
  have q0 := hx3.rs.c0.2.1
  have q1 := hx3.rs.c1.2.1
  have X4 := hide (X3.trans (hx3.rs.count 2 (c.l + 1) { c with l := c.l + 1 } (by simp) ⟨hx3.rs.c0.1, by simp only []; omega, hx3.rs.c0.2.2⟩ ⟨by have := hx3.rs.c1.1; simp only []; omega, by simp only []; omega, by have := hx3.rs.c1.2.2.1; simp only []; omega, by have := hx3.rs.c1.2.2.2; simp only []; omega⟩))
  have HA := hide hx3.at_
  obtain ⟨s0, s1, s2, s3, s4⟩ := L3.cells5
  obtain ⟨t0, t1, t2, t3, t4⟩ := J3.free5
  obtain ⟨u0, u1, u2, u3, u4⟩ := J3.cells5
  have HJ3 := hide J3
  clear L3 J3 hx3 L2 J2 X3
  generalize hcl : c.l = cl at *
  replace hcl := hide hcl
  generalize hLe : w1.heap.size = LL at *
  generalize hH : w.heap.size = H at *
  go_wp2
  refine ret_pe (p := 4) (u := 5) (b := H) (v := .int .i64 0) Try.results26 ?_ ?_ (HJ3.out.setOther (a := ⟨b, 2, none⟩) hHb (.int .i64 (cl + 1))) ?_
  · rfl
  · rfl
  intro W hkW
  refine ⟨rfl, v', ?_⟩
  rw [hcl.out]
  have J4 := HJ3.out.setOther (a := ⟨b, 2, none⟩) hHb (.int .i64 (cl + 1))
  refine X4.out.priv hkW (by simp; omega) (fun x hx => ?_) (noBy_new J4)
  simp
  intro e
  subst e
  unfold rfoot at hx
  simp only [List.mem_cons, Option.mem_toList] at hx
  rcases hx with hx | hx
  · exact hHf.out (by rw [hx]; simp [rfoot])
  · rcases HA.out _ hx with h1 | h1
    · exact hHf.out (by simp [rfoot, h1])
    · simp at h1
      omega

set_option maxHeartbeats 2000000 in
theorem rdrop_bad (b : Nat) (v : Value) (ps : List Pc) (c : Cnt) (k : Nat) (w : World) (h : RS w b v ps c k) (i : Int) (hi : inR ps.length i = false) :
    Calls Try.prog 28 #[.pointer (some ⟨b, 0, none⟩), .int .i64 i] w fun e w' => e = .returned (.int .i64 5) ∧ w' = w := by
  replace h := hide h
  go_enter Try.func28, Try.ntmps28
  go_wp2_with fail
  refine (ris_any b v ps c k i _ h.out).mono ?_
  rintro e w1 ⟨rfl, rfl⟩
  rw [hi]
  go_wp2
  go_ret
  exact ⟨rfl, rfl⟩

set_option maxHeartbeats 4000000 in
set_option maxRecDepth 100000 in
theorem rdrop_ok (b : Nat) (v : Value) (ps : List Pc) (c : Cnt) (k : Nat) (hk : k < 1000000) (w : World) (h : RS w b v ps c k) (i : Nat) (hi : i < ps.length) :
    Calls Try.prog 28 #[.pointer (some ⟨b, 0, none⟩), .int .i64 (i : Int)] w fun e w' => e = .returned (.int .i64 0) ∧ ∃ v', Rx w w' b v v' (ps.eraseIdx i) { c with d := c.d + 1 } (k + 1) := by
  have hin : inR ps.length (i : Int) = true := by simp [inR]; omega
  replace h := hide h
  have hi := hide hi
  go_enter Try.func28, Try.ntmps28
  go_wp2_with fail
  refine (ris_any b v ps c k _ _ h.out).mono ?_
  rintro e w1 ⟨rfl, rfl⟩
  rw [hin]
  clear hin
  go_wp2_with fail
  refine (off_any b v ps c k _ h.out i hi.out).mono ?_
  rintro e w3 ⟨rfl, v', hx3⟩
  have hb3 := hx3.rs.blk.cell 3
  have hf3 := hx3.rs.blk.free 3
  simp at hb3
  have q0 := hx3.rs.c0.2.2.1
  have q1 := hx3.rs.c1.2.2.1
  have X4 := hide (hx3.trans (hx3.rs.count 3 (c.d + 1) { c with d := c.d + 1 } (by simp) ⟨hx3.rs.c0.1, hx3.rs.c0.2.1, by simp only []; omega, hx3.rs.c0.2.2.2⟩ ⟨by have := hx3.rs.c1.1; simp only []; omega, by have := hx3.rs.c1.2.1; simp only []; omega, by simp only []; omega, by have := hx3.rs.c1.2.2.2; simp only []; omega⟩))
  clear hx3
  generalize hcd : c.d = cd at *
  replace hcd := hide hcd
  go_wp2
  go_ret
  rw [hcd.out]
  exact ⟨rfl, v', X4.out⟩

end Go.Proofs.Ytoinjmddmahpkaa
