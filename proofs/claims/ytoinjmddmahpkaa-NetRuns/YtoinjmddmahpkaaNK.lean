/- Package net: Take, Drop. -/
import Derived.Test.YtoinjmddmahpkaaNJ
namespace Go.Proofs.Ytoinjmddmahpkaa
open Go.RowKit Go.Maps

set_option maxHeartbeats 2000000 in
set_option maxRecDepth 100000 in
theorem take_bad (b m : Nat) (v : Value) (ps : List Pc) (c : Cnt) (k : Nat) (w : World) (h : NS w b m v ps c k) (i : Int) (hi : inR ps.length i = false) :
    Calls Try.prog 20 #[.pointer (some ⟨b, 0, none⟩), .int .i64 i] w fun e w' => e = .returned (zeroE 5) ∧ Below w.heap.size w w' := by
  have h2 := hide (h.below ((Below.refl _ w).alloc (Nat.le_refl _) (.cells #[.bool false, .int .i64 0, .bool false, .int .i64 0, .slice none 0 0] 35)))
  have J := IsB.new w #[.bool false, .int .i64 0, .bool false, .int .i64 0, .slice none 0 0] 35
  have hi := hide hi
  go_enter Try.func20, Try.ntmps20
  go_wp2_with fail
  refine (twin_bad b m v ps c k _ h2.out i hi.out).mono ?_; rintro e w1 ⟨rfl, hb⟩
  unfold zeroE
  have HB := hide (((Kp.refl [] w).alloc (.cells #[.bool false, .int .i64 0, .bool false, .int .i64 0, .slice none 0 0] 35)).bel hb)
  have J1 := J.below hb
  obtain ⟨a0, a1, a2, a3, a4⟩ := J1.cells5
  obtain ⟨f0, f1, f2, f3, f4⟩ := J1.free5
  replace J1 := hide J1
  have hlt : w.heap.size < w1.heap.size := J1.out.lt
  clear J h2 hb
  go_wp2
  refine ret_pea (p := 4) (u := 5) (b := w.heap.size) (v := .int .i64 5) Try.results20 ?_ ?_ J1.out ?_
  · rfl
  · rfl
  intro W hk
  exact ⟨rfl, (HB.out.trans hk (by simp)).to_below (Nat.le_refl _) (by simp)⟩

theorem nob_foot {w w1 : World} {b m : Nat} {v v1 : Value} {ps : List Pc} {c : Cnt} {k : Nat} (h : Nx w w1 b m v v1 ps c k) : NoBy w1 (foot b m v1) := h.ns.noBy

set_option maxHeartbeats 4000000 in
set_option maxRecDepth 100000 in
theorem take_ok (b m : Nat) (v : Value) (ps : List Pc) (c : Cnt) (k : Nat) (hk : k < 1000000) (w : World) (h : NS w b m v ps c k) (i : Nat) (hi : i < ps.length) :
    Calls Try.prog 20 #[.pointer (some ⟨b, 0, none⟩), .int .i64 (i : Int)] w fun e w' => ∃ x v', e = .returned (.tuple #[x, .int .i64 0]) ∧ Came w w' ps[i] x ∧ Nx w w' b m v v' (ps.eraseIdx i) { c with l := c.l + 1 } (k + 1) := by
  have h2 := hide (h.below ((Below.refl _ w).alloc (Nat.le_refl _) (.cells #[.bool false, .int .i64 0, .bool false, .int .i64 0, .slice none 0 0] 35)))
  have J := IsB.new w #[.bool false, .int .i64 0, .bool false, .int .i64 0, .slice none 0 0] 35
  generalize hp : ps[i] = p
  have HP := hide hp
  have hft := hide h.lt
  have h := hide h
  clear hp
  have hi := hide hi
  go_enter Try.func20, Try.ntmps20
  go_wp2_with fail
  refine (twin_ok b m v ps c k hk _ h2.out i hi.out).mono ?_; rintro e w1 ⟨x, rfl, hcm, hx⟩
  rw [HP.out] at hcm
  clear HP
  have HC := hide hcm
  obtain ⟨a', c', rfl, -, -, -⟩ := hcm
  have hfoot : ∀ j ∈ foot b m v, j < w.heap.size := hft.out
  have X1 : Hid (Nx w w1 b m v v ps { c with l := c.l + 1 } (k + 1)) := (h.out.nx ((Below.refl _ w).alloc (Nat.le_refl _) (.cells #[.bool false, .int .i64 0, .bool false, .int .i64 0, .slice none 0 0] 35))).trans hx
  have J1 := J.kp hx.kp (fun hm => by have := hfoot _ hm; omega)
  have hlt : w.heap.size < w1.heap.size := J1.lt
  obtain ⟨fa, fn, ta, tn, pa, pc, bs⟩ := p
  simp only [] at HC ⊢
  replace hfoot := hide hfoot
  replace J1 := hide J1
  have bel := (Below.refl w1.heap.size w1).alloc (Nat.le_refl _) (.cells #[.bool fa, .int .i64 fn, .bool ta, .int .i64 tn, .slice a' bs.length c'] 35)
  have X2 := hide (X1.out.bel bel)
  have L2 := hide (IsB.new w1 #[.bool fa, .int .i64 fn, .bool ta, .int .i64 tn, .slice a' bs.length c'] 35)
  have J2 := hide (J1.out.below bel)
  replace bel := hide bel
  clear J h2 hx
  go_wp2_with fail
  refine (lose_any b m v ps _ (k + 1) _ X2.out.ns i hi.out).mono ?_; rintro e w3 ⟨rfl, v', hx3⟩
  have n1 : w1.heap.size ∉ foot b m v := fun hm => by have := hfoot.out _ hm; omega
  have n2 : w.heap.size ∉ foot b m v := fun hm => by have := hfoot.out _ hm; omega
  have L3 := L2.out.kp hx3.kp n1
  have J3 := J2.out.kp hx3.kp n2
  have X3 := hide (X2.out.trans hx3)
  have HA := hide hx3.at_
  have C3 := hide ((HC.out.mono (w0 := w) (by simp) (Kp.of_below (S := []) bel.out) (by intro k hk; simp at hk)).mono (Nat.le_refl _) hx3.kp X2.out.ns.noBy)
  obtain ⟨s0, s1, s2, s3, s4⟩ := L3.cells5
  obtain ⟨t0, t1, t2, t3, t4⟩ := J3.free5
  obtain ⟨u0, u1, u2, u3, u4⟩ := J3.cells5
  have HJ3 := hide J3
  clear L3 J3 hx3 L2 J2 HC
  go_wp2
  refine ret_pe (p := 4) (u := 5) (b := w.heap.size) (v := .int .i64 0) Try.results20 ?_ ?_ HJ3.out ?_
  · rfl
  · rfl
  intro W hkW
  have n3 : NoBy w3 [w.heap.size] := noBy_new HJ3.out
  refine ⟨_, v', rfl, C3.out.mono (Nat.le_refl _) hkW n3, ?_⟩
  refine X3.out.priv hkW (by simp) (fun q hq => ?_) n3
  simp
  intro e
  subst e
  unfold foot at hq
  simp only [List.mem_cons, Option.mem_toList] at hq
  rcases hq with hq | hq | hq
  · exact n2 (by rw [hq]; simp [foot])
  · exact n2 (by rw [hq]; simp [foot])
  · rcases HA.out _ hq with h1 | h1
    · exact n2 (by simp [foot, h1])
    · simp at h1
      omega

set_option maxHeartbeats 2000000 in
set_option maxRecDepth 100000 in
theorem drop_bad (b m : Nat) (v : Value) (ps : List Pc) (c : Cnt) (k : Nat) (w : World) (h : NS w b m v ps c k) (i : Int) (hi : inR ps.length i = false) :
    Calls Try.prog 18 #[.pointer (some ⟨b, 0, none⟩), .int .i64 i] w fun e w' => e = .returned (.int .i64 5) ∧ Below w.heap.size w w' := by
  have h2 := hide (h.below ((Below.refl _ _).alloc (Nat.le_refl _) (.cells #[.int .i64 i] 3)))
  have e5 : (if [i].all (inR ps.length) then (0 : Int) else 5) = 5 := by simp [hi]
  clear h
  go_enter Try.func18, Try.ntmps18
  go_wp2_with fail
  refine (places_any b m v ps c k _ h2.out w.heap.size 1 [i] (fun j hj => ?_) (by simp)).mono ?_
  · obtain rfl : j = 0 := by simpa using hj
    simp
  rintro e w1 ⟨rfl, rfl⟩
  rw [e5]
  clear h2 e5
  go_wp2
  go_ret
  exact ⟨rfl, (Below.refl _ _).alloc (Nat.le_refl _) _⟩

set_option maxHeartbeats 4000000 in
set_option maxRecDepth 100000 in
theorem drop_ok (b m : Nat) (v : Value) (ps : List Pc) (c : Cnt) (k : Nat) (hk : k < 1000000) (w : World) (h : NS w b m v ps c k) (i : Nat) (hi : i < ps.length) :
    Calls Try.prog 18 #[.pointer (some ⟨b, 0, none⟩), .int .i64 (i : Int)] w fun e w' => e = .returned (.int .i64 0) ∧ ∃ v', Nx w w' b m v v' (ps.eraseIdx i) { c with d := c.d + 1 } (k + 1) := by
  have bel := (Below.refl w.heap.size w).alloc (Nat.le_refl _) (.cells #[.int .i64 (i : Int)] 3)
  have X0 := h.nx bel
  have e5 : (if [(i : Int)].all (inR ps.length) then (0 : Int) else 5) = 0 := by simp [inR]; omega
  replace hi := hide hi
  clear h bel
  go_enter Try.func18, Try.ntmps18
  go_wp2_with fail
  refine (places_any b m v ps c k _ X0.ns w.heap.size 1 [(i : Int)] (fun j hj => ?_) (by simp)).mono ?_
  · obtain rfl : j = 0 := by simpa using hj
    simp
  intro e w1 hE; obtain ⟨rfl, hw⟩ := hE
  rw [e5]
  rw [← hw] at X0
  replace X0 := hide X0
  clear hw e5
  go_wp2_with fail
  refine (lose_any b m v ps c k _ X0.out.ns i hi.out).mono ?_; rintro e w3 ⟨rfl, v', hx3⟩
  have hb1 := hx3.ns.blk.cell 1
  simp at hb1
  have hlk := hx3.ns.map.look.2.2.1
  have q0 := hx3.ns.c0.2.2.1
  have q1 := hx3.ns.c1.2.2.1
  obtain ⟨w4, hrun, hM4, hg4⟩ := hx3.ns.map.put2 (by omega) (c.d + 1) (by omega) (by omega)
  have X4 := hide ((X0.out.trans hx3).trans (hx3.ns.counted hM4 hg4 ⟨hx3.ns.c0.1, hx3.ns.c0.2.1, by simp only []; omega, hx3.ns.c0.2.2.2⟩ ⟨by have := hx3.ns.c1.1; simp only []; omega, by have := hx3.ns.c1.2.1; simp only []; omega, by simp only []; omega, by have := hx3.ns.c1.2.2.2; simp only []; omega⟩))
  clear hx3 hM4 hg4
  generalize hcd : c.d = cd at *
  replace hcd := hide hcd
  go_wp2
  go_ret
  rw [hcd.out]
  exact ⟨rfl, v', X4.out⟩

end Go.Proofs.Ytoinjmddmahpkaa
