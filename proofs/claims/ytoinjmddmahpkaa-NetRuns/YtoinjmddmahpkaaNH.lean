/- Package net: Twin. -/
import Derived.Test.YtoinjmddmahpkaaNG
namespace Go.Proofs.Ytoinjmddmahpkaa
open Go.RowKit Go.Maps

set_option maxHeartbeats 2000000 in
set_option maxRecDepth 100000 in
theorem twin_bad (b m : Nat) (v : Value) (ps : List Pc) (c : Cnt) (k : Nat) (w : World) (h : NS w b m v ps c k) (i : Int) (hi : inR ps.length i = false) :
    Calls Try.prog 21 #[.pointer (some ⟨b, 0, none⟩), .int .i64 i] w fun e w' => e = .returned (zeroE 5) ∧ Below w.heap.size w w' := by
  have h2 := hide (h.below ((Below.refl _ w).alloc (Nat.le_refl _) (.cells #[.bool false, .int .i64 0, .bool false, .int .i64 0, .slice none 0 0] 35)))
  have J := IsB.new w #[.bool false, .int .i64 0, .bool false, .int .i64 0, .slice none 0 0] 35
  have hi := hide hi
  go_enter Try.func21, Try.ntmps21
  go_wp2_with fail
  refine (at_bad b m v ps c k _ h2.out i hi.out).mono ?_; rintro e w1 ⟨rfl, hb⟩
  unfold zeroE
  have HB := hide (((Kp.refl [] w).alloc (.cells #[.bool false, .int .i64 0, .bool false, .int .i64 0, .slice none 0 0] 35)).bel hb)
  have J1 := J.below hb
  obtain ⟨a0, a1, a2, a3, a4⟩ := J1.cells5
  obtain ⟨f0, f1, f2, f3, f4⟩ := J1.free5
  replace J1 := hide J1
  have hlt : w.heap.size < w1.heap.size := J1.out.lt
  clear J h2 hb
  go_wp2
  refine ret_pea (p := 4) (u := 5) (b := w.heap.size) (v := .int .i64 5) Try.results21 ?_ ?_ J1.out ?_
  · rfl
  · rfl
  intro W hk
  exact ⟨rfl, (HB.out.trans hk (by simp)).to_below (Nat.le_refl _) (by simp)⟩

theorem CM.ne {w : World} {m k : Nat} {c : Cnt} (h : CM w m k c) {b : Nat} {cs : Array Value} {t : TypeId} (hb : IsB w b cs t) : b ≠ m := by
  intro e
  obtain ⟨es, cl, h1⟩ := h.heap
  unfold IsB at hb
  rw [e, h1] at hb
  cases hb
theorem IsB.grown {w w' : World} {b : Nat} {cs : Array Value} {t : TypeId} {row : Option Nat} (h : IsB w b cs t) (hg : w.grownBy w' row) (hne : some b ≠ row) : IsB w' b cs t := (hg.block b h.lt hne).trans h
/-- The map's counts turned. -/
theorem NS.counted {w w' : World} {b m : Nat} {v : Value} {ps : List Pc} {c c' : Cnt} {k : Nat} (h : NS w b m v ps c k) (hM : CM w' m (k + 1) c') (hg : w.grownBy w' (some m))
    (h0 : 0 ≤ c'.p ∧ 0 ≤ c'.l ∧ 0 ≤ c'.d ∧ 0 ≤ c'.r) (h1 : c'.p ≤ (k + 1 : Nat) * 4096 ∧ c'.l ≤ (k + 1 : Nat) * 4096 ∧ c'.d ≤ (k + 1 : Nat) * 4096 ∧ c'.r ≤ (k + 1 : Nat) * 4096) : Nx w w' b m v v ps c' (k + 1) := by
  have hk : Kp [m] w w' := Kp.of_grown hg (fun q hq => by simp at hq; simp [hq])
  have hm : m ∈ foot b m v := by simp [foot]
  refine ⟨⟨h.blk.grown hg (by simpa using h.map.ne h.blk), hM, h.row.kp hk ?_ ?_, h.len, h0, h1⟩, hk.mono (fun j hj => Or.inl (by simp at hj; subst hj; exact hm)), fun _ hq => Or.inl hq⟩
  · intro q hq hm'
    simp at hm'
    obtain ⟨-, cur, hc⟩ := h.row.row.lt q hq
    obtain ⟨es, cl, h1⟩ := h.map.heap
    rw [hm', h1] at hc; cases hc
  · intro q hq cur hc
    exact h.noBy q (by simp at hq; subst hq; exact hm) cur hc

theorem Nx.priv {w w1 w2 : World} {b m : Nat} {v v1 : Value} {ps : List Pc} {c : Cnt} {k : Nat} {S : List Nat} (h : Nx w w1 b m v v1 ps c k) (hk : Kp S w1 w2) (hS : ∀ j ∈ S, w.heap.size ≤ j) (hf : ∀ j ∈ foot b m v1, j ∉ S) (hn : NoBy w1 S) : Nx w w2 b m v v1 ps c k :=
  ⟨h.ns.kp hk hf hn, h.kp.trans hk (fun j hj => Or.inr (hS j hj)), h.at_⟩

theorem Came.mono {w0 w w' w1 : World} {p : Pc} {x : Value} {S : List Nat} (h : Came w w' p x) (hs : w0.heap.size ≤ w.heap.size) (hk : Kp S w' w1) (hn : NoBy w' S) : Came w0 w1 p x := by
  obtain ⟨a', c', hx, hy, hf, hnn⟩ := h
  exact ⟨a', c', hx, hy.kp hk hn, fun ad h => Nat.le_trans hs (hf ad h), hnn⟩

set_option maxHeartbeats 4000000 in
set_option maxRecDepth 100000 in
theorem twin_ok (b m : Nat) (v : Value) (ps : List Pc) (c : Cnt) (k : Nat) (hk : k < 1000000) (w : World) (h : NS w b m v ps c k) (i : Nat) (hi : i < ps.length) :
    Calls Try.prog 21 #[.pointer (some ⟨b, 0, none⟩), .int .i64 (i : Int)] w fun e w' => ∃ x, e = .returned (.tuple #[x, .int .i64 0]) ∧ Came w w' ps[i] x ∧ Nx w w' b m v v ps { c with l := c.l + 1 } (k + 1) := by
  have h2 := hide (h.below ((Below.refl _ w).alloc (Nat.le_refl _) (.cells #[.bool false, .int .i64 0, .bool false, .int .i64 0, .slice none 0 0] 35)))
  have J := IsB.new w #[.bool false, .int .i64 0, .bool false, .int .i64 0, .slice none 0 0] 35
  generalize hp : ps[i] = p
  have HP := hide hp
  have hft := hide h.lt
  have h := hide h
  clear hp
  have hi := hide hi
  go_enter Try.func21, Try.ntmps21
  go_wp2_with fail
  refine (at_ok b m v ps c k _ h2.out i hi.out).mono ?_; rintro e w1 ⟨x, rfl, hcm, hb⟩
  rw [HP.out] at hcm
  clear HP
  have HC := hide hcm
  obtain ⟨a', c', rfl, -, -, -⟩ := hcm
  have HB := hide (((Below.refl _ w).alloc (Nat.le_refl _) (.cells #[.bool false, .int .i64 0, .bool false, .int .i64 0, .slice none 0 0] 35)).trans (hb.mono (by simp)))
  have J1 := J.below hb
  have hlt : w.heap.size < w1.heap.size := J1.lt
  have hblt : b < w1.heap.size := (h2.out.below hb).blk.lt
  have hN := hide (h2.out.below hb)
  obtain ⟨fa, fn, ta, tn, pa, pc, bs⟩ := p
  simp only [] at HC ⊢
  generalize hH : w.heap.size = H at *
  replace hH := hide hH
  obtain ⟨a0, a1, a2, a3, a4⟩ := J1.cells5
  obtain ⟨f0, f1, f2, f3, f4⟩ := J1.free5
  replace J1 := hide J1
  have hbl := hN.out.blk.cell 1
  simp at hbl
  clear J h2 hb
  have bel := (Below.refl w1.heap.size w1).alloc (Nat.le_refl _) (.cells #[.bool fa, .int .i64 fn, .bool ta, .int .i64 tn, .slice a' bs.length c'] 35)
  have hM := (hN.out.map.below bel)
  have hlk := hM.look.2.1
  have q0 := hN.out.c0.2.1
  have q1 := hN.out.c1.2.1
  obtain ⟨w3, hrun, hM3, hg3⟩ := hM.put1 (by omega) (c.l + 1) (by omega) (by omega)
  have L2 := IsB.new w1 #[.bool fa, .int .i64 fn, .bool ta, .int .i64 tn, .slice a' bs.length c'] 35
  have L3 := L2.grown hg3 (by simpa using hM.ne L2)
  have J3 := (J1.out.below bel).grown hg3 (by simpa using hM.ne (J1.out.below bel))
  obtain ⟨s0, s1, s2, s3, s4⟩ := L3.cells5
  obtain ⟨t0, t1, t2, t3, t4⟩ := J3.free5
  obtain ⟨u0, u1, u2, u3, u4⟩ := J3.cells5
  have HL3 := hide L3
  have HJ3 := hide J3
  clear L2 L3 J3
  replace hM3 := hide hM3
  replace hg3 := hide hg3
  clear hM
  generalize hcl : c.l = cl at *
  replace hcl := hide hcl
  go_wp2
  refine ret_pe (p := 4) (u := 5) (b := H) (v := .int .i64 0) Try.results21 ?_ ?_ HJ3.out ?_
  · rfl
  · rfl
  intro W hkW
  have hg := hg3.out
  have n1 : NoBy w1 [m] := fun q hq cur hc => hN.out.noBy q (by simp at hq; subst hq; simp [foot]) cur hc
  have k1 : Kp [m] w1 w3 := ((Kp.refl [m] w1).bel bel).grown hg (fun q hq => by simp at hq; simp [hq])
  have n3 : NoBy w3 [H] := noBy_new HJ3.out
  refine ⟨_, rfl, (HC.out.mono (w0 := w) (by simp) k1 n1).mono (Nat.le_refl _) hkW n3, ?_⟩
  have x1 : Nx w w1 b m v v ps c k := h.out.nx (by rw [hH.out]; exact HB.out)
  have x2 := (x1.bel bel).trans ((hN.out.below bel).counted hM3.out hg ⟨hN.out.c0.1, by simp only []; omega, hN.out.c0.2.2⟩ ⟨by have := hN.out.c1.1; simp only []; omega, by simp only []; omega, by have := hN.out.c1.2.2.1; simp only []; omega, by have := hN.out.c1.2.2.2; simp only []; omega⟩)
  rw [hcl.out]
  exact x2.priv hkW (by simp; have := hH.out; omega) (fun q hq => by have := hft.out q hq; have := hH.out; simp; omega) n3

end Go.Proofs.Ytoinjmddmahpkaa
