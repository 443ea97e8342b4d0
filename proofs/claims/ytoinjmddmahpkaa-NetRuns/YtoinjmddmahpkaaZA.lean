/- The document's network in memory (leapfrogref05.Net): what it is; IsAddr, is, At, Twin. -/
import Derived.Test.YtoinjmddmahpkaaNV
namespace Go.Proofs.Ytoinjmddmahpkaa
open Go.RowKit Go.Maps

/-- The document's network: its block, its row of parcels, its counts. -/
structure RS (w : World) (b : Nat) (v : Value) (ps : List Pc) (c : Cnt) (k : Nat) : Prop where
  blk : IsB w b #[v, .int .i64 c.p, .int .i64 c.l, .int .i64 c.d, .int .i64 c.r] 30
  row : PR w v ps
  len : ps.length ≤ 4096
  c0 : 0 ≤ c.p ∧ 0 ≤ c.l ∧ 0 ≤ c.d ∧ 0 ≤ c.r
  c1 : c.p ≤ k * 4096 ∧ c.l ≤ k * 4096 ∧ c.d ≤ k * 4096 ∧ c.r ≤ k * 4096
def rfoot (b : Nat) (v : Value) : List Nat := b :: v.ownBlock.toList
theorem RS.noBy {w : World} {b : Nat} {v : Value} {ps : List Pc} {c : Cnt} {k : Nat} (h : RS w b v ps c k) : NoBy w (rfoot b v) := by
  intro j hj cur hc
  unfold rfoot at hj
  simp only [List.mem_cons, Option.mem_toList] at hj
  rcases hj with rfl | hj
  · have := h.blk; unfold IsB at this; rw [hc] at this; injection this with this; injection this with _ this; cases this
  · obtain ⟨-, cur', h1⟩ := h.row.row.lt j hj; rw [hc] at h1; injection h1 with h1; injection h1 with _ h1; cases h1
theorem RS.kp {S : List Nat} {w w' : World} {b : Nat} {v : Value} {ps : List Pc} {c : Cnt} {k : Nat} (h : RS w b v ps c k) (hk : Kp S w w') (hn : ∀ j ∈ rfoot b v, j ∉ S) (hb : NoBy w S) : RS w' b v ps c k :=
  ⟨h.blk.kp hk (hn b (by simp [rfoot])), h.row.kp hk (fun j hj => hn j (by simp [rfoot, hj])) hb, h.len, h.c0, h.c1⟩
theorem RS.below {w w' : World} {b : Nat} {v : Value} {ps : List Pc} {c : Cnt} {k : Nat} (h : RS w b v ps c k) (hb : Below w.heap.size w w') : RS w' b v ps c k :=
  ⟨h.blk.below hb, h.row.below hb, h.len, h.c0, h.c1⟩
theorem RS.lt {w : World} {b : Nat} {v : Value} {ps : List Pc} {c : Cnt} {k : Nat} (h : RS w b v ps c k) : ∀ j ∈ rfoot b v, j < w.heap.size := by
  intro j hj
  unfold rfoot at hj
  simp only [List.mem_cons, Option.mem_toList] at hj
  rcases hj with rfl | hj
  · exact h.blk.lt
  · exact (h.row.row.lt j hj).1
/-- What a call makes of it. -/
structure Rx (w w' : World) (b : Nat) (v v' : Value) (ps' : List Pc) (c' : Cnt) (k' : Nat) : Prop where
  rs : RS w' b v' ps' c' k'
  kp : Kp (rfoot b v) w w'
  at_ : ∀ q, v'.ownBlock = some q → v.ownBlock = some q ∨ w.heap.size ≤ q
theorem Rx.trans {w w1 w2 : World} {b : Nat} {v v1 v2 : Value} {ps1 ps2 : List Pc} {c1 c2 : Cnt} {k1 k2 : Nat} (h : Rx w w1 b v v1 ps1 c1 k1) (g : Rx w1 w2 b v1 v2 ps2 c2 k2) : Rx w w2 b v v2 ps2 c2 k2 := by
  refine ⟨g.rs, h.kp.trans g.kp ?_, ?_⟩
  · intro j hj
    unfold rfoot at hj ⊢
    simp only [List.mem_cons, Option.mem_toList] at hj ⊢
    rcases hj with rfl | hj
    · exact Or.inl (Or.inl rfl)
    · rcases h.at_ j hj with h1 | h1
      · exact Or.inl (Or.inr h1)
      · exact Or.inr h1
  · intro q hq
    rcases g.at_ q hq with h1 | h1
    · exact h.at_ q h1
    · exact Or.inr (Nat.le_trans h.kp.size h1)
theorem Rx.bel {w w1 w2 : World} {b : Nat} {v v1 : Value} {ps1 : List Pc} {c1 : Cnt} {k1 : Nat} (h : Rx w w1 b v v1 ps1 c1 k1) (hb : Below w1.heap.size w1 w2) : Rx w w2 b v v1 ps1 c1 k1 := ⟨h.rs.below hb, h.kp.bel hb, h.at_⟩
theorem Rx.priv {w w1 w2 : World} {b : Nat} {v v1 : Value} {ps : List Pc} {c : Cnt} {k : Nat} {S : List Nat} (h : Rx w w1 b v v1 ps c k) (hk : Kp S w1 w2) (hS : ∀ j ∈ S, w.heap.size ≤ j) (hf : ∀ j ∈ rfoot b v1, j ∉ S) (hn : NoBy w1 S) : Rx w w2 b v v1 ps c k :=
  ⟨h.rs.kp hk hf hn, h.kp.trans hk (fun j hj => Or.inr (hS j hj)), h.at_⟩
theorem RS.rx {w w' : World} {b : Nat} {v : Value} {ps : List Pc} {c : Cnt} {k : Nat} (h : RS w b v ps c k) (hb : Below w.heap.size w w') : Rx w w' b v v ps c k := ⟨h.below hb, Kp.of_below hb, fun _ hq => Or.inl hq⟩
theorem RS.cells {w : World} {b : Nat} {v : Value} {ps : List Pc} {c : Cnt} {k : Nat} (h : RS w b v ps c k) (j : Nat) (hj : j < ps.length) : ∃ g cap, v = .slice (some ⟨g, 0, none⟩) ps.length cap ∧ ps.length ≤ cap ∧ cap ≤ maxLen ∧
    w.cell? ⟨g, j * 5, none⟩ = some (.bool ps[j].fa) ∧ w.cell? ⟨g, j * 5 + 1, none⟩ = some (.int .i64 ps[j].fn) ∧ w.cell? ⟨g, j * 5 + 2, none⟩ = some (.bool ps[j].ta) ∧ w.cell? ⟨g, j * 5 + 3, none⟩ = some (.int .i64 ps[j].tn) ∧ w.cell? ⟨g, j * 5 + 4, none⟩ = some (.slice ps[j].a ps[j].bs.length ps[j].cap) := by
  obtain ⟨g, cap, rfl, h1, h2, -⟩ := h.row.row.form (by omega)
  have key : ∀ i, i < 5 → w.cell? ⟨g, j * 5 + i, none⟩ = ps[j].cs[i]? := fun i hi => by
    rw [h.row.row.cellAt (j * 5 + i) (by omega)]; exact pcs_get ps j hj i hi
  exact ⟨g, cap, rfl, h1, h2, key 0 (by omega), key 1 (by omega), key 2 (by omega), key 3 (by omega), key 4 (by omega)⟩

set_option maxHeartbeats 800000 in
theorem isAddr_any (g : Bool) (n : Int) (w : World) : Calls Try.prog 13 #[.agg #[.bool g, .int .i64 n]] w fun e w' => e = .returned (.bool (okA n)) ∧ Below w.heap.size w w' := by
  have fin : Below w.heap.size w (w.alloc (.cells #[.bool g, .int .i64 n] 32)) := (Below.refl _ _).alloc (Nat.le_refl _) _
  by_cases h0 : 0 ≤ n
  · have e : okA n = decide (n < 1024) := by unfold okA; simp [h0]
    rw [e]; clear e
    go_enter Try.func13, Try.ntmps13
    go_wp2
    go_ret
    exact ⟨by simp, fin⟩
  · have e : okA n = false := by unfold okA; simp; omega
    rw [e]; clear e
    have h1 : n < 0 := by omega
    go_enter Try.func13, Try.ntmps13
    go_wp2
    go_ret
    exact ⟨by simp, fin⟩

set_option maxHeartbeats 800000 in
theorem ris_any (b : Nat) (v : Value) (ps : List Pc) (c : Cnt) (k : Nat) (i : Int) (w : World) (h : RS w b v ps c k) : Calls Try.prog 41 #[.pointer (some ⟨b, 0, none⟩), .int .i64 i] w fun e w' => e = .returned (.bool (inR ps.length i)) ∧ w' = w := by
  obtain ⟨a, cap, rfl, -, -⟩ := h.row.row.shape
  have h0 := h.blk.cell 0
  simp at h0
  have hl := h.len
  clear h
  generalize ps.length = n at *
  by_cases hi : 0 ≤ i
  · have e : inR n i = decide (i < (n : Int)) := by unfold inR; simp [hi]
    rw [e]; clear e
    go_enter Try.func41, Try.ntmps41
    go_wp2
    go_ret
    exact ⟨by simp, rfl⟩
  · have e : inR n i = false := by unfold inR; simp; omega
    rw [e]; clear e
    have h1 : i < 0 := by omega
    go_enter Try.func41, Try.ntmps41
    go_wp2
    go_ret
    exact ⟨by simp, rfl⟩

set_option maxHeartbeats 2000000 in
set_option maxRecDepth 100000 in
theorem rat_bad (b : Nat) (v : Value) (ps : List Pc) (c : Cnt) (k : Nat) (w : World) (h : RS w b v ps c k) (i : Int) (hi : inR ps.length i = false) :
    Calls Try.prog 31 #[.pointer (some ⟨b, 0, none⟩), .int .i64 i] w fun e w' => e = .returned (zeroE 5) ∧ Below w.heap.size w w' := by
  have bel := (Below.refl w.heap.size w).alloc (Nat.le_refl _) (.cells #[.bool false, .int .i64 0, .bool false, .int .i64 0, .slice none 0 0] 35)
  have h2 := hide (h.below bel)
  have J := hide (IsB.new w #[.bool false, .int .i64 0, .bool false, .int .i64 0, .slice none 0 0] 35)
  have HB := hide ((Kp.refl [] w).alloc (.cells #[.bool false, .int .i64 0, .bool false, .int .i64 0, .slice none 0 0] 35))
  clear h bel
  go_enter Try.func31, Try.ntmps31
  go_wp2_with fail
  refine (ris_any b v ps c k i _ h2.out).mono ?_
  intro e w1 hE; obtain ⟨rfl, hw⟩ := hE
  rw [hi]
  rw [← hw] at J HB
  clear hw h2
  obtain ⟨a0, a1, a2, a3, a4⟩ := J.out.cells5
  obtain ⟨f0, f1, f2, f3, f4⟩ := J.out.free5
  go_wp2
  refine ret_pe (p := 4) (u := 5) (b := w.heap.size) (v := .int .i64 5) Try.results31 ?_ ?_ J.out ?_
  · rfl
  · rfl
  intro W hk
  exact ⟨rfl, (HB.out.trans hk (by simp)).to_below (Nat.le_refl _) (by simp)⟩

/-- A parcel as a value. -/
def Pc.v5 (p : Pc) : Value := .agg #[.bool p.fa, .int .i64 p.fn, .bool p.ta, .int .i64 p.tn, .slice p.a p.bs.length p.cap]

set_option maxHeartbeats 2000000 in
set_option maxRecDepth 100000 in
theorem rat_ok (b : Nat) (v : Value) (ps : List Pc) (c : Cnt) (k : Nat) (w : World) (h : RS w b v ps c k) (i : Nat) (hi : i < ps.length) :
    Calls Try.prog 31 #[.pointer (some ⟨b, 0, none⟩), .int .i64 (i : Int)] w fun e w' => e = .returned (.tuple #[ps[i].v5, .int .i64 0]) ∧ Below w.heap.size w w' := by
  have bel := (Below.refl w.heap.size w).alloc (Nat.le_refl _) (.cells #[.bool false, .int .i64 0, .bool false, .int .i64 0, .slice none 0 0] 35)
  have h2 := hide (h.below bel)
  have J := hide (IsB.new w #[.bool false, .int .i64 0, .bool false, .int .i64 0, .slice none 0 0] 35)
  have HB := hide ((Kp.refl [] w).alloc (.cells #[.bool false, .int .i64 0, .bool false, .int .i64 0, .slice none 0 0] 35))
  have hin : inR ps.length (i : Int) = true := by simp [inR]; omega
  have hlen := h.len
  generalize hp : ps[i] = p
  have HP := hide hp
  clear h bel hp
  go_enter Try.func31, Try.ntmps31
  go_wp2_with fail
  refine (ris_any b v ps c k _ _ h2.out).mono ?_
  intro e w1 hE; obtain ⟨rfl, hw⟩ := hE
  rw [hin]
  rw [← hw] at J HB h2
  clear hw hin
  obtain ⟨g, cap, rfl, hcap, hmax, c0, c1, c2, c3, c4⟩ := h2.out.cells i hi
  rw [HP.out] at c0 c1 c2 c3 c4
  clear HP
  have hb0 := h2.out.blk.cell 0
  simp at hb0
  obtain ⟨fa, fn, ta, tn, a, cp, bs⟩ := p
  simp only [] at *
  obtain ⟨a0, a1, a2, a3, a4⟩ := J.out.cells5
  obtain ⟨f0, f1, f2, f3, f4⟩ := J.out.free5
  clear h2
  go_wp2
  refine ret_pe (p := 4) (u := 5) (b := w.heap.size) (v := .int .i64 0) Try.results31 ?_ ?_ J.out ?_
  · rfl
  · rfl
  intro W hk
  exact ⟨rfl, (HB.out.trans hk (by simp)).to_below (Nat.le_refl _) (by simp)⟩

end Go.Proofs.Ytoinjmddmahpkaa
