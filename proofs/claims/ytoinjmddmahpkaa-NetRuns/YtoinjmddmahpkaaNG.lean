/- Package net: checkPlaces, At, Twin. -/
import Derived.Test.YtoinjmddmahpkaaNF
namespace Go.Proofs.Ytoinjmddmahpkaa
open Go.RowKit Go.Maps

/-- Is there a parcel at this place? -/
def inR (n : Nat) (i : Int) : Bool := decide (0 ≤ i ∧ i < n)

set_option maxHeartbeats 4000000 in
set_option maxRecDepth 100000 in
theorem places_any (b m : Nat) (v : Value) (ps : List Pc) (c : Cnt) (k : Nat) (w : World) (h : NS w b m v ps c k) (x cap : Nat) (is : List Int) (hx : ∀ j (hj : j < is.length), w.cell? ⟨x, j, none⟩ = some (.int .i64 is[j])) (hl : is.length ≤ 2) :
    Calls Try.prog 35 #[.pointer (some ⟨b, 0, none⟩), .slice (some ⟨x, 0, none⟩) is.length cap] w fun e w' => e = .returned (.int .i64 (if is.all (inR ps.length) then 0 else 5)) ∧ w' = w := by
  obtain ⟨a, cp, rfl, -, -⟩ := h.row.row.shape
  have h0 := h.blk.cell 0
  simp at h0
  have hb := hide h.blk
  have hX := hide hx
  have hN : ps.length ≤ 4096 := h.len
  clear h hx
  generalize ps.length = n at *
  go_enter Try.func35, Try.ntmps35
  go_wp2_with fail
  refine (made_yes b m _ w hb.out).mono ?_; rintro e w1 ⟨rfl, rfl⟩
  go_wp2
  go_loop [12] (fun i => ∃ j : Nat, j ≤ is.length ∧ i = .int .i64 (j : Int) ∧ Hid (∀ q (_ : q < j) (hq : q < is.length), inR n is[q] = true)) (fun i => is.length - (intOf i).toNat)
  case atStart => exact ⟨0, by omega, rfl, fun q h _ => by omega⟩
  case round =>
    obtain ⟨j, hj, rfl, HQ⟩ := hrel
    by_cases hlt : j < is.length
    · have hc := hX.out j hlt
      have HI := hide (List.getElem_mem hlt)
      have HQ2 : inR n is[j] = true → Hid (∀ q (_ : q < j + 1) (hq : q < is.length), inR n is[q] = true) := fun h q h1 h2 => by
        by_cases e : q = j
        · subst e; exact h
        · exact HQ.out q (by omega) h2
      replace HQ2 := hide HQ2
      generalize is[j] = i at *
      by_cases c0 : i < 0
      · have e5 : is.all (inR n) = false := by
          rw [List.all_eq_false]; exact ⟨i, HI.out, by unfold inR; simp; omega⟩
        go_wp2
        go_ret
        exact ⟨by first | rfl | (rw [e5]; rfl), rfl⟩
      · by_cases c1 : (n : Int) ≤ i
        · have e5 : is.all (inR n) = false := by
            rw [List.all_eq_false]; exact ⟨i, HI.out, by unfold inR; simp; omega⟩
          go_wp2
          go_ret
          exact ⟨by first | rfl | (rw [e5]; rfl), rfl⟩
        · have e6 : inR n i = true := by unfold inR; simp; omega
          have HQ3 := HQ2.out e6
          clear e6
          go_wp2
          exact ⟨⟨j + 1, by omega, by simp, HQ3⟩, by simp [intOf]; omega⟩
    · have e0 : is.all (inR n) = true := by
        rw [List.all_eq_true]
        intro i hi
        obtain ⟨q, hq, rfl⟩ := List.getElem_of_mem hi
        exact HQ.out q (by omega) hq
      go_wp2
      go_ret
      exact ⟨by first | rfl | (rw [e0]; rfl), rfl⟩

theorem By.nil {w : World} {a : Option Addr} {cap : Nat} {l : List Int} (h : By w a cap l) : a = none → cap = 0 := by
  intro e
  subst e
  rcases h.1.2 with ⟨h1, h2⟩ | ⟨g, c, cur, h1, hg, _⟩
  · injection h1
  · injection h1 with h1 _ _; cases h1
/-- What is handed out of a parcel: its cells, its bytes in a block that is new. -/
def Came (w w' : World) (p : Pc) (x : Value) : Prop := ∃ a' c', x = .agg #[.bool p.fa, .int .i64 p.fn, .bool p.ta, .int .i64 p.tn, .slice a' p.bs.length c'] ∧ By w' a' c' p.bs ∧ (∀ ad, a' = some ad → w.heap.size ≤ ad.block) ∧ (a' = none → c' = 0)

theorem NS.cells {w : World} {b m : Nat} {v : Value} {ps : List Pc} {c : Cnt} {k : Nat} (h : NS w b m v ps c k) (j : Nat) (hj : j < ps.length) : ∃ g cap, v = .slice (some ⟨g, 0, none⟩) ps.length cap ∧ ps.length ≤ cap ∧ cap ≤ maxLen ∧
    w.cell? ⟨g, j * 5, none⟩ = some (.bool ps[j].fa) ∧ w.cell? ⟨g, j * 5 + 1, none⟩ = some (.int .i64 ps[j].fn) ∧ w.cell? ⟨g, j * 5 + 2, none⟩ = some (.bool ps[j].ta) ∧ w.cell? ⟨g, j * 5 + 3, none⟩ = some (.int .i64 ps[j].tn) ∧ w.cell? ⟨g, j * 5 + 4, none⟩ = some (.slice ps[j].a ps[j].bs.length ps[j].cap) := by
  obtain ⟨g, cap, rfl, h1, h2, -⟩ := h.row.row.form (by omega)
  have key : ∀ i, i < 5 → w.cell? ⟨g, j * 5 + i, none⟩ = ps[j].cs[i]? := fun i hi => by
    rw [h.row.row.cellAt (j * 5 + i) (by omega)]; exact pcs_get ps j hj i hi
  exact ⟨g, cap, rfl, h1, h2, key 0 (by omega), key 1 (by omega), key 2 (by omega), key 3 (by omega), key 4 (by omega)⟩

def zp : Array Value := #[.bool false, .int .i64 0, .bool false, .int .i64 0, .slice none 0 0]

set_option maxHeartbeats 2000000 in
set_option maxRecDepth 100000 in
theorem at_bad (b m : Nat) (v : Value) (ps : List Pc) (c : Cnt) (k : Nat) (w : World) (h : NS w b m v ps c k) (i : Int) (hi : inR ps.length i = false) :
    Calls Try.prog 14 #[.pointer (some ⟨b, 0, none⟩), .int .i64 i] w fun e w' => e = .returned (zeroE 5) ∧ Below w.heap.size w w' := by
  have h2 := hide ((h.below ((Below.refl _ w).alloc (Nat.le_refl _) (.cells #[.bool false, .int .i64 0, .bool false, .int .i64 0, .slice none 0 0] 35))).below ((Below.refl _ _).alloc (Nat.le_refl _) (.cells #[.int .i64 i] 3)))
  have J := hide ((IsB.new w #[.bool false, .int .i64 0, .bool false, .int .i64 0, .slice none 0 0] 35).below ((Below.refl _ _).alloc (Nat.le_refl _) (.cells #[.int .i64 i] 3)))
  have X := hide (IsB.new (w.alloc (.cells #[.bool false, .int .i64 0, .bool false, .int .i64 0, .slice none 0 0] 35)) #[.int .i64 i] 3)
  have e5 : (if [i].all (inR ps.length) then (0 : Int) else 5) = 5 := by simp [hi]
  clear h
  go_enter Try.func14, Try.ntmps14
  go_wp2_with fail
  refine (places_any b m v ps c k _ h2.out (w.heap.size + 1) 1 [i] (fun j hj => ?_) (by simp)).mono ?_
  · obtain rfl : j = 0 := by simpa using hj
    simp
  intro e w1 hE; obtain ⟨rfl, hw⟩ := hE
  rw [e5]
  rw [← hw] at J
  have HB := hide (((Kp.refl [] w).alloc (.cells #[.bool false, .int .i64 0, .bool false, .int .i64 0, .slice none 0 0] 35)).alloc (.cells #[.int .i64 i] 3))
  rw [← hw] at HB
  clear hw h2 e5 X
  obtain ⟨a0, a1, a2, a3, a4⟩ := J.out.cells5
  obtain ⟨f0, f1, f2, f3, f4⟩ := J.out.free5
  go_wp2
  refine ret_pe (p := 4) (u := 5) (b := w.heap.size) (v := .int .i64 5) Try.results14 ?_ ?_ J.out ?_
  · rfl
  · rfl
  intro W hk
  exact ⟨rfl, (HB.out.trans hk (by simp)).to_below (Nat.le_refl _) (by simp)⟩

set_option maxHeartbeats 2000000 in
set_option maxRecDepth 100000 in
theorem at_ok (b m : Nat) (v : Value) (ps : List Pc) (c : Cnt) (k : Nat) (w : World) (h : NS w b m v ps c k) (i : Nat) (hi : i < ps.length) :
    Calls Try.prog 14 #[.pointer (some ⟨b, 0, none⟩), .int .i64 (i : Int)] w fun e w' => ∃ x, e = .returned (.tuple #[x, .int .i64 0]) ∧ Came w w' ps[i] x ∧ Below w.heap.size w w' := by
  have h2 := hide ((h.below ((Below.refl _ w).alloc (Nat.le_refl _) (.cells #[.bool false, .int .i64 0, .bool false, .int .i64 0, .slice none 0 0] 35))).below ((Below.refl _ _).alloc (Nat.le_refl _) (.cells #[.int .i64 (i : Int)] 3)))
  have J := hide ((IsB.new w #[.bool false, .int .i64 0, .bool false, .int .i64 0, .slice none 0 0] 35).below ((Below.refl _ _).alloc (Nat.le_refl _) (.cells #[.int .i64 (i : Int)] 3)))
  have X := hide (IsB.new (w.alloc (.cells #[.bool false, .int .i64 0, .bool false, .int .i64 0, .slice none 0 0] 35)) #[.int .i64 (i : Int)] 3)
  have e5 : (if [(i : Int)].all (inR ps.length) then (0 : Int) else 5) = 0 := by simp [inR]; omega
  have hlen := h.len
  generalize hp : ps[i] = p
  have HP := hide hp
  clear h hp
  go_enter Try.func14, Try.ntmps14
  go_wp2_with fail
  refine (places_any b m v ps c k _ h2.out (w.heap.size + 1) 1 [(i : Int)] (fun j hj => ?_) (by simp)).mono ?_
  · obtain rfl : j = 0 := by simpa using hj
    simp
  intro e w1 hE; obtain ⟨rfl, hw⟩ := hE
  rw [e5]
  rw [← hw] at J h2
  have HB := hide (((Kp.refl [] w).alloc (.cells #[.bool false, .int .i64 0, .bool false, .int .i64 0, .slice none 0 0] 35)).alloc (.cells #[.int .i64 (i : Int)] 3))
  rw [← hw] at HB
  clear hw e5 X
  have hBy := hide (h2.out.row.by_ ps[i] (List.getElem_mem hi))
  obtain ⟨g, cap, rfl, hcap, hmax, c0, c1, c2, c3, c4⟩ := h2.out.cells i hi
  have hb0 := h2.out.blk.cell 0
  simp at hb0
  rw [HP.out] at hBy c0 c1 c2 c3 c4
  clear HP
  obtain ⟨fa, fn, ta, tn, a, cp, bs⟩ := p
  simp only [] at *
  obtain ⟨a0, a1, a2, a3, a4⟩ := J.out.cells5
  obtain ⟨f0, f1, f2, f3, f4⟩ := J.out.free5
  clear h2
  go_wp2_with fail
  clear a0 a1 a2 a3 a4 f0 f1 f2 f3 f4 c0 c1 c2 c3 c4 hb0
  refine (own_any fa fn ta tn a cp bs hBy.out.2 hBy.out.nil w1 hBy.out.rd).mono ?_
  rintro e w2 ⟨a', c', rfl, hby, hfr, hnn, hb⟩
  have J2 := hide (J.out.below hb)
  obtain ⟨a0, a1, a2, a3, a4⟩ := J2.out.cells5
  obtain ⟨f0, f1, f2, f3, f4⟩ := J2.out.free5
  have HB2 := hide (HB.out.bel hb)
  have HY := hide hby
  have HF := hide hfr
  have HN := hide hnn
  clear hby hfr hnn hb
  go_wp2
  refine ret_pe (p := 4) (u := 5) (b := w.heap.size) (v := .int .i64 0) Try.results14 ?_ ?_ J2.out ?_
  · rfl
  · rfl
  intro W hk
  refine ⟨_, rfl, ⟨a', c', rfl, HY.out.kp hk (noBy_new J2.out), fun ad h => Nat.le_trans HB.out.size (HF.out ad h), HN.out⟩, (HB2.out.trans hk (by simp)).to_below (Nat.le_refl _) (by simp)⟩

end Go.Proofs.Ytoinjmddmahpkaa
