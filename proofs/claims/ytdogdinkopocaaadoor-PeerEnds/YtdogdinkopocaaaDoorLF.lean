/- Package lock: the calls of a lock that was made. -/
import Derived.Test.YtdogdinkopocaaaDoorLE
namespace Go.Proofs.YtdogdinkopocaaaDoor
open Go.RowKit Go.Maps

def hd (os : List Ow) : Ow := os.headD (0, 0)
theorem hd_get {os : List Ow} (h : 0 < os.length) : os[0] = hd os := by
  cases os with
  | nil => simp at h
  | cons p l => rfl
theorem LS.nat {w : World} {b : Nat} {v : Value} {os : List Ow} (h : LS w b v os) : ∃ va vc, v = .slice va os.length vc := by
  obtain ⟨va, vc, hv, -, -⟩ := h.row.shape
  exact ⟨va, vc, hv⟩

set_option maxHeartbeats 2000000 in
set_option maxRecDepth 100000 in
theorem holder_none (b : Nat) (v : Value) (w : World) (h : LS w b v []) : Calls Tryd.prog 72 #[.pointer (some ⟨b, 0, none⟩)] w fun e w' => e = .returned (.tuple #[.agg #[.int .i64 0, .int .i64 0], .bool false]) ∧ Below w.heap.size w w' := by
  have J := hide (IsB.new w #[.int .i64 0, .int .i64 0] 52)
  have HB := hide ((Below.refl w.heap.size w).alloc (Nat.le_refl _) (.cells #[.int .i64 0, .int .i64 0] 52))
  have h2 := hide (h.below ((Below.refl w.heap.size w).alloc (Nat.le_refl _) (.cells #[.int .i64 0, .int .i64 0] 52)))
  obtain ⟨va, vc, rfl⟩ := h.nat
  clear h
  go_enter Tryd.func72, Tryd.ntmps72
  go_wp2_with fail
  refine (made_yes b _ _ h2.out.blk).mono ?_; intro e w1 hE; obtain ⟨rfl, hw⟩ := hE
  rw [← hw] at J HB h2
  clear hw
  have b0 := h2.out.blk.cell 0
  have a0 := J.out.cell 0
  have a1 := J.out.cell 1
  have f0 := J.out.free 0
  have f1 := J.out.free 1
  simp at a0 a1 b0
  go_wp2
  refine ret_o1 (p := 2) (u := 3) (b := w.heap.size) Tryd.results72 rfl rfl (put2_is J.out (.int .i64 0) (.int .i64 0)) ?_
  exact ⟨rfl, (Kp.trans (Kp.of_below (S := []) HB.out) (put2_kp w1 w.heap.size _ _) (by simp)).to_below (Nat.le_refl _) (by simp)⟩

set_option maxHeartbeats 2000000 in
set_option maxRecDepth 100000 in
theorem holder_some (b : Nat) (v : Value) (os : List Ow) (hn : 0 < os.length) (w : World) (h : LS w b v os) : Calls Tryd.prog 72 #[.pointer (some ⟨b, 0, none⟩)] w fun e w' => e = .returned (.tuple #[.agg #[.int .i64 (hd os).1, .int .i64 (hd os).2], .bool true]) ∧ Below w.heap.size w w' := by
  have J := hide (IsB.new w #[.int .i64 0, .int .i64 0] 52)
  have HB := hide ((Below.refl w.heap.size w).alloc (Nat.le_refl _) (.cells #[.int .i64 0, .int .i64 0] 52))
  have h2 := hide (h.below ((Below.refl w.heap.size w).alloc (Nat.le_refl _) (.cells #[.int .i64 0, .int .i64 0] 52)))
  obtain ⟨g, cap, rfl, hcap, -, -⟩ := h.row.form hn
  have HD := hide (hd_get hn)
  clear h
  go_enter Tryd.func72, Tryd.ntmps72
  go_wp2_with fail
  refine (made_yes b _ _ h2.out.blk).mono ?_; intro e w1 hE; obtain ⟨rfl, hw⟩ := hE
  rw [← hw] at J HB h2
  clear hw
  have b0 := h2.out.blk.cell 0
  have a0 := J.out.cell 0
  have a1 := J.out.cell 1
  have f0 := J.out.free 0
  have f1 := J.out.free 1
  have r0 := h2.out.row.cellAt 0 (by omega)
  have r1 := h2.out.row.cellAt 1 (by omega)
  have q0 := (ows_get os 0 hn).1
  have q1 := (ows_get os 0 hn).2
  rw [HD.out] at q0 q1
  simp at a0 a1 b0 q0 q1
  rw [q0] at r0
  rw [q1] at r1
  clear q0 q1 HD
  generalize hL : os.length = L at *
  replace hL := hide hL
  go_wp2
  refine ret_o1 (p := 2) (u := 3) (b := w.heap.size) Tryd.results72 rfl rfl (put2_is J.out _ _) ?_
  exact ⟨rfl, (Kp.trans (Kp.of_below (S := []) HB.out) (put2_kp w1 w.heap.size _ _) (by simp)).to_below (Nat.le_refl _) (by simp)⟩

theorem holder_any (b : Nat) (v : Value) (os : List Ow) (w : World) (h : LS w b v os) : Calls Tryd.prog 72 #[.pointer (some ⟨b, 0, none⟩)] w fun e w' => e = .returned (.tuple #[.agg #[.int .i64 (hd os).1, .int .i64 (hd os).2], .bool (decide (0 < os.length))]) ∧ Below w.heap.size w w' := by
  by_cases hn : 0 < os.length
  · have := holder_some b v os hn w h
    simpa [hn] using this
  · obtain rfl : os = [] := List.eq_nil_of_length_eq_zero (by omega)
    exact holder_none b v w h

set_option maxHeartbeats 2000000 in
set_option maxRecDepth 100000 in
theorem waits_any (b : Nat) (v : Value) (os : List Ow) (w : World) (h : LS w b v os) : Calls Tryd.prog 82 #[.pointer (some ⟨b, 0, none⟩)] w fun e w' => ∃ x, e = .returned x ∧ Rw w' 52 2 x os.tail.length (ows os.tail) ∧ (∀ k, x.ownBlock = some k → w.heap.size ≤ k) ∧ Below w.heap.size w w' := by
  by_cases hn : 0 < os.length
  · have hlen := h.len
    have h2 := hide h
    obtain ⟨g, cap, rfl, hcap, -, -⟩ := h.row.form hn
    have b0 := h.blk.cell 0
    simp at b0
    have hT := h.tail 1 hn
    rw [List.drop_one] at hT
    have hT1 : Hid (cap = 1 → Sl w (.slice (some ⟨g, 0, none⟩) (os.length - 1) 0) os.tail) := fun e => by have := hT; rw [if_pos e, e] at this; exact this
    have hT2 : Hid (¬cap = 1 → Sl w (.slice (some ⟨g, 2, none⟩) (os.length - 1) (cap - 1)) os.tail) := fun e => by have := hT; rw [if_neg e] at this; exact this
    have hl : os.tail.length ≤ 100000 := by rw [List.length_tail]; omega
    replace hl := hide hl
    clear h hT
    generalize os.tail = tl at *
    generalize hL : os.length = L at *
    replace hL := hide hL
    go_enter Tryd.func82, Tryd.ntmps82
    go_wp2_with fail
    refine (made_yes b _ _ h2.out.blk).mono ?_; rintro e w1 ⟨rfl, rfl⟩
    go_wp2_with fail
    case inl =>
      refine (clone_any _ tl hl.out _ (hT1.out h)).mono ?_; rintro e w1 ⟨x, rfl, hx, hf, hb⟩
      replace hx := hide hx
      replace hf := hide hf
      replace hb := hide hb
      go_wp2
      go_ret
      exact ⟨x, rfl, hx.out, hf.out, hb.out⟩
    case inr =>
      refine (clone_any _ tl hl.out _ (hT2.out h)).mono ?_; rintro e w1 ⟨x, rfl, hx, hf, hb⟩
      replace hx := hide hx
      replace hf := hide hf
      replace hb := hide hb
      go_wp2
      go_ret
      exact ⟨x, rfl, hx.out, hf.out, hb.out⟩
  · obtain rfl : os = [] := List.eq_nil_of_length_eq_zero (by omega)
    have h2 := hide h
    obtain ⟨va, vc, rfl⟩ := h.nat
    have b0 := h.blk.cell 0
    simp at b0
    clear h
    go_enter Tryd.func82, Tryd.ntmps82
    go_wp2_with fail
    refine (made_yes b _ _ h2.out.blk).mono ?_; rintro e w1 ⟨rfl, rfl⟩
    go_wp2
    go_ret
    exact ⟨_, rfl, ⟨rfl, Or.inl ⟨rfl, rfl⟩⟩, fun k hk => by simp [Value.ownBlock] at hk, Below.refl _ _⟩

set_option maxHeartbeats 2000000 in
set_option maxRecDepth 100000 in
theorem end_any (b : Nat) (v : Value) (os : List Ow) (w : World) (h : LS w b v os) : Calls Tryd.prog 80 #[.pointer (some ⟨b, 0, none⟩)] w fun e w' => ∃ x, e = .returned (.tuple #[x, .int .i64 0]) ∧ Rw w' 52 2 x os.tail.length (ows os.tail) ∧ (∀ k, x.ownBlock = some k → w.heap.size ≤ k) ∧ Lx w w' b v (.slice none 0 0) [] := by
  have h2 := hide h
  clear h
  go_enter Tryd.func80, Tryd.ntmps80
  go_wp2_with fail
  refine (made_yes b _ _ h2.out.blk).mono ?_; rintro e w1 ⟨rfl, rfl⟩
  go_wp2_with fail
  refine (waits_any b v os _ h2.out).mono ?_; rintro e w2 ⟨x, rfl, hx, hf, hb⟩
  have B2 := hide (h2.out.blk.below hb)
  have b0 := B2.out.cell 0
  have f0 := B2.out.free 0
  simp at b0
  replace hx := hide hx
  replace hf := hide hf
  replace hb := hide hb
  go_wp2
  go_ret2
  have hne : ∀ k, x.ownBlock = some k → k ≠ b := fun k hk e => by
    have := hf.out k hk
    have := h2.out.blk.lt
    omega
  refine ⟨x, rfl, hx.out.kept fun k hk => Below.heap_setCell _ _ _ _ (hne k hk), hf.out, ⟨⟨by simpa using B2.out.set 0 (.slice none 0 0), ⟨rfl, Or.inl ⟨rfl, rfl⟩⟩, by simp⟩, (Kp.of_below hb.out).set _ _ (Or.inl (by simp)), fun q hq => by simp [Value.ownBlock] at hq⟩⟩

end Go.Proofs.YtdogdinkopocaaaDoor
