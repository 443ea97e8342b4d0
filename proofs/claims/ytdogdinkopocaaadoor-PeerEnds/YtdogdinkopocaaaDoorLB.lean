/- Package lock: owners, rows of them; a lock in memory; the smallest functions. -/
import Derived.Test.YtdogdinkopocaaaDoorLA
namespace Go.Proofs.YtdogdinkopocaaaDoor
open Go.RowKit Go.Maps

/-- Owners, as cells. -/
abbrev Ow := Int × Int
def ows : List Ow → List Value
  | [] => []
  | p :: l => .int .i64 p.1 :: .int .i64 p.2 :: ows l
theorem ows_len : ∀ l : List Ow, (ows l).length = l.length * 2
  | [] => rfl
  | _ :: l => by simp [ows, ows_len l]; omega
theorem ows_app : ∀ l m : List Ow, ows (l ++ m) = ows l ++ ows m
  | [], _ => rfl
  | _ :: l, m => by simp [ows, ows_app l m]
theorem ows_drop : ∀ (n : Nat) (l : List Ow), (ows l).drop (n * 2) = ows (l.drop n)
  | 0, l => by simp
  | n + 1, [] => by simp [ows]
  | n + 1, p :: l => by
    rw [show (n + 1) * 2 = n * 2 + 1 + 1 by omega]
    simp [ows, ows_drop n l]
theorem ows_take : ∀ (n : Nat) (l : List Ow), (ows l).take (n * 2) = ows (l.take n)
  | 0, l => by simp [ows]
  | n + 1, [] => by simp [ows]
  | n + 1, p :: l => by
    rw [show (n + 1) * 2 = n * 2 + 1 + 1 by omega]
    simp [ows, ows_take n l]
theorem ows_get : ∀ (l : List Ow) (j : Nat) (hj : j < l.length), (ows l)[j * 2]? = some (.int .i64 l[j].1) ∧ (ows l)[j * 2 + 1]? = some (.int .i64 l[j].2)
  | p :: l, 0, _ => by simp [ows]
  | p :: l, j + 1, hj => by
    have := ows_get l j (by simpa using hj)
    rw [show (j + 1) * 2 = j * 2 + 1 + 1 by omega]
    simpa [ows] using this
theorem ows_one : ∀ (l : List Ow), ∀ u ∈ ows l, u.oneCell' = true
  | [], u, h => by simp [ows] at h
  | p :: l, u, h => by
    simp only [ows, List.mem_cons] at h
    rcases h with rfl | rfl | h
    · rfl
    · rfl
    · exact ows_one l u h

theorem add_none (g o j : Nat) : (⟨g, o, none⟩ : Addr).add j = ⟨g, o + j, none⟩ := by unfold Addr.add; split <;> simp_all

/-- The owners l can be read from a on. -/
def RdO (w : World) (a : Option Addr) (l : List Ow) : Prop := (a = none ∧ l = []) ∨ ∃ ad, a = some ad ∧ ∀ j u, (ows l)[j]? = some u → w.cell? (ad.add j) = some u
/-- A slice of these owners, at a block's own cells. -/
def Sl (w : World) (v : Value) (l : List Ow) : Prop := (v = .slice none 0 0 ∧ l = []) ∨ ∃ g o c, v = .slice (some ⟨g, o, none⟩) l.length c ∧ l.length ≤ c ∧ c ≤ maxLen ∧ g < w.heap.size ∧ ∀ j u, (ows l)[j]? = some u → w.cell? ⟨g, o + j, none⟩ = some u
theorem Sl.kept {w w' : World} {v : Value} {l : List Ow} (h : Sl w v l) (hs : w.heap.size ≤ w'.heap.size) (hk : ∀ k, v.ownBlock = some k → w'.heap[k]? = w.heap[k]?) : Sl w' v l := by
  rcases h with h | ⟨g, o, c, rfl, h1, h2, h3, h4⟩
  · exact Or.inl h
  · refine Or.inr ⟨g, o, c, rfl, h1, h2, by omega, fun j u hu => ?_⟩
    rw [World.cell?_of_block (w := w) (w' := w') (a := ⟨g, o + j, none⟩) (hk g rfl)]
    exact h4 j u hu
theorem Sl.below {w w' : World} {v : Value} {l : List Ow} (h : Sl w v l) (hb : Below w.heap.size w w') : Sl w' v l := by
  refine h.kept hb.size fun k hk => ?_
  rcases h with ⟨rfl, -⟩ | ⟨g, o, c, rfl, h1, h2, h3, h4⟩
  · cases hk
  · have : g = k := by simpa [Value.ownBlock] using hk
    subst this
    exact hb.block _ h3
theorem Sl.kp {S : List Nat} {w w' : World} {v : Value} {l : List Ow} (h : Sl w v l) (hb : Kp S w w') (hn : ∀ k, v.ownBlock = some k → k ∉ S) : Sl w' v l := by
  refine h.kept hb.size fun k hk => ?_
  rcases h with ⟨rfl, -⟩ | ⟨g, o, c, rfl, h1, h2, h3, h4⟩
  · cases hk
  · have : g = k := by simpa [Value.ownBlock] using hk
    subst this
    exact hb.block _ h3 (hn _ rfl)
theorem Sl.shape {w : World} {v : Value} {l : List Ow} (h : Sl w v l) : ∃ a c, v = .slice a l.length c ∧ l.length ≤ c ∧ c ≤ maxLen := by
  rcases h with ⟨rfl, rfl⟩ | ⟨g, o, c, rfl, h1, h2, h3, h4⟩
  · exact ⟨none, 0, rfl, Nat.le_refl _, by unfold maxLen; omega⟩
  · exact ⟨_, c, rfl, h1, h2⟩
theorem Sl.cells {w : World} {v : Value} {l : List Ow} (h : Sl w v l) (j : Nat) (hj : j < l.length) : ∃ g o c, v = .slice (some ⟨g, o, none⟩) l.length c ∧ l.length ≤ c ∧ c ≤ maxLen ∧ w.cell? ⟨g, o + j * 2, none⟩ = some (.int .i64 l[j].1) ∧ w.cell? ⟨g, o + j * 2 + 1, none⟩ = some (.int .i64 l[j].2) := by
  rcases h with ⟨rfl, rfl⟩ | ⟨g, o, c, rfl, h1, h2, h3, h4⟩
  · simp at hj
  · exact ⟨g, o, c, rfl, h1, h2, h4 _ _ (ows_get l j hj).1, h4 _ _ (ows_get l j hj).2⟩
theorem Rw.sl {w : World} {v : Value} {l : List Ow} (h : Rw w 52 2 v l.length (ows l)) : Sl w v l := by
  rcases h.2 with ⟨rfl, h0⟩ | ⟨g, cap, cur, rfl, hg, h1, h2, h3⟩
  · exact Or.inl ⟨rfl, List.eq_nil_of_length_eq_zero h0⟩
  · refine Or.inr ⟨g, 0, cap, rfl, h1, h2, lt_of_heap hg, fun j u hu => ?_⟩
    have hj : j < l.length * 2 := by rw [← ows_len]; exact (List.getElem?_eq_some_iff.1 hu).1
    rw [Nat.zero_add, h.cellAt j hj]
    exact hu

/-- Which pointers are no lock: nil, and one to a lock that nobody made. -/
def NoLock (w : World) (p : Value) : Prop := p = .pointer none ∨ ∃ b, p = .pointer (some ⟨b, 0, none⟩) ∧ IsB w b #[.slice none 0 0, .bool false] 154
theorem NoLock.below {w w' : World} {p : Value} (h : NoLock w p) (hb : Below w.heap.size w w') : NoLock w' p := by
  rcases h with h | ⟨b, h, hi⟩
  · exact Or.inl h
  · exact Or.inr ⟨b, h, hi.below hb⟩
theorem NoLock.alloc {w : World} {p : Value} (h : NoLock w p) (o : Obj) : NoLock (w.alloc o) p := h.below ((Below.refl _ _).alloc (Nat.le_refl _) o)

theorem ptr_nil_nil (w : World) : (binOp .neq 126 (.pointer none) (.pointer none)).run Tryd.prog w = .ok (.bool false) w := by kernel_rfl
theorem ptr_some_nil (a : Addr) (w : World) : (binOp .neq 126 (.pointer (some a)) (.pointer none)).run Tryd.prog w = .ok (.bool true) w := by kernel_rfl
theorem ptr_eq_nil (a : Addr) (w : World) : (binOp .eql 126 (.pointer (some a)) (.pointer none)).run Tryd.prog w = .ok (.bool false) w := by kernel_rfl

set_option maxHeartbeats 800000 in
theorem made_no (p : Value) (w : World) (h : NoLock w p) : Calls Tryd.prog 84 #[p] w fun e w' => e = .returned (.bool false) ∧ w' = w := by
  rcases h with rfl | ⟨b, rfl, hb⟩
  · go_enter Tryd.func84, Tryd.ntmps84
    go_wp2
    go_ret
    exact ⟨rfl, rfl⟩
  · have h1 := hb.cell 1
    simp at h1
    go_enter Tryd.func84, Tryd.ntmps84
    go_wp2
    go_ret
    exact ⟨rfl, rfl⟩

set_option maxHeartbeats 800000 in
theorem made_yes (b : Nat) (v : Value) (w : World) (hb : IsB w b #[v, .bool true] 154) : Calls Tryd.prog 84 #[.pointer (some ⟨b, 0, none⟩)] w fun e w' => e = .returned (.bool true) ∧ w' = w := by
  have h1 := hb.cell 1
  simp at h1
  go_enter Tryd.func84, Tryd.ntmps84
  go_wp2
  go_ret
  exact ⟨rfl, rfl⟩

/-- May an owner be? -/
def okO (a o : Int) : Bool := decide (0 ≤ a ∧ a < 1024 ∧ 1 ≤ o ∧ o ≤ 1073741824)
def chE (a o : Int) : Int := if okO a o then 0 else 70
theorem chE_yes {a o : Int} (h : okO a o = true) : chE a o = 0 := by simp [chE, h]
theorem chE_no {a o : Int} (h : okO a o = false) : chE a o = 70 := by simp [chE, h]

set_option maxHeartbeats 800000 in
theorem check_any (a o : Int) (w : World) : Calls Tryd.prog 71 #[.agg #[.int .i64 a, .int .i64 o]] w fun e w' => e = .returned (.int .i64 (chE a o)) ∧ Below w.heap.size w w' := by
  have fin : Below w.heap.size w (w.alloc (.cells #[.int .i64 a, .int .i64 o] 52)) := (Below.refl _ _).alloc (Nat.le_refl _) _
  by_cases h0 : a < 0
  · rw [chE_no (by unfold okO; simp; omega)]
    go_enter Tryd.func71, Tryd.ntmps71
    go_wp2
    go_ret
    exact ⟨rfl, fin⟩
  · by_cases h1 : 1024 ≤ a
    · rw [chE_no (by unfold okO; simp; omega)]
      go_enter Tryd.func71, Tryd.ntmps71
      go_wp2
      go_ret
      exact ⟨rfl, fin⟩
    · by_cases h2 : o < 1
      · rw [chE_no (by unfold okO; simp; omega)]
        go_enter Tryd.func71, Tryd.ntmps71
        go_wp2
        go_ret
        exact ⟨rfl, fin⟩
      · by_cases h3 : 1073741824 < o
        · rw [chE_no (by unfold okO; simp; omega)]
          go_enter Tryd.func71, Tryd.ntmps71
          go_wp2
          go_ret
          exact ⟨rfl, fin⟩
        · rw [chE_yes (by unfold okO; simp; omega)]
          go_enter Tryd.func71, Tryd.ntmps71
          go_wp2
          go_ret
          exact ⟨rfl, fin⟩

set_option maxHeartbeats 800000 in
theorem chk_no (p : Value) (a o : Int) (w : World) (h : NoLock w p) : Calls Tryd.prog 77 #[p, .agg #[.int .i64 a, .int .i64 o]] w fun e w' => e = .returned (.int .i64 4) ∧ Below w.heap.size w w' := by
  replace h := hide (h.alloc (.cells #[.int .i64 a, .int .i64 o] 52))
  go_enter Tryd.func77, Tryd.ntmps77
  go_wp2_with fail
  refine (made_no p _ h.out).mono ?_; rintro e w1 ⟨rfl, rfl⟩
  go_wp2
  go_ret
  exact ⟨rfl, (Below.refl _ _).alloc (Nat.le_refl _) _⟩

set_option maxHeartbeats 800000 in
theorem chk_yes (b : Nat) (v : Value) (a o : Int) (w : World) (hb : IsB w b #[v, .bool true] 154) : Calls Tryd.prog 77 #[.pointer (some ⟨b, 0, none⟩), .agg #[.int .i64 a, .int .i64 o]] w fun e w' => e = .returned (.int .i64 (chE a o)) ∧ Below w.heap.size w w' := by
  have bel := (Below.refl w.heap.size w).alloc (Nat.le_refl _) (.cells #[.int .i64 a, .int .i64 o] 52)
  have h := hide (hb.below bel)
  replace bel := hide bel
  clear hb
  go_enter Tryd.func77, Tryd.ntmps77
  go_wp2_with fail
  refine (made_yes b v _ h.out).mono ?_; rintro e w1 ⟨rfl, rfl⟩
  go_wp2_with fail
  refine (check_any a o _).mono ?_; rintro e w2 ⟨rfl, hb⟩
  have HB := hide (bel.out.trans (hb.mono (by simp)))
  clear hb
  go_wp2
  go_ret
  exact ⟨rfl, HB.out⟩

end Go.Proofs.YtdogdinkopocaaaDoor
