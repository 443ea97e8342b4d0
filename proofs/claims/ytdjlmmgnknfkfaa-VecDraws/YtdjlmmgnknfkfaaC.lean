/- Walks: the vector of a row, and how many first ones two have in common. -/
import Derived.Test.YtdjlmmgnknfkfaaB
namespace Go.Proofs.Ytdjlmmgnknfkfaa
open Go.RowKit

/-- Block b holds just the two values. -/
def Is2 (w : World) (b : Nat) (x y : Value) : Prop := w.heap[b]? = some (.cells #[x, y] 24 (0, 0))
theorem Is2.lt {w : World} {b : Nat} {x y : Value} (h : Is2 w b x y) : b < w.heap.size := by
  rcases Nat.lt_or_ge b w.heap.size with hlt | hge
  · exact hlt
  · unfold Is2 at h; rw [Array.getElem?_eq_none hge] at h; cases h
theorem Is2.c {w : World} {b : Nat} {x y : Value} (h : Is2 w b x y) : w.cell? ⟨b, 0, none⟩ = some x ∧ w.cell? ⟨b, 1, none⟩ = some y ∧ w.frozen? ⟨b, 0, none⟩ = false ∧ w.frozen? ⟨b, 1, none⟩ = false :=
  ⟨by rw [cell_of_row w b 0 _ _ _ h]; rfl, by rw [cell_of_row w b 1 _ _ _ h]; rfl, frozen_of_row w b 0 _ _ h, frozen_of_row w b 1 _ _ h⟩
theorem Is2.new (w : World) (x y : Value) : Is2 (w.alloc (.cells #[x, y] 24)) w.heap.size x y := heap_alloc_new w _
theorem Is2.alloc {w : World} {b : Nat} {x y : Value} (h : Is2 w b x y) (o : Obj) : Is2 (w.alloc o) b x y := by
  have := h.lt
  unfold Is2 at *; rw [Below.heap_alloc _ _ _ this]; exact h
theorem Is2.set0 {w : World} {b : Nat} {x y : Value} (h : Is2 w b x y) (u : Value) : Is2 (w.setCell ⟨b, 0, none⟩ u) b u y := heap_setCell_same w b 0 _ _ u h
theorem Is2.set1 {w : World} {b : Nat} {x y : Value} (h : Is2 w b x y) (u : Value) : Is2 (w.setCell ⟨b, 1, none⟩ u) b x u := heap_setCell_same w b 1 _ _ u h
theorem Is2.other {w : World} {b : Nat} {x y : Value} (h : Is2 w b x y) (a : Addr) (u : Value) (hne : b ≠ a.block) : Is2 (w.setCell a u) b x y := by
  unfold Is2 at *; rw [heap_setCell_other w a b u hne]; exact h
theorem Is2.drew {w : World} {b : Nat} {x y : Value} (h : Is2 w b x y) : Is2 w.drew b x y := h
theorem Is2.drewN {w : World} {b : Nat} {x y : Value} (h : Is2 w b x y) (n : Nat) : Is2 (w.drewN n) b x y := h
theorem Is2.below {w w' : World} {b : Nat} {x y : Value} (h : Is2 w b x y) (hb : Below w.heap.size w w') : Is2 w' b x y := (hb.block b h.lt).trans h

/-- What a slice of numbers holds. -/
def Row (w : World) (g o : Nat) (l : List Nat) : Prop := ∀ j, j < l.length → w.cell? ⟨g, o + j, none⟩ = some (cell (l.getD j 0))

theorem take_snoc (l : List Nat) (k : Nat) (h : k < l.length) : l.take (k + 1) = l.take k ++ [l.getD k 0] := by
  rw [List.take_succ_eq_append_getElem h]; simp [h]
theorem ofl_take (l : List Nat) (h : ∀ x ∈ l, x ≤ 1) (k : Nat) (hk : k ≤ l.length) (h32 : l.length ≤ 60) : ofl (l.take k) < 1152921504606846976 := by
  have h1 := ofl_lt (l.take k) (fun x hx => h x (List.mem_of_mem_take hx))
  have h2 : 2 ^ (l.take k).length ≤ 2 ^ 60 := Nat.pow_le_pow_right (by omega) (by rw [List.length_take]; omega)
  exact Nat.lt_of_lt_of_le h1 h2
theorem getD_le (l : List Nat) (h : ∀ x ∈ l, x ≤ 1) (k : Nat) : l.getD k 0 ≤ 1 := by
  by_cases hk : k < l.length
  · have e : l.getD k 0 = l[k] := by simp [hk]
    rw [e]; exact h _ (List.getElem_mem hk)
  · have e : l.getD k 0 = 0 := by simp [hk]
    omega

set_option maxHeartbeats 800000 in
theorem of_any (g o n cap : Nat) (l : List Nat) (w : World) (hl : l.length = n) (hn : n ≤ 60) (h01 : ∀ x ∈ l, x ≤ 1) (hg : g < w.heap.size) (hrow : Row w g o l) :
    Calls Try.prog 44 #[.slice (some ⟨g, o, none⟩) n cap] w fun e w' => e = .returned (.agg #[.int .i64 ((n : Int)), .int .u64 ((ofl l : Nat))]) ∧ Below w.heap.size w w' := by
  go_enter Try.func44, Try.ntmps44
  go_wp2
  go_loopw [4] (fun i wr => ∃ k : Nat, k ≤ n ∧ i = .int .i64 (k : Int) ∧ Is2 wr w.heap.size (.int .i64 0) (.int .u64 0) ∧ Is2 wr (w.heap.size + 1) (.int .i64 (n : Int)) (.int .u64 (ofl (l.take k) : Nat)) ∧ Below w.heap.size w wr)
    (fun i _ => n - (intOf i).toNat)
  case atStart =>
    refine ⟨0, by omega, rfl, ?_, ?_, ?_⟩
    · exact (Is2.new w _ _).alloc _
    · have := Is2.new (w.alloc (.cells #[.int .i64 0, .int .u64 0] 24)) (.int .i64 (n : Int)) (.int .u64 0)
      simpa [ofl] using this
    · exact ((Below.refl _ _).alloc (Nat.le_refl _) _).alloc (by simp) _
  case round =>
    obtain ⟨k, hk, rfl, i0, i1, hb⟩ := hrel
    have H0 := hide i0
    have H1 := hide i1
    obtain ⟨a0, a1, a2, a3⟩ := i0.c
    obtain ⟨b0, b1, b2, b3⟩ := i1.c
    clear i0 i1
    by_cases hlt : k < n
    · have hcx : wr.cell? ⟨g, o + k, none⟩ = some (.int .i64 (l.getD k 0 : Nat)) := (hb.cell (p := ⟨g, o + k, none⟩) hg).trans (hrow k (by omega))
      have hx := getD_le l h01 k
      have hq := ofl_take l h01 k (by omega) (by omega)
      have HS : Hid (ofl (l.take (k + 1)) = ofl (l.take k) * 2 + l.getD k 0) := by
        show _ = _
        rw [take_snoc l k (by omega), ofl_snoc]
      generalize l.getD k 0 = x at *
      generalize ofl (l.take k) = q at *
      have i1 : (k : Int) < n := by omega
      have i2 : (0 : Int) ≤ k := by omega
      clear hrow h01
      go_wp2
      go_region
      go_wp2
      refine ⟨⟨k + 1, by omega, by simp, ?_, ?_, ?_⟩, ?_⟩
      · exact (H0.out.other _ _ (by simp)).drew
      · rw [HS.out]
        have := (H1.out.set1 (.int .u64 ((q : Int) * 2 + x))).drew
        simpa using this
      · exact (hb.setCell (by simp) _).drew
      · simp [intOf]; omega
    · have e : ofl (l.take k) = ofl l := by rw [List.take_of_length_le (by omega)]
      rw [e] at H1 b1
      clear e
      go_wp2
      have h2 := (H0.out.set0 (.int .i64 (n : Int))).set1 (.int .u64 (ofl l : Nat))
      obtain ⟨c0, c1, _, _⟩ := h2.c
      exact bodyPost_ret (v := (.agg #[.int .i64 ((n : Int)), .int .u64 ((ofl l : Nat))])) (by simp [results, Try.results44, go_sem, c0, c1]) rfl ⟨rfl, (hb.setCell (by simp) _).setCell (by simp) _⟩

set_option maxHeartbeats 400000 in
theorem of_nil (w : World) :
    Calls Try.prog 44 #[.slice none 0 0] w fun e w' => e = .returned (.agg #[.int .i64 (0), .int .u64 (0)]) ∧ Below w.heap.size w w' := by
  go_enter Try.func44, Try.ntmps44
  go_wp2
  go_loopw [4] (fun i wr => i = .int .i64 0 ∧ Is2 wr w.heap.size (.int .i64 0) (.int .u64 0) ∧ Is2 wr (w.heap.size + 1) (.int .i64 0) (.int .u64 0) ∧ Below w.heap.size w wr)
    (fun _ _ => 0)
  case atStart =>
    refine ⟨rfl, ?_, ?_, ?_⟩
    · exact (Is2.new w _ _).alloc _
    · have := Is2.new (w.alloc (.cells #[.int .i64 0, .int .u64 0] 24)) (.int .i64 0) (.int .u64 0)
      simpa using this
    · exact ((Below.refl _ _).alloc (Nat.le_refl _) _).alloc (by simp) _
  case round =>
    obtain ⟨rfl, i0, i1, hb⟩ := hrel
    have H0 := hide i0
    obtain ⟨a0, a1, a2, a3⟩ := i0.c
    obtain ⟨b0, b1, b2, b3⟩ := i1.c
    clear i0 i1
    go_wp2
    have h2 := (H0.out.set0 (.int .i64 0)).set1 (.int .u64 0)
    obtain ⟨c0, c1, _, _⟩ := h2.c
    exact bodyPost_ret (v := (.agg #[.int .i64 (0), .int .u64 (0)])) (by simp [results, Try.results44, go_sem, c0, c1]) rfl ⟨rfl, (hb.setCell (by simp) _).setCell (by simp) _⟩

theorem getD_get (l : List Nat) (i : Nat) (h : i < l.length) : l[i]? = some (l.getD i 0) := by simp [h]
theorem neb (x y : Nat) (h : x ≠ y) : ((x : Int) == (y : Int)) = false := by simp; omega

set_option maxHeartbeats 800000 in
theorem rcommon_any (g g2 n m cap cap2 : Nat) (l r : List Nat) (w : World) (hl : l.length = n) (hr : r.length = m) (hn : n ≤ 60) (hm : m ≤ 60) (hrow : Row w g 0 l) (hrow2 : Row w g2 0 r) :
    Calls Try.prog 49 #[.slice (some ⟨g, 0, none⟩) n cap, .slice (some ⟨g2, 0, none⟩) m cap2] w fun e w' => e = .returned (.int .i64 (cmn l r : Nat)) ∧ Below w.heap.size w w' := by
  go_enter Try.func49, Try.ntmps49
  go_wp2
  go_loopw [5] (fun i wr => ∃ k : Nat, k ≤ n ∧ k ≤ m ∧ i = .int .i64 (k : Int) ∧ (∀ j, j < k → l[j]? = r[j]?) ∧ Below w.heap.size w wr ∧ ∃ q, wr = w.drewN q)
    (fun i _ => n - (intOf i).toNat)
  case atStart => exact ⟨0, by omega, by omega, rfl, by omega, Below.refl _ _, 0, rfl⟩
  case round =>
    obtain ⟨k, hk, hk2, rfl, hsame, hb, q, rfl⟩ := hrel
    have HS := hide hsame
    clear hsame
    by_cases h1 : k < n
    · by_cases h2 : k < m
      · have c1 := hrow k (by omega)
        have c2 := hrow2 k (by omega)
        simp only [cell, Nat.zero_add] at c1 c2
        have G1 := hide (getD_get l k (by omega))
        have G2 := hide (getD_get r k (by omega))
        have i1 : (k : Int) < n := by omega
        have i2 : (k : Int) < m := by omega
        have i3 : (0 : Int) ≤ k := by omega
        have HR := hide hrow
        have HR2 := hide hrow2
        clear hrow hrow2
        generalize l.getD k 0 = x at *
        generalize r.getD k 0 = y at *
        by_cases h3 : x = y
        · subst h3
          go_wp2
          go_quiet (fail)
          go_wp2
          refine ⟨⟨k + 1, by omega, by omega, by simp, ?_, below_drewN (Below.refl _ _) _, _, rfl⟩, ?_⟩
          · intro j hj
            by_cases e : j = k
            · rw [e, G1.out, G2.out]
            · exact HS.out j (by omega)
          · simp [intOf]; omega
        · have h4 := neb x y h3
          have HE : Hid (cmn l r = k) := cmn_eq l r k (by omega) (by omega) HS.out (by right; right; rw [G1.out, G2.out]; simpa using h3)
          go_wp2
          go_quiet (fail)
          go_wp2
          go_ret
          exact ⟨ret_int (by rw [HE.out]), below_drewN (below_drewN (Below.refl _ _) _) _⟩
      · have i1 : decide ((k : Int) < m) = false := by simp; omega
        have i2 : (k : Int) < n := by omega
        have HE : Hid (cmn l r = k) := cmn_eq l r k (by omega) (by omega) HS.out (by right; left; omega)
        go_wp2
        go_quiet (fail)
        go_wp2
        go_ret
        exact ⟨ret_int (by rw [HE.out]), below_drewN (below_drewN (Below.refl _ _) _) _⟩
    · have i1 : decide ((k : Int) < n) = false := by simp; omega
      have HE : Hid (cmn l r = k) := cmn_eq l r k (by omega) (by omega) HS.out (by left; omega)
      go_wp2
      go_quiet (fail)
      go_wp2
      go_ret
      exact ⟨ret_int (by rw [HE.out]), below_drewN (below_drewN (Below.refl _ _) _) _⟩

end Go.Proofs.Ytdjlmmgnknfkfaa
