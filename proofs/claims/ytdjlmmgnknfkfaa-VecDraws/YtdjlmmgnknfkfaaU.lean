/- Walks: all prefixes of a vector, by the document's answer; and what the law does with one that it is told of. -/
import Derived.Test.YtdjlmmgnknfkfaaZ
import Derived.Test.YtdjlmmgnknfkfaaT
namespace Go.Proofs.Ytdjlmmgnknfkfaa
open Go.RowKit
attribute [local go_sem ↓] Go.wp_at_zero Go.wp_at_succ

theorem Try.infoVec : (Try.prog.info? 24).map (fun i => (i.zero, i.size, i.bytes)) = some (some (.agg #[.int .i64 (0), .int .u64 (0)]), 2, 16) := by kernel_rfl

/-- The first k prefixes' cells. -/
def pcells (n b k : Nat) : List Value := (List.range k).flatMap fun (i : Nat) => [.int .i64 (i : Int), .int .u64 (pre n b i : Nat)]
theorem pcells_succ (n b k : Nat) : pcells n b (k + 1) = pcells n b k ++ [.int .i64 (k : Int), .int .u64 (pre n b k : Nat)] := by
  simp [pcells, List.range_succ]
theorem pcells_length (n b k : Nat) : (pcells n b k).length = k * 2 := by
  induction k with
  | zero => rfl
  | succ k ih => rw [pcells_succ, List.length_append, ih]; simp; omega
theorem pcells_get (n b k j : Nat) (h : j < k) : (pcells n b k)[j * 2]? = some (.int .i64 (j : Int)) ∧ (pcells n b k)[j * 2 + 1]? = some (.int .u64 (pre n b j : Nat)) := by
  induction k with
  | zero => omega
  | succ k ih =>
    have hl := pcells_length n b k
    rw [pcells_succ]
    by_cases e : j < k
    · rw [List.getElem?_append_left (by omega), List.getElem?_append_left (by omega)]
      exact ih e
    · have e2 : j = k := by omega
      subst e2
      rw [List.getElem?_append_right (by omega), List.getElem?_append_right (by omega), hl]
      have e3 : j * 2 - j * 2 = 0 := by omega
      have e4 : j * 2 + 1 - j * 2 = 1 := by omega
      rw [e3, e4]
      exact ⟨rfl, rfl⟩

set_option maxHeartbeats 2000000 in
theorem rPrefixes_in (n b : Nat) (hn : n ≤ 32) (hb : b < 2 ^ n) (w : World) :
    Calls Try.prog 36 #[(.agg #[.int .i64 ((n : Int)), .int .u64 ((b : Int))])] w fun e w' => ∃ g cap, e = .returned (.slice (some ⟨g, 0, none⟩) (n + 1) cap) ∧ w'.ownsRow w.heap.size 24 2 (.slice (some ⟨g, 0, none⟩) (n + 1) cap) (n + 1) (pcells n b (n + 1)) ∧ Below w.heap.size w w' := by
  obtain ⟨ii, hi, hz0, hz1, hz2⟩ := info_parts Try.infoVec
  have hr : rt (n : Int) (b : Int) = true := rt_of n b hn hb
  have hp := p32 n hn
  have hb2 : b < 18446744073709551616 := by omega
  have HBN := hide hb
  clear hb hp
  go_enter Try.func36, Try.ntmps36
  go_wp2_with fail
  refine (rright_any _ _ _).mono ?_; rintro e w1 ⟨rfl, hb1⟩; obtain ⟨hc1, hf1⟩ := bcell hb1
  have HB := hide (bx hb1)
  go_wp2_with fail
  refine (bits_any _ _ (by omega) hb2 _).mono ?_; rintro e w2 ⟨g, rfl, hg, hown, hb3⟩
  obtain ⟨hlen, hrow, hgl, -⟩ := row_of hown
  replace HB := hide (bstep HB.out hb3)
  have HR := hide hrow
  clear hrow hc1 hf1 hb1 hb3 hown hr
  go_wp2
  go_loopw [3, 5] (fun v i wr => ∃ k : Nat, k ≤ n + 1 ∧ i = .int .i64 (k : Int) ∧ wr.ownsRow w2.heap.size 24 2 v k (pcells n b k) ∧ Below w2.heap.size w2 wr)
    (fun _ i _ => n + 1 - (intOf i).toNat)
  case atStart => exact ⟨0, by omega, rfl, World.ownsRow_nil _ _ _ _, Below.refl _ _⟩
  case round =>
    obtain ⟨k, hk, rfl, hown, hbw⟩ := hrel
    by_cases hlt : k ≤ n
    · have i1 : (k : Int) ≤ n := by omega
      have i2 : (0 : Int) ≤ k := by omega
      have hgl2 : g < wr.heap.size := Nat.lt_of_lt_of_le hgl hbw.size
      have HR2 : Hid (Row wr g 0 ((bl n b).take k)) := by
        intro j hj
        have h1 := (HR.out.take k) j hj
        exact (hbw.cell (p := ⟨g, 0 + j, none⟩) hgl).trans h1
      go_wp2_with fail
      refine (of_any _ _ _ _ ((bl n b).take k) _ (by rw [List.length_take, bl_length]; omega) (by omega) (fun x hx => bl_mem n b x (List.mem_of_mem_take hx)) hgl2 HR2.out).mono ?_; rintro e w3 ⟨rfl, hb4⟩
      have ep : ofl ((bl n b).take k) = pre n b k := ofl_bl_take n b k HBN.out hlt
      rw [ep]
      have hown3 := ownsRow_below hown hb4
      have hbw3 := bstep hbw hb4
      have HPC := hide (pcells_succ n b k)
      clear hown hbw hb4 ep HR2
      generalize pre n b k = y at *
      go_wp2_with (at_builtin; refine wpList_append_own _ rfl _ _ 38 rfl w2.heap.size 24 ii (.agg #[.int .i64 (0), .int .u64 (0)]) 2 16 Try.underlying38 hi hz0 hz1 hz2 rfl (by decide) _ _ _ rfl (hown3.alloc _) ⟨w3.heap.size, 0, none⟩ 1 1 [.int .i64 (k : Int), .int .u64 (y : Int)] rfl rfl ?c1 ?c2 ?c3 ?c4 ?c5 ?_)
      case c1 =>
        intro j u hj
        match j, hj with
        | 0, hj => simp at hj; subst hj; simp [Addr.add]
        | 1, hj => simp at hj; subst hj; simp [Addr.add]
      case c2 => intro u hu; simp at hu; rcases hu with rfl | rfl <;> rfl
      case c3 => unfold maxLen; omega
      case c4 => omega
      case c5 => have := hbw3.size; simp; omega
      intro v' w4 hown' hgrow _
      rw [← HPC.out] at hown'
      have HB3 := hide ((hbw3.alloc hbw3.size _).grown hgrow (by have := hbw3.size; simp; omega) (fun k hk => (hown3.lt k hk).1))
      replace hown' := hide hown'
      clear hown3 hgrow hbw3
      go_wp2
      exact ⟨⟨k + 1, by omega, by simp, hown'.out, HB3.out⟩, by simp [intOf]; omega⟩
    · have e : k = n + 1 := by omega
      subst e
      obtain ⟨g2, cap, rfl, -, -⟩ := hown.form (by omega)
      have hbase : w.heap.size ≤ w2.heap.size := HB.out.size
      go_wp2
      go_ret
      refine ⟨g2, cap, rfl, ?_, bstep HB.out hbw⟩
      refine ⟨hown.1, ?_⟩
      rcases hown.2 with h | ⟨g', cap', cur, h1, h2, h3⟩
      · exact Or.inl h
      · exact Or.inr ⟨g', cap', cur, h1, by omega, h3⟩

set_option maxHeartbeats 400000 in
theorem rPrefixes_no (n b : Int) (h : rt n b = false) (w : World) :
    Calls Try.prog 36 #[(.agg #[.int .i64 (n), .int .u64 (b)])] w fun e w' => e = .returned (.slice none 0 0) ∧ Below w.heap.size w w' := by
  go_enter Try.func36, Try.ntmps36
  go_wp2_with fail
  refine (rright_any _ _ _).mono ?_; rintro e w1 ⟨rfl, hb1⟩; obtain ⟨hc1, hf1⟩ := bcell hb1
  go_wp2
  go_ret
  exact ⟨rfl, bx hb1⟩

/-- Block b holds just the one value, of type t. -/
def Is1 (w : World) (b t : Nat) (x : Value) : Prop := w.heap[b]? = some (.cells #[x] t (0, 0))
theorem Is1.lt {w : World} {b t : Nat} {x : Value} (h : Is1 w b t x) : b < w.heap.size := by
  rcases Nat.lt_or_ge b w.heap.size with hlt | hge
  · exact hlt
  · unfold Is1 at h; rw [Array.getElem?_eq_none hge] at h; cases h
theorem Is1.c {w : World} {b t : Nat} {x : Value} (h : Is1 w b t x) : w.cell? ⟨b, 0, none⟩ = some x ∧ w.frozen? ⟨b, 0, none⟩ = false :=
  ⟨by rw [cell_of_row w b 0 _ _ _ h]; rfl, frozen_of_row w b 0 _ _ h⟩
theorem Is1.new (w : World) (t : Nat) (x : Value) : Is1 (w.alloc (.cells #[x] t)) w.heap.size t x := heap_alloc_new w _
theorem Is1.alloc {w : World} {b t : Nat} {x : Value} (h : Is1 w b t x) (o : Obj) : Is1 (w.alloc o) b t x := by
  have := h.lt
  unfold Is1 at *; rw [Below.heap_alloc _ _ _ this]; exact h
theorem Is1.set {w : World} {b t : Nat} {x : Value} (h : Is1 w b t x) (u : Value) : Is1 (w.setCell ⟨b, 0, none⟩ u) b t u := heap_setCell_same w b 0 _ _ u h
theorem Is1.other {w : World} {b t : Nat} {x : Value} (h : Is1 w b t x) (a : Addr) (u : Value) (hne : b ≠ a.block) : Is1 (w.setCell a u) b t x := by
  unfold Is1 at *; rw [heap_setCell_other w a b u hne]; exact h
theorem Is1.below {w w' : World} {b t : Nat} {x : Value} (h : Is1 w b t x) (hb : Below w.heap.size w w') : Is1 w' b t x := (hb.block b h.lt).trans h

end Go.Proofs.Ytdjlmmgnknfkfaa
