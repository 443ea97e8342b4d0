/- Walks: does a vector begin with another one; a vector's text, by package vec. -/
import Derived.Test.YtdjlmmgnknfkfaaH
namespace Go.Proofs.Ytdjlmmgnknfkfaa
open Go.RowKit
attribute [local go_sem ↓] Go.wp_at_zero Go.wp_at_succ

/-- Does the first vector begin with the second? -/
def bgS (n b m c : Int) : Bool := rt n b && rt m c && decide (m ≤ n) && decide (((pre n.toNat b.toNat m.toNat : Nat) : Int) = c)

theorem rbS_zero {n b m c : Int} : rbS n b m c = 0 ↔ rt n b = true ∧ rt m c = true := by
  unfold rbS reS
  constructor
  · intro h
    split at h
    · split at h
      · exact ⟨by assumption, by assumption⟩
      · omega
    · omega
  · rintro ⟨h1, h2⟩; rw [if_pos h1, if_pos h2]

set_option maxHeartbeats 1000000 in
theorem vBegins_any (n b m c : Int) (hb : 0 ≤ b) (hc : 0 ≤ c) (w : World) :
    Calls Try.prog 26 #[(.agg #[.int .i64 (n), .int .u64 (b)]), (.agg #[.int .i64 (m), .int .u64 (c)])] w fun e w' => e = .returned (.bool (bgS n b m c)) ∧ Below w.heap.size w w' := by
  by_cases h : rbS n b m c = 0
  · obtain ⟨h1, h2⟩ := rbS_zero.1 h
    by_cases hmn : m ≤ n
    · have h3 := of_decide_eq_true h1
      have h4 := of_decide_eq_true h2
      obtain ⟨g1, g2, -⟩ := h3
      obtain ⟨g3, g4, -⟩ := h4
      have e : bgS n b m c = decide (((pre n.toNat b.toNat m.toNat : Nat) : Int) = c) := by unfold bgS; simp [h1, h2, hmn]
      rw [e]
      clear e h1 h2
      by_cases hpc : ((pre n.toNat b.toNat m.toNat : Nat) : Int) = c
      · have heq : (((pre n.toNat b.toNat m.toNat : Nat) : Int) == c) = true := by simpa using hpc
        rw [decide_eq_true hpc]
        clear hpc
        go_enter Try.func26, Try.ntmps26
        go_wp2_with fail
        refine (rightBoth_any _ _ _ _ (by omega) (by omega) _).mono ?_; rintro e w1 ⟨rfl, hb1⟩
        have I0 := hide (((Is2.new w (.int .i64 n) (.int .u64 b)).alloc (.cells #[.int .i64 m, .int .u64 c] 24)).below hb1)
        have i1 := ((Is2.new (w.alloc (.cells #[.int .i64 n, .int .u64 b] 24)) (.int .i64 m) (.int .u64 c)).below hb1)
        rw [World.size_alloc] at i1
        have I1 := hide i1
        have hz := i1.lt
        clear i1
        obtain ⟨a0, a1, -, -⟩ := I0.out.c
        obtain ⟨b0, b1, -, -⟩ := I1.out.c
        go_wp2
        go_region_held3 (fun w' => w'.cell? ⟨w.heap.size, 0, none⟩ = some (.int .i64 n) ∧ w'.cell? ⟨w.heap.size, 1, none⟩ = some (.int .u64 b) ∧ w'.cell? ⟨w.heap.size + 1, 0, none⟩ = some (.int .i64 m) ∧ w'.cell? ⟨w.heap.size + 1, 1, none⟩ = some (.int .u64 c) ∧ w.heap.size + 1 < w'.heap.size)
          (first | go_keep | (go_split_ands; refine ⟨?_, ?_, ?_, ?_, ?_⟩ <;> first | assumption | (rw [hbb.cell (by simp; omega)]; assumption) | (have := hbb.size; first | omega | (simp at this; omega))))
          ((go_at_call 43; refine (first_any _ _ _ (by omega) (by omega) (by omega) (by omega) _).mono ?_; rintro e w' ⟨rfl, hbb⟩))
        have hB : Below w1.heap.size w1 w' := bstep (Below.refl _ _).drew hbb
        have HB := hide (bstep (bx2 hb1) hB)
        clear hB
        go_wp2
        go_ret
        exact ⟨rfl, HB.out⟩
      · have hne : (((pre n.toNat b.toNat m.toNat : Nat) : Int) == c) = false := by simpa using hpc
        rw [decide_eq_false hpc]
        clear hpc
        go_enter Try.func26, Try.ntmps26
        go_wp2_with fail
        refine (rightBoth_any _ _ _ _ (by omega) (by omega) _).mono ?_; rintro e w1 ⟨rfl, hb1⟩
        have I0 := hide (((Is2.new w (.int .i64 n) (.int .u64 b)).alloc (.cells #[.int .i64 m, .int .u64 c] 24)).below hb1)
        have i1 := ((Is2.new (w.alloc (.cells #[.int .i64 n, .int .u64 b] 24)) (.int .i64 m) (.int .u64 c)).below hb1)
        rw [World.size_alloc] at i1
        have I1 := hide i1
        have hz := i1.lt
        clear i1
        obtain ⟨a0, a1, -, -⟩ := I0.out.c
        obtain ⟨b0, b1, -, -⟩ := I1.out.c
        go_wp2
        go_region_held3 (fun w' => w'.cell? ⟨w.heap.size, 0, none⟩ = some (.int .i64 n) ∧ w'.cell? ⟨w.heap.size, 1, none⟩ = some (.int .u64 b) ∧ w'.cell? ⟨w.heap.size + 1, 0, none⟩ = some (.int .i64 m) ∧ w'.cell? ⟨w.heap.size + 1, 1, none⟩ = some (.int .u64 c) ∧ w.heap.size + 1 < w'.heap.size)
          (first | go_keep | (go_split_ands; refine ⟨?_, ?_, ?_, ?_, ?_⟩ <;> first | assumption | (rw [hbb.cell (by simp; omega)]; assumption) | (have := hbb.size; first | omega | (simp at this; omega))))
          ((go_at_call 43; refine (first_any _ _ _ (by omega) (by omega) (by omega) (by omega) _).mono ?_; rintro e w' ⟨rfl, hbb⟩))
        have hB : Below w1.heap.size w1 w' := bstep (Below.refl _ _).drew hbb
        have HB := hide (bstep (bx2 hb1) hB)
        clear hB
        go_wp2
        go_ret
        exact ⟨rfl, HB.out⟩
    · have hmn2 : n < m := by omega
      have e : bgS n b m c = false := by unfold bgS; simp [hmn]
      rw [e]
      clear e h1 h2 hmn
      go_enter Try.func26, Try.ntmps26
      go_wp2_with fail
      refine (rightBoth_any _ _ _ _ (by omega) (by omega) _).mono ?_; rintro e w1 ⟨rfl, hb1⟩; obtain ⟨hc1, hf1⟩ := bcell hb1
      go_wp2
      go_ret
      exact ⟨rfl, bx2 hb1⟩
  · have hq : (rbS n b m c != 0) = true := by rw [bne_iff_ne]; exact h
    have e : bgS n b m c = false := by
      rw [rbS_zero] at h
      unfold bgS
      cases h1 : rt n b <;> cases h2 : rt m c <;> simp_all
    rw [e]
    clear e h
    go_enter Try.func26, Try.ntmps26
    go_wp2_with fail
    refine (rightBoth_any _ _ _ _ (by omega) (by omega) _).mono ?_; rintro e w1 ⟨rfl, hb1⟩; obtain ⟨hc1, hf1⟩ := bcell hb1
    go_wp2
    go_ret
    exact ⟨rfl, bx2 hb1⟩

/-- A row of bits as bytes of a text. -/
def dig (l : List Nat) : List UInt8 := l.map fun x => UInt8.ofNat (48 + x)
theorem dig_cells_snoc (l : List Nat) (x : Nat) (hx : x ≤ 1) : Lib.byteCells (dig (l ++ [x])) = Lib.byteCells (dig l) ++ [.int .u8 (48 + (x : Int))] := by
  unfold dig Lib.byteCells
  rw [List.map_append, List.map_append]
  rcases Nat.le_one_iff_eq_zero_or_eq_one.1 hx with rfl | rfl <;> rfl

theorem ownsRow_below {w w' : World} {B e size : Nat} {v : Value} {n : Nat} {xs : List Value} (h : w.ownsRow B e size v n xs) (hb : Below w.heap.size w w') : w'.ownsRow B e size v n xs :=
  h.kept (row := none) ⟨hb.os, hb.tape, hb.output, hb.size, fun k hk _ => hb.block k hk⟩ (by
    rcases h.2 with ⟨rfl, _⟩ | ⟨g, cap, cur, rfl, _⟩
    · exact Or.inl rfl
    · exact Or.inr (by simp [Value.ownBlock]))
theorem builder_below {T e B b : Nat} {bs : List Value} {w w' : World} (h : Lib.IsBuilder T e B b bs w) (hb : Below w.heap.size w w') : Lib.IsBuilder T e B b bs w' := by
  rcases h with h | h
  · have hl := h.lt
    obtain ⟨hB, v, hbk, hown, hne⟩ := h
    exact Or.inl ⟨hB, v, (hb.block b hl).trans hbk, ownsRow_below hown hb, hne⟩
  · have hl := h.lt
    obtain ⟨hB, v, hbk, hown, hne⟩ := h
    exact Or.inr ⟨hB, v, (hb.block b hl).trans hbk, ownsRow_below hown hb, hne⟩

set_option maxHeartbeats 1000000 in
theorem vText_in (n b : Nat) (hn : n ≤ 32) (h0 : 0 < n) (hb : b < 2 ^ n) (w : World) :
    Calls Try.prog 28 #[(.agg #[.int .i64 ((n : Int)), .int .u64 ((b : Int))])] w fun e w' => e = .returned (.tuple #[.string ⟨(dig (bl n b)).toArray⟩, .int .i64 0]) ∧ Below w.heap.size w w' := by
  have hr : reS (n : Int) (b : Int) = 0 := reS_yes (rt_of n b hn hb)
  have hp := p32 n hn
  have hb2 : b < 4294967296 := by omega
  have i0 : ((n : Int) == 0) = false := by simp; omega
  clear hb hp
  go_enter Try.func28, Try.ntmps28
  go_wp2_with fail
  refine (vright_any _ _ (by omega) _).mono ?_; rintro e w1 ⟨rfl, hb1⟩
  have I0 := hide ((Is2.new w (.int .i64 (n : Int)) (.int .u64 (b : Int))).below hb1)
  obtain ⟨a0, a1, -, -⟩ := I0.out.c
  have hz := I0.out.lt
  go_wp2
  go_loopw [17] (fun i wr => ∃ k : Nat, k ≤ n ∧ i = .int .i64 (k : Int) ∧ Lib.IsBuilder 75 5 w1.heap.size w1.heap.size (Lib.byteCells (dig ((bl n b).take k))) wr ∧ Below w1.heap.size w1 wr ∧ w1.heap.size < wr.heap.size)
    (fun i _ => n - (intOf i).toNat)
  case atStart =>
    refine ⟨0, by omega, rfl, ?_, (Below.refl _ _).alloc (Nat.le_refl _) _, by simp⟩
    exact Lib.fresh_isBuilder _ _ w1
  case round =>
    obtain ⟨k, hk, rfl, hB, hbw, hsz⟩ := hrel
    by_cases hlt : k < n
    · have hx := bt_le n b k
      have hts : (bl n b).take (k + 1) = (bl n b).take k ++ [bt n b k] := by
        rw [List.take_succ_eq_append_getElem (by rw [bl_length]; exact hlt)]
        have := bl_get n b k hlt
        rw [List.getElem?_eq_getElem (by rw [bl_length]; exact hlt)] at this
        simp at this
        rw [this]
      have HC := hide (dig_cells_snoc ((bl n b).take k) (bt n b k) hx)
      rw [← hts] at HC
      have hlen : (Lib.byteCells (dig ((bl n b).take k))).length ≤ 1000 := by
        rw [Lib.byteCells_length, dig, List.length_map, List.length_take]; omega
      have J := I0.out.below hbw
      obtain ⟨k0, k1, -, -⟩ := J.c
      replace J := hide J
      clear hts
      go_wp2_with fail
      refine (bitAt_any _ _ _ (by omega) (by omega) (by omega) (by omega) (by omega) _).mono ?_; rintro e w2 ⟨rfl, hb3⟩
      simp only [Int.toNat_natCast]
      generalize bt n b k = x at *
      go_wp2_with fail
      refine (writeByte_any w1.heap.size w1.heap.size _ _ _ (builder_below hB hb3) hlen (by have := hb3.size; omega)).mono ?_
      rintro e w3 ⟨rfl, hB3, hb4⟩
      rw [← HC.out] at hB3
      have HB3 := hide hB3
      have HF := hide ((hbw.trans (hb3.mono (by omega))).trans hb4)
      have hsz3 : w1.heap.size < w3.heap.size := hB3.lt
      clear hB3 hb3 hb4 hB hbw
      go_wp2
      refine ⟨⟨k + 1, by omega, by simp, Or.inr HB3.out, HF.out, hsz3⟩, ?_⟩
      simp [intOf]; omega
    · have e : (bl n b).take k = bl n b := List.take_of_length_le (by rw [bl_length]; omega)
      rw [e] at hB
      obtain ⟨p, hBA⟩ : ∃ p, Lib.BuilderAt 75 5 w1.heap.size w1.heap.size p (Lib.byteCells (dig (bl n b))) wr := by
        rcases hB with h | h
        · exact ⟨_, h⟩
        · exact ⟨_, h⟩
      have hne : dig (bl n b) ≠ [] := by
        intro h
        have := congrArg List.length h
        simp [dig, bl_length] at this
        omega
      clear e hB
      go_wp2_with fail
      refine (string_any w1.heap.size w1.heap.size (dig (bl n b)) p _ hBA hne).mono ?_
      rintro e w3 ⟨rfl, hb4⟩
      go_wp2
      go_ret2
      exact ⟨rfl, (bx hb1).trans ((hbw.trans hb4).mono (by omega))⟩

/-- A vector's text, as bytes. -/
def tx (n b : Nat) : List UInt8 := if n = 0 then [46] else dig (bl n b)
def txS (n b : Int) : ByteArray := if rt n b = true then ⟨(tx n.toNat b.toNat).toArray⟩ else ⟨#[]⟩

set_option maxHeartbeats 400000 in
theorem vText_zero (w : World) :
    Calls Try.prog 28 #[(.agg #[.int .i64 (0), .int .u64 (0)])] w fun e w' => e = .returned (.tuple #[.string ⟨#[46]⟩, .int .i64 0]) ∧ Below w.heap.size w w' := by
  have hr : reS 0 0 = 0 := reS_yes (rt_of 0 0 (by omega) (by omega))
  go_enter Try.func28, Try.ntmps28
  go_wp2_with fail
  refine (vright_any _ _ (by omega) _).mono ?_; rintro e w1 ⟨rfl, hb1⟩; obtain ⟨hc1, hf1⟩ := bcell hb1
  go_wp2
  go_ret2
  exact ⟨rfl, bx hb1⟩
set_option maxHeartbeats 400000 in
theorem vText_no (n b : Int) (h : rt n b = false) (hb : 0 ≤ b) (w : World) :
    Calls Try.prog 28 #[(.agg #[.int .i64 (n), .int .u64 (b)])] w fun e w' => e = .returned (.tuple #[.string ⟨#[]⟩, .int .i64 10]) ∧ Below w.heap.size w w' := by
  have hr : reS n b = 10 := reS_no h
  clear h
  go_enter Try.func28, Try.ntmps28
  go_wp2_with fail
  refine (vright_any _ _ (by omega) _).mono ?_; rintro e w1 ⟨rfl, hb1⟩; obtain ⟨hc1, hf1⟩ := bcell hb1
  go_wp2
  go_ret2
  exact ⟨rfl, bx hb1⟩

theorem vText_any (n b : Int) (hb : 0 ≤ b) (w : World) :
    Calls Try.prog 28 #[(.agg #[.int .i64 (n), .int .u64 (b)])] w fun e w' => e = .returned (.tuple #[.string (txS n b), .int .i64 (reS n b)]) ∧ Below w.heap.size w w' := by
  cases h : rt n b with
  | false =>
    have e : txS n b = ⟨#[]⟩ := if_neg (by simp [h])
    rw [e, reS_no h]; exact vText_no n b h hb w
  | true =>
    obtain ⟨m, c, rfl, rfl, hm, hc⟩ := rt_nat h hb
    have e : txS (m : Int) (c : Int) = ⟨(tx m c).toArray⟩ := if_pos h
    rw [e, reS_yes h]
    by_cases h0 : m = 0
    · subst h0
      have hc0 : c = 0 := by simp at hc; omega
      subst hc0
      exact vText_zero w
    · have e2 : tx m c = dig (bl m c) := if_neg h0
      rw [e2]
      exact vText_in m c hm (by omega) hc w

end Go.Proofs.Ytdjlmmgnknfkfaa
