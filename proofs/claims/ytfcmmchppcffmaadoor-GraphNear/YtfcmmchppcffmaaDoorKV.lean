/- Vectors: which may be, and does one begin with another one (as in stage 1). -/
import Derived.Test.YtfcmmchppcffmaaDoorKB
namespace Go.Proofs.YtfcmmchppcffmaaDoor
open Go.RowKit
attribute [local go_sem ↓] Go.wp_at_zero Go.wp_at_succ

/-- Bit i of the row of n bits whose number is b. -/
def bt (n b i : Nat) : Nat := b / 2 ^ (n - 1 - i) % 2
/-- May a vector be? -/
def rt (n b : Int) : Bool := decide (0 ≤ n ∧ n ≤ 32 ∧ b < 2 ^ n.toNat)
/-- The number of a vector's first k bits. -/
def pre (n b k : Nat) : Nat := b / 2 ^ (n - k)

theorem ret_int {k : IntKind} {a b : Int} (h : a = b) : Ending.returned (.int k a) = .returned (.int k b) := by rw [h]
theorem wrap_u64 {x : Int} (h0 : 0 ≤ x) (h1 : x < 18446744073709551616) : IntKind.u64.wrap x = x := by
  simp only [IntKind.wrap]; exact Int.emod_eq_of_lt h0 h1

theorem right_y (n b : Int) (h : rt n b = true) (hb : 0 ≤ b) : (decide (n < 0) = false) ∧ (decide (32 < n) = false) ∧ (b / 2 ^ n.toNat != 0) = false := by
  have h := of_decide_eq_true h
  refine ⟨by simp; omega, by simp; omega, ?_⟩
  rw [Int.ediv_eq_zero_of_lt hb h.2.2]; rfl
theorem right_n (n b : Int) (h : rt n b = false) (h0 : 0 ≤ n) (h1 : n ≤ 32) : (b / 2 ^ n.toNat != 0) = true := by
  have h := of_decide_eq_false h
  have hp : (0 : Int) < 2 ^ n.toNat := Int.pow_pos (by omega)
  have h2 : (2 : Int) ^ n.toNat ≤ b := by omega
  rw [bne_iff_ne]
  intro e
  have h3 := Int.lt_mul_ediv_self_add (x := b) hp
  rw [e] at h3
  omega

set_option maxHeartbeats 400000 in
theorem vright_yes (n b : Int) (h : rt n b = true) (hb : 0 ≤ b) (w : World) :
    Calls Tryd.prog 45 #[(.agg #[.int .i64 (n), .int .u64 (b)])] w fun e w' => e = .returned (.int .i64 0) ∧ Below w.heap.size w w' := by
  obtain ⟨g1, g2, g3⟩ := right_y n b h hb
  have g4 : 0 ≤ n := by simpa using g1
  have g5 : n ≤ 32 := by simpa using g2
  clear g1 g2 h
  go_enter Tryd.func45, Tryd.ntmps45
  go_wp2
  go_ret
  exact ⟨rfl, (Below.refl _ _).alloc (Nat.le_refl _) _⟩

set_option maxHeartbeats 400000 in
theorem vright_no (n b : Int) (h : rt n b = false) (w : World) :
    Calls Tryd.prog 45 #[(.agg #[.int .i64 (n), .int .u64 (b)])] w fun e w' => e = .returned (.int .i64 10) ∧ Below w.heap.size w w' := by
  by_cases g4 : 0 ≤ n
  · by_cases g5 : n ≤ 32
    · have g3 := right_n n b h g4 g5
      clear h
      go_enter Tryd.func45, Tryd.ntmps45
      go_wp2
      go_ret
      exact ⟨rfl, (Below.refl _ _).alloc (Nat.le_refl _) _⟩
    · have g6 : 32 < n := by omega
      clear h
      go_enter Tryd.func45, Tryd.ntmps45
      go_wp2
      go_ret
      exact ⟨rfl, (Below.refl _ _).alloc (Nat.le_refl _) _⟩
  · have g6 : n < 0 := by omega
    clear h
    go_enter Tryd.func45, Tryd.ntmps45
    go_wp2
    go_ret
    exact ⟨rfl, (Below.refl _ _).alloc (Nat.le_refl _) _⟩

theorem pre_int (n b k : Int) (h0 : 0 ≤ k) (h1 : k ≤ n) (hb : 0 ≤ b) : b / 2 ^ (n - k).toNat = (pre n.toNat b.toNat k.toNat : Nat) := by
  obtain ⟨b, rfl⟩ := Int.eq_ofNat_of_zero_le hb
  have e2 : (n - k).toNat = n.toNat - k.toNat := by omega
  rw [e2, pre, Int.toNat_natCast]; simp

theorem ret_vec {k x y : Int} (h : x = y) : Ending.returned (.agg #[.int .i64 (k), .int .u64 (x)]) = .returned (.agg #[.int .i64 (k), .int .u64 (y)]) := by rw [h]
set_option maxHeartbeats 400000 in
theorem first_any (n b k : Int) (h0 : 0 ≤ k) (h1 : k ≤ n) (h2 : n ≤ 32) (hb : 0 ≤ b) (w : World) :
    Calls Tryd.prog 68 #[(.agg #[.int .i64 (n), .int .u64 (b)]), .int .i64 k] w fun e w' => e = .returned (.agg #[.int .i64 (k), .int .u64 ((pre n.toNat b.toNat k.toNat : Nat))]) ∧ Below w.heap.size w w' := by
  have H : Hid (b / 2 ^ (n - k).toNat = (pre n.toNat b.toNat k.toNat : Nat)) := pre_int n b k h0 h1 hb
  go_enter Tryd.func68, Tryd.ntmps68
  go_wp2
  exact bodyPost_ret (v := (.agg #[.int .i64 (k), .int .u64 (b / 2 ^ (n - k).toNat)])) (by simp [results, Tryd.results68, go_sem]) rfl ⟨ret_vec H.out, ((Below.refl _ _).alloc (Nat.le_refl _) _).alloc (by simp) _⟩

theorem bcell {W w1 : World} (hb : Below W.heap.size W w1) : (∀ b o, b < W.heap.size → w1.cell? ⟨b, o, none⟩ = W.cell? ⟨b, o, none⟩) ∧ (∀ b o, b < W.heap.size → w1.frozen? ⟨b, o, none⟩ = W.frozen? ⟨b, o, none⟩) :=
  ⟨fun b o h => hb.cell (p := ⟨b, o, none⟩) h, fun b o h => hb.frozen (p := ⟨b, o, none⟩) h⟩
theorem bstep {a x y : World} (h : Below a.heap.size a x) (k : Below x.heap.size x y) : Below a.heap.size a y := h.trans (k.mono h.size)
theorem bx {w w1 : World} {o : Obj} (hb : Below (w.alloc o).heap.size (w.alloc o) w1) : Below w.heap.size w w1 :=
  ((Below.refl _ _).alloc (Nat.le_refl _) _).trans (hb.mono (by simp))
theorem bx2 {w w1 : World} {o p : Obj} (hb : Below ((w.alloc o).alloc p).heap.size ((w.alloc o).alloc p) w1) : Below w.heap.size w w1 := bx ((bx hb).mono (by simp))

def reS (n b : Int) : Int := if rt n b = true then 0 else 10
theorem reS_yes {n b : Int} (h : rt n b = true) : reS n b = 0 := if_pos h
theorem reS_no {n b : Int} (h : rt n b = false) : reS n b = 10 := if_neg (by simp [h])
theorem vright_any (n b : Int) (hb : 0 ≤ b) (w : World) :
    Calls Tryd.prog 45 #[(.agg #[.int .i64 (n), .int .u64 (b)])] w fun e w' => e = .returned (.int .i64 (reS n b)) ∧ Below w.heap.size w w' := by
  cases h : rt n b with
  | true => rw [reS_yes h]; exact vright_yes n b h hb w
  | false => rw [reS_no h]; exact vright_no n b h w

/-- The error of two. -/
def rbS (n b m c : Int) : Int := if rt n b = true then reS m c else 10

set_option maxHeartbeats 400000 in
theorem rightBoth_any (n b m c : Int) (hb : 0 ≤ b) (hd : 0 ≤ c) (w : World) :
    Calls Tryd.prog 63 #[(.agg #[.int .i64 (n), .int .u64 (b)]), (.agg #[.int .i64 (m), .int .u64 (c)])] w fun e w' => e = .returned (.int .i64 (rbS n b m c)) ∧ Below w.heap.size w w' := by
  cases h : rt n b with
  | false =>
    have e : reS n b = 10 := reS_no h
    have H : Hid (rbS n b m c = 10) := if_neg (by simp [h])
    clear h
    go_enter Tryd.func63, Tryd.ntmps63
    go_wp2_with (go_at_call 45; refine (vright_any _ _ (by omega) _).mono ?_; rintro e w' ⟨rfl, hbb⟩)
    go_ret
    exact ⟨ret_int H.out.symm, bx2 hbb⟩
  | true =>
    have e : reS n b = 0 := reS_yes h
    have H : Hid (rbS n b m c = reS m c) := if_pos h
    clear h
    go_enter Tryd.func63, Tryd.ntmps63
    go_wp2_with fail
    refine (vright_any _ _ (by omega) _).mono ?_; rintro e w' ⟨rfl, hbb⟩; obtain ⟨hc, hf⟩ := bcell hbb
    go_wp2_with fail
    refine (vright_any _ _ (by omega) _).mono ?_; rintro e w2 ⟨rfl, hb2⟩
    go_wp2
    go_ret
    exact ⟨ret_int H.out.symm, (bx2 hbb).trans (hb2.mono (by have := hbb.size; simp at this; omega))⟩

/-- Block b holds just the two values. -/
def IsV (w : World) (b : Nat) (x y : Value) : Prop := w.heap[b]? = some (.cells #[x, y] 28 (0, 0))
theorem IsV.lt {w : World} {b : Nat} {x y : Value} (h : IsV w b x y) : b < w.heap.size := by
  rcases Nat.lt_or_ge b w.heap.size with hlt | hge
  · exact hlt
  · unfold IsV at h; rw [Array.getElem?_eq_none hge] at h; cases h
theorem IsV.c {w : World} {b : Nat} {x y : Value} (h : IsV w b x y) : w.cell? ⟨b, 0, none⟩ = some x ∧ w.cell? ⟨b, 1, none⟩ = some y ∧ w.frozen? ⟨b, 0, none⟩ = false ∧ w.frozen? ⟨b, 1, none⟩ = false :=
  ⟨by rw [cell_of_row w b 0 _ _ _ h]; rfl, by rw [cell_of_row w b 1 _ _ _ h]; rfl, frozen_of_row w b 0 _ _ h, frozen_of_row w b 1 _ _ h⟩
theorem IsV.new (w : World) (x y : Value) : IsV (w.alloc (.cells #[x, y] 28)) w.heap.size x y := heap_new w _
theorem IsV.alloc {w : World} {b : Nat} {x y : Value} (h : IsV w b x y) (o : Obj) : IsV (w.alloc o) b x y := by
  have := h.lt
  unfold IsV at *; rw [Below.heap_alloc _ _ _ this]; exact h
theorem IsV.below {w w' : World} {b : Nat} {x y : Value} (h : IsV w b x y) (hb : Below w.heap.size w w') : IsV w' b x y := (hb.block b h.lt).trans h

/-- Does the first vector begin with the second? -/
def bgS (n b m c : Int) : Bool := rt n b && rt m c && decide (m ≤ n) && decide (((pre n.toNat b.toNat m.toNat : Nat) : Int) = c)

theorem rbS_zero {n b m c : Int} : rbS n b m c = 0 ↔ rt n b = true ∧ rt m c = true := by
  unfold rbS reS
  constructor
  · intro h
    split at h
    · split at h
      · exact ⟨by assumption, by assumption⟩
      · omega
    · omega
  · rintro ⟨h1, h2⟩; rw [if_pos h1, if_pos h2]



end Go.Proofs.YtfcmmchppcffmaaDoor
