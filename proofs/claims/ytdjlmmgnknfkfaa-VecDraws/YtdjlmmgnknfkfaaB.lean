/- Walks: the tests of package vec, and the row of bits of a vector and back, as the document's answer has them. -/
import Derived.Test.YtdjlmmgnknfkfaaA
namespace Go.Proofs.Ytdjlmmgnknfkfaa
open Go.RowKit

theorem bcell {W w1 : World} (hb : Below W.heap.size W w1) : (∀ b o, b < W.heap.size → w1.cell? ⟨b, o, none⟩ = W.cell? ⟨b, o, none⟩) ∧ (∀ b o, b < W.heap.size → w1.frozen? ⟨b, o, none⟩ = W.frozen? ⟨b, o, none⟩) :=
  ⟨fun b o h => hb.cell (p := ⟨b, o, none⟩) h, fun b o h => hb.frozen (p := ⟨b, o, none⟩) h⟩
theorem hide {p : Prop} (h : p) : Hid p := h
theorem below_of_grown {w w1 : World} (h : w.grownBy w1 none) : Below w.heap.size w w1 := ⟨h.os, h.tape, h.output, h.size, fun k hk => h.block k hk (by simp)⟩
theorem bstep {a x y : World} (h : Below a.heap.size a x) (k : Below x.heap.size x y) : Below a.heap.size a y := h.trans (k.mono h.size)
theorem bx {w w1 : World} {o : Obj} (hb : Below (w.alloc o).heap.size (w.alloc o) w1) : Below w.heap.size w w1 :=
  ((Below.refl _ _).alloc (Nat.le_refl _) _).trans (hb.mono (by simp))
theorem bx2 {w w1 : World} {o p : Obj} (hb : Below ((w.alloc o).alloc p).heap.size ((w.alloc o).alloc p) w1) : Below w.heap.size w w1 := bx ((bx hb).mono (by simp))

def reS (n b : Int) : Int := if rt n b = true then 0 else 10
theorem reS_yes {n b : Int} (h : rt n b = true) : reS n b = 0 := if_pos h
theorem reS_no {n b : Int} (h : rt n b = false) : reS n b = 10 := if_neg (by simp [h])
theorem vright_any (n b : Int) (hb : 0 ≤ b) (w : World) :
    Calls Try.prog 17 #[(.agg #[.int .i64 (n), .int .u64 (b)])] w fun e w' => e = .returned (.int .i64 (reS n b)) ∧ Below w.heap.size w w' := by
  cases h : rt n b with
  | true => rw [reS_yes h]; exact vright_yes n b h hb w
  | false => rw [reS_no h]; exact vright_no n b h w

/-- The error of a bit's place. -/
def hbS (n b i : Int) : Int := if rt n b = true then (if 0 ≤ i ∧ i < n then 0 else 5) else 10
/-- The error of a count of first bits. -/
def hcS (n b i : Int) : Int := if rt n b = true then (if 0 ≤ i ∧ i ≤ n then 0 else 5) else 10

set_option maxHeartbeats 400000 in
theorem hasBit_any (n b i : Int) (hb : 0 ≤ b) (w : World) :
    Calls Try.prog 39 #[(.agg #[.int .i64 (n), .int .u64 (b)]), .int .i64 i] w fun e w' => e = .returned (.int .i64 (hbS n b i)) ∧ Below w.heap.size w w' := by
  cases h : rt n b with
  | false =>
    have e : reS n b = 10 := reS_no h
    have H : Hid (hbS n b i = 10) := if_neg (by simp [h])
    clear h
    go_enter Try.func39, Try.ntmps39
    go_wp2_with (go_at_call 17; refine (vright_any _ _ (by omega) _).mono ?_; rintro e w' ⟨rfl, hbb⟩)
    go_ret
    exact ⟨ret_int H.out.symm, bx hbb⟩
  | true =>
    have e : reS n b = 0 := reS_yes h
    by_cases hi : 0 ≤ i ∧ i < n
    · have H : Hid (hbS n b i = 0) := (if_pos h).trans (if_pos hi)
      clear h
      obtain ⟨h1, h2⟩ := hi
      go_enter Try.func39, Try.ntmps39
      go_wp2_with (go_at_call 17; refine (vright_any _ _ (by omega) _).mono ?_; rintro e w' ⟨rfl, hbb⟩; obtain ⟨hc, hf⟩ := bcell hbb)
      go_ret
      exact ⟨ret_int H.out.symm, bx hbb⟩
    · have H : Hid (hbS n b i = 5) := (if_pos h).trans (if_neg hi)
      clear h
      by_cases h1 : 0 ≤ i
      · have h2 : n ≤ i := by omega
        clear hi
        go_enter Try.func39, Try.ntmps39
        go_wp2_with (go_at_call 17; refine (vright_any _ _ (by omega) _).mono ?_; rintro e w' ⟨rfl, hbb⟩; obtain ⟨hc, hf⟩ := bcell hbb)
        go_ret
        exact ⟨ret_int H.out.symm, bx hbb⟩
      · have h2 : i < 0 := by omega
        clear hi
        go_enter Try.func39, Try.ntmps39
        go_wp2_with (go_at_call 17; refine (vright_any _ _ (by omega) _).mono ?_; rintro e w' ⟨rfl, hbb⟩; obtain ⟨hc, hf⟩ := bcell hbb)
        go_ret
        exact ⟨ret_int H.out.symm, bx hbb⟩

set_option maxHeartbeats 400000 in
theorem hasCut_any (n b i : Int) (hb : 0 ≤ b) (w : World) :
    Calls Try.prog 42 #[(.agg #[.int .i64 (n), .int .u64 (b)]), .int .i64 i] w fun e w' => e = .returned (.int .i64 (hcS n b i)) ∧ Below w.heap.size w w' := by
  cases h : rt n b with
  | false =>
    have e : reS n b = 10 := reS_no h
    have H : Hid (hcS n b i = 10) := if_neg (by simp [h])
    clear h
    go_enter Try.func42, Try.ntmps42
    go_wp2_with (go_at_call 17; refine (vright_any _ _ (by omega) _).mono ?_; rintro e w' ⟨rfl, hbb⟩)
    go_ret
    exact ⟨ret_int H.out.symm, bx hbb⟩
  | true =>
    have e : reS n b = 0 := reS_yes h
    by_cases hi : 0 ≤ i ∧ i ≤ n
    · have H : Hid (hcS n b i = 0) := (if_pos h).trans (if_pos hi)
      clear h
      obtain ⟨h1, h2⟩ := hi
      go_enter Try.func42, Try.ntmps42
      go_wp2_with (go_at_call 17; refine (vright_any _ _ (by omega) _).mono ?_; rintro e w' ⟨rfl, hbb⟩; obtain ⟨hc, hf⟩ := bcell hbb)
      go_ret
      exact ⟨ret_int H.out.symm, bx hbb⟩
    · have H : Hid (hcS n b i = 5) := (if_pos h).trans (if_neg hi)
      clear h
      by_cases h1 : 0 ≤ i
      · have h2 : n < i := by omega
        clear hi
        go_enter Try.func42, Try.ntmps42
        go_wp2_with (go_at_call 17; refine (vright_any _ _ (by omega) _).mono ?_; rintro e w' ⟨rfl, hbb⟩; obtain ⟨hc, hf⟩ := bcell hbb)
        go_ret
        exact ⟨ret_int H.out.symm, bx hbb⟩
      · have h2 : i < 0 := by omega
        clear hi
        go_enter Try.func42, Try.ntmps42
        go_wp2_with (go_at_call 17; refine (vright_any _ _ (by omega) _).mono ?_; rintro e w' ⟨rfl, hbb⟩; obtain ⟨hc, hf⟩ := bcell hbb)
        go_ret
        exact ⟨ret_int H.out.symm, bx hbb⟩

/-- The error of two. -/
def rbS (n b m c : Int) : Int := if rt n b = true then reS m c else 10

set_option maxHeartbeats 400000 in
theorem rightBoth_any (n b m c : Int) (hb : 0 ≤ b) (hd : 0 ≤ c) (w : World) :
    Calls Try.prog 47 #[(.agg #[.int .i64 (n), .int .u64 (b)]), (.agg #[.int .i64 (m), .int .u64 (c)])] w fun e w' => e = .returned (.int .i64 (rbS n b m c)) ∧ Below w.heap.size w w' := by
  cases h : rt n b with
  | false =>
    have e : reS n b = 10 := reS_no h
    have H : Hid (rbS n b m c = 10) := if_neg (by simp [h])
    clear h
    go_enter Try.func47, Try.ntmps47
    go_wp2_with (go_at_call 17; refine (vright_any _ _ (by omega) _).mono ?_; rintro e w' ⟨rfl, hbb⟩)
    go_ret
    exact ⟨ret_int H.out.symm, bx2 hbb⟩
  | true =>
    have e : reS n b = 0 := reS_yes h
    have H : Hid (rbS n b m c = reS m c) := if_pos h
    clear h
    go_enter Try.func47, Try.ntmps47
    go_wp2_with fail
    refine (vright_any _ _ (by omega) _).mono ?_; rintro e w' ⟨rfl, hbb⟩; obtain ⟨hc, hf⟩ := bcell hbb
    go_wp2_with fail
    refine (vright_any _ _ (by omega) _).mono ?_; rintro e w2 ⟨rfl, hb2⟩
    go_wp2
    go_ret
    exact ⟨ret_int H.out.symm, (bx2 hbb).trans (hb2.mono (by have := hbb.size; simp at this; omega))⟩

/-- A bit as a cell. -/
def cell (x : Nat) : Value := .int .i64 (x : Int)
/-- The row of a vector when its last k bits are laid. -/
def rowK (n b k : Nat) : List Value := (List.range n).map fun j => cell (if j + k < n then 0 else bt n b j)

theorem rowK_zero (n b : Nat) : rowK n b 0 = List.replicate n (.int .i64 0) := by
  apply List.ext_getElem?
  intro j
  by_cases hj : j < n <;> simp [rowK, hj, cell]
theorem rowK_all (n b : Nat) : rowK n b n = (bl n b).map cell := by
  simp only [rowK, bl, List.map_map]
  apply List.map_congr_left
  intro j _
  rw [if_neg (by omega)]; rfl
theorem rowK_step (n b k : Nat) (hk : k < n) : (rowK n b k).set (n - 1 - k) (.int .i64 ((b / 2 ^ k % 2 : Nat) : Int)) = rowK n b (k + 1) := by
  apply List.ext_getElem?
  intro j
  by_cases hj : j < n
  · rw [List.getElem?_set]
    by_cases e : n - 1 - k = j
    · have e2 : n - 1 - j = k := by omega
      rw [if_pos e, if_pos (by simp [rowK]; omega)]
      simp only [rowK, List.getElem?_map, List.getElem?_range hj, Option.map_some, bt, e2, cell]
      rw [if_neg (by omega)]
    · rw [if_neg e]
      simp only [rowK, List.getElem?_map, List.getElem?_range hj, Option.map_some]
      by_cases e3 : j + k < n
      · rw [if_pos e3, if_pos (by omega)]
      · rw [if_neg e3, if_neg (by omega)]
  · simp [rowK, hj]

theorem Try.info3 : (Try.prog.info? 3).map (fun i => (i.zero, i.size, i.bytes)) = some (some (.int .i64 0), 1, 8) := by kernel_rfl

set_option maxHeartbeats 800000 in
theorem bits_any (n b : Nat) (hn : n ≤ 32) (hb : b < 18446744073709551616) (w : World) :
    Calls Try.prog 41 #[(.agg #[.int .i64 ((n : Int)), .int .u64 ((b : Int))])] w fun e w' => ∃ g, e = .returned (.slice (some ⟨g, 0, none⟩) n n) ∧ w.heap.size ≤ g ∧
      w'.ownsRow w.heap.size 3 1 (.slice (some ⟨g, 0, none⟩) n n) n ((bl n b).map cell) ∧ Below w.heap.size w w' := by
  obtain ⟨i0, hi, hz0, hz1, hz2⟩ := info_parts Try.info3
  go_enter Try.func41, Try.ntmps41
  go_wp2_with (at_make; refine wpList_make_full _ rfl _ _ 63 rfl w.heap.size 3 i0 (.int .i64 0) 1 Try.underlying63 hi hz0 hz1 .i64 .i64 _ _ n rfl rfl rfl rfl (by rw [hz2]; omega) (by unfold maxLen; omega) (by simp) ?_)
  intro w1 hown hgrow
  have hb1 := below_of_grown hgrow
  obtain ⟨hc, hf⟩ := bcell hb1
  have hbw := bx hb1
  have hz : w.heap.size + 1 + 1 ≤ w1.heap.size := by
    have := (hown.lt (w.heap.size + 1) (by simp [Value.ownBlock])).2
    omega
  clear hgrow hb1 hf
  have hown : w1.ownsRow w.heap.size 3 1 (.slice (some ⟨w.heap.size + 1, 0, none⟩) n n) n (rowK n b 0) := by
    rw [rowK_zero, ← toList_madeCells_one]
    simpa [Value.cells] using hown
  go_wp2
  go_loopw [4, 5] (fun x i wr => ∃ k : Nat, k ≤ n ∧ i = .int .i64 ((n : Int) - 1 - k) ∧ x = .int .u64 ((b / 2 ^ k : Nat) : Int) ∧
      wr.ownsRow w.heap.size 3 1 (.slice (some ⟨w.heap.size + 1, 0, none⟩) n n) n (rowK n b k) ∧ Below w.heap.size w wr)
    (fun _ i _ => (intOf i + 1).toNat)
  case atStart => exact ⟨0, by omega, by simp, by simp, hown, hbw⟩
  case round =>
    clear hown hbw hc hz
    obtain ⟨k, hk, rfl, rfl, hown, hbw⟩ := hrel
    by_cases hlt : k < n
    · have hst := hown.stored (n - 1 - k) (.int .i64 ((b / 2 ^ k % 2 : Nat) : Int))
      have hfz := hown.frozenAt (n - 1 - k)
      rw [rowK_step n b k hlt] at hst
      obtain ⟨hst, _⟩ := hst
      obtain ⟨u, hcl⟩ : ∃ u, wr.cell? ⟨w.heap.size + 1, n - 1 - k, none⟩ = some u := by
        rw [hown.cellAt (n - 1 - k) (by omega)]
        simp [rowK, show n - 1 - k < n from by omega]
      have em : ((b / 2 ^ k % 2 : Nat) : Int) = ((b / 2 ^ k : Nat) : Int) % 2 := by omega
      rw [em] at hst
      have HS := hide hst
      clear hst em
      have H2 : Hid (b / 2 ^ (k + 1) = b / 2 ^ k / 2) := by
        show _ = _
        rw [Nat.div_div_eq_div_mul, Nat.pow_succ]
      have hq : b / 2 ^ k < 18446744073709551616 := Nat.lt_of_le_of_lt (Nat.div_le_self _ _) hb
      rw [show ((n : Int) - 1 - k) = ((n - 1 - k : Nat) : Int) from by omega]
      generalize hj : n - 1 - k = j at *
      have hj2 : j < n := by omega
      have HJ := hide hj
      clear hj hb
      generalize b / 2 ^ k = q at *
      go_wp2
      refine ⟨⟨k + 1, by omega, ?_, ?_, HS.out, ?_⟩, ?_⟩
      · have := HJ.out; rw [show ((j : Int) - 1) = (n : Int) - 1 - ((k + 1 : Nat) : Int) from by omega]
      · rw [H2.out]; simp
      · exact hbw.setCell (by simp) _
      · simp [intOf]
    · go_wp2
      go_ret
      have e : k = n := by omega
      subst e
      rw [rowK_all] at hown
      exact ⟨_, rfl, by omega, hown, hbw⟩

end Go.Proofs.Ytdjlmmgnknfkfaa
