/- Walks: a bit, the first bits, the others, and a turned bit, by the document's answer. -/
import Derived.Test.YtdjlmmgnknfkfabF
namespace Go.Proofs.Ytdjlmmgnknfkfab
open Go.RowKit

theorem rt_false_hb {n b i : Int} (h : rt n b = false) : hbS n b i = 10 := if_neg (by simp [h])
theorem rt_false_hc {n b i : Int} (h : rt n b = false) : hcS n b i = 10 := if_neg (by simp [h])
theorem hb_in {n b i : Int} (h : rt n b = true) (h1 : 0 ≤ i) (h2 : i < n) : hbS n b i = 0 := (if_pos h).trans (if_pos ⟨h1, h2⟩)
theorem hb_out {n b i : Int} (h : rt n b = true) (h1 : i < 0 ∨ n ≤ i) : hbS n b i = 5 := (if_pos h).trans (if_neg (by omega))
theorem hc_in {n b i : Int} (h : rt n b = true) (h1 : 0 ≤ i) (h2 : i ≤ n) : hcS n b i = 0 := (if_pos h).trans (if_pos ⟨h1, h2⟩)
theorem hc_out {n b i : Int} (h : rt n b = true) (h1 : i < 0 ∨ n < i) : hcS n b i = 5 := (if_pos h).trans (if_neg (by omega))

/-- What a row owned holds, cell by cell. -/
theorem row_of {w : World} {base g n cap : Nat} {l : List Nat} (h : w.ownsRow base 3 1 (.slice (some ⟨g, 0, none⟩) n cap) n (l.map cell)) : l.length = n ∧ Row w g 0 l ∧ g < w.heap.size ∧ (∀ j, w.frozen? ⟨g, j, none⟩ = false) := by
  have hl : l.length = n := by simpa using h.1
  refine ⟨hl, ?_, (h.lt g (by simp [Value.ownBlock])).2, fun j => h.frozenAt j⟩
  intro j hj
  rw [Nat.zero_add, h.cellAt j (by omega)]
  simp [hj]
theorem Row.take {w : World} {g o : Nat} {l : List Nat} (h : Row w g o l) (k : Nat) : Row w g o (l.take k) := by
  intro j hj
  rw [List.length_take] at hj
  rw [h j (by omega)]
  have : j < k := by omega
  simp [this]
theorem Row.drop {w : World} {g o : Nat} {l : List Nat} (h : Row w g o l) (k : Nat) : Row w g (o + k) (l.drop k) := by
  intro j hj
  rw [List.length_drop] at hj
  have := h (k + j) (by omega)
  rw [Nat.add_assoc, this]
  simp



set_option maxHeartbeats 400000 in
theorem rPrefix_any (n b i : Int) (hb : 0 ≤ b) (hb2 : b < 18446744073709551616) (w : World) :
    Calls Try.prog 9 #[(.agg #[.int .i64 (n), .int .u64 (b)]), .int .i64 i] w fun e w' => e = .returned (.tuple #[(.agg #[.int .i64 (sel (hcS n b i) (i)), .int .u64 (sel (hcS n b i) (pre n.toNat b.toNat i.toNat : Nat))]), .int .i64 (hcS n b i)]) ∧ Below w.heap.size w w' := by
  cases hr : rt n b with
  | false =>
    rw [rt_false_hc hr, sel_ne (by omega), sel_ne (by omega)]
    go_enter Try.func9, Try.ntmps9
    go_wp2_with fail
    refine (rright_any _ _ _).mono ?_; rintro e w1 ⟨rfl, hb1⟩; obtain ⟨hc1, hf1⟩ := bcell hb1
    have I := ((Is2.new (w.alloc (.cells #[.int .i64 n, .int .u64 b] 24)) (.int .i64 0) (.int .u64 0)).below hb1)
    rw [World.size_alloc] at I
    obtain ⟨k0, k1, -, -⟩ := ((I.set0 (.int .i64 0)).set1 (.int .u64 0)).c
    have K0 := hide k0
    have K1 := hide k1
    clear k0 k1 I
    go_wp2
    exact bodyPost_ret (v := .tuple #[(.agg #[.int .i64 (0), .int .u64 (0)]), .int .i64 10]) (by simp [results, Try.results9, go_sem, K0.out, K1.out]) rfl ⟨rfl, ((bx2 hb1).setCell (by simp) _).setCell (by simp) _⟩
  | true =>
    by_cases hi : i < 0 ∨ n < i
    · rw [hc_out hr hi, sel_ne (by omega), sel_ne (by omega)]
      by_cases hi0 : i < 0
      · clear hi
        go_enter Try.func9, Try.ntmps9
        go_wp2_with fail
        refine (rright_any _ _ _).mono ?_; rintro e w1 ⟨rfl, hb1⟩; obtain ⟨hc1, hf1⟩ := bcell hb1
        have I := ((Is2.new (w.alloc (.cells #[.int .i64 n, .int .u64 b] 24)) (.int .i64 0) (.int .u64 0)).below hb1)
        rw [World.size_alloc] at I
        obtain ⟨k0, k1, -, -⟩ := ((I.set0 (.int .i64 0)).set1 (.int .u64 0)).c
        have K0 := hide k0
        have K1 := hide k1
        clear k0 k1 I
        go_wp2
        exact bodyPost_ret (v := .tuple #[(.agg #[.int .i64 (0), .int .u64 (0)]), .int .i64 5]) (by simp [results, Try.results9, go_sem, K0.out, K1.out]) rfl ⟨rfl, ((bx2 hb1).setCell (by simp) _).setCell (by simp) _⟩
      · have hi1 : n < i := by omega
        have hi2 : 0 ≤ i := by omega
        clear hi hi0
        go_enter Try.func9, Try.ntmps9
        go_wp2_with fail
        refine (rright_any _ _ _).mono ?_; rintro e w1 ⟨rfl, hb1⟩; obtain ⟨hc1, hf1⟩ := bcell hb1
        have I := ((Is2.new (w.alloc (.cells #[.int .i64 n, .int .u64 b] 24)) (.int .i64 0) (.int .u64 0)).below hb1)
        rw [World.size_alloc] at I
        obtain ⟨k0, k1, -, -⟩ := ((I.set0 (.int .i64 0)).set1 (.int .u64 0)).c
        have K0 := hide k0
        have K1 := hide k1
        clear k0 k1 I
        go_wp2
        exact bodyPost_ret (v := .tuple #[(.agg #[.int .i64 (0), .int .u64 (0)]), .int .i64 5]) (by simp [results, Try.results9, go_sem, K0.out, K1.out]) rfl ⟨rfl, ((bx2 hb1).setCell (by simp) _).setCell (by simp) _⟩
    · obtain ⟨m, c, rfl, rfl, hm, hc⟩ := rt_nat hr hb
      obtain ⟨k, rfl⟩ := Int.eq_ofNat_of_zero_le (show 0 ≤ i by omega)
      rw [hc_in hr (by omega) (by omega), sel_zero rfl, sel_zero rfl]
      simp only [Int.toNat_natCast]
      have HC := hide hc
      have k1 : (k : Int) ≤ m := by omega
      have k2 : k ≤ m := by omega
      have k0 : (0 : Int) ≤ k := by omega
      have HB2 : c < 18446744073709551616 := by omega
      clear hi hc hb2 hb
      go_enter Try.func9, Try.ntmps9
      go_wp2_with fail
      refine (rright_any _ _ _).mono ?_; rintro e w1 ⟨rfl, hb1⟩; obtain ⟨hc1, hf1⟩ := bcell hb1
      have hz1 : w.heap.size + 1 < w1.heap.size := by have := hb1.size; simp at this; omega
      go_wp2_with fail
      refine (bits_any _ _ (by omega) HB2 _).mono ?_; rintro e w2 ⟨g, rfl, hg, hown, hb3⟩; obtain ⟨hc2, hf2⟩ := bcell hb3
      have hz2 : w.heap.size + 1 < w2.heap.size := by have := hb3.size; omega
      obtain ⟨hlen, hrow, hgl, hgf⟩ := row_of hown
      have I := ((Is2.new (w.alloc (.cells #[.int .i64 (m : Int), .int .u64 (c : Int)] 24)) (.int .i64 0) (.int .u64 0)).below hb1).below hb3
      rw [World.size_alloc] at I
      replace I := hide I
      replace hrow := hide hrow
      replace hgf := hide hgf
      clear hown
      go_wp2_with fail
      refine (of_any _ _ _ _ ((bl m c).take k) _ (by rw [List.length_take, bl_length]; omega) (by omega) (fun x hx => bl_mem m c x (List.mem_of_mem_take hx)) hgl (hrow.out.take k)).mono ?_
      rintro e w3 ⟨rfl, hb4⟩; obtain ⟨hc3, hf3⟩ := bcell hb4
      rw [ofl_bl_take m c k HC.out k2]
      obtain ⟨j0, j1, -, -⟩ := (((I.out.below hb4).set0 (.int .i64 (k : Int))).set1 (.int .u64 (pre m c k : Nat))).c
      have J0 := hide j0
      have J1 := hide j1
      clear j0 j1
      have HP : Hid (c / 2 ^ (m - k) = pre m c k) := rfl
      rw [HP.out]
      go_wp2
      exact bodyPost_ret (v := .tuple #[(.agg #[.int .i64 ((k : Int)), .int .u64 ((pre m c k : Nat))]), .int .i64 0]) (by simp [results, Try.results9, go_sem, J0.out, J1.out]) rfl ⟨rfl, ((bstep (bstep (bx2 hb1) hb3) hb4).setCell (by simp) _).setCell (by simp) _⟩





end Go.Proofs.Ytdjlmmgnknfkfab
