/- Walks: a bit, the first bits, the others, and a turned bit, by the document's answer. -/
import Derived.Test.YtdjlmmgnknfkfaaF
namespace Go.Proofs.Ytdjlmmgnknfkfaa
open Go.RowKit

theorem rt_false_hb {n b i : Int} (h : rt n b = false) : hbS n b i = 10 := if_neg (by simp [h])
theorem rt_false_hc {n b i : Int} (h : rt n b = false) : hcS n b i = 10 := if_neg (by simp [h])
theorem hb_in {n b i : Int} (h : rt n b = true) (h1 : 0 ≤ i) (h2 : i < n) : hbS n b i = 0 := (if_pos h).trans (if_pos ⟨h1, h2⟩)
theorem hb_out {n b i : Int} (h : rt n b = true) (h1 : i < 0 ∨ n ≤ i) : hbS n b i = 5 := (if_pos h).trans (if_neg (by omega))
theorem hc_in {n b i : Int} (h : rt n b = true) (h1 : 0 ≤ i) (h2 : i ≤ n) : hcS n b i = 0 := (if_pos h).trans (if_pos ⟨h1, h2⟩)
theorem hc_out {n b i : Int} (h : rt n b = true) (h1 : i < 0 ∨ n < i) : hcS n b i = 5 := (if_pos h).trans (if_neg (by omega))

/-- What a row owned holds, cell by cell. -/
theorem row_of {w : World} {base g n cap : Nat} {l : List Nat} (h : w.ownsRow base 3 1 (.slice (some ⟨g, 0, none⟩) n cap) n (l.map cell)) : l.length = n ∧ Row w g 0 l ∧ g < w.heap.size ∧ (∀ j, w.frozen? ⟨g, j, none⟩ = false) := by
  have hl : l.length = n := by simpa using h.1
  refine ⟨hl, ?_, (h.lt g (by simp [Value.ownBlock])).2, fun j => h.frozenAt j⟩
  intro j hj
  rw [Nat.zero_add, h.cellAt j (by omega)]
  simp [hj]
theorem Row.take {w : World} {g o : Nat} {l : List Nat} (h : Row w g o l) (k : Nat) : Row w g o (l.take k) := by
  intro j hj
  rw [List.length_take] at hj
  rw [h j (by omega)]
  have : j < k := by omega
  simp [this]
theorem Row.drop {w : World} {g o : Nat} {l : List Nat} (h : Row w g o l) (k : Nat) : Row w g (o + k) (l.drop k) := by
  intro j hj
  rw [List.length_drop] at hj
  have := h (k + j) (by omega)
  rw [Nat.add_assoc, this]
  simp

set_option maxHeartbeats 400000 in
theorem rBit_any (n b i : Int) (hb : 0 ≤ b) (hb2 : b < 18446744073709551616) (w : World) :
    Calls Try.prog 10 #[(.agg #[.int .i64 (n), .int .u64 (b)]), .int .i64 i] w fun e w' => e = .returned (.tuple #[.int .i64 (sel (hbS n b i) (bt n.toNat b.toNat i.toNat : Nat)), .int .i64 (hbS n b i)]) ∧ Below w.heap.size w w' := by
  cases hr : rt n b with
  | false =>
    rw [rt_false_hb hr, sel_ne (by omega)]
    go_enter Try.func10, Try.ntmps10
    go_wp2_with fail
    refine (rright_any _ _ _).mono ?_; rintro e w1 ⟨rfl, hb1⟩; obtain ⟨hc1, hf1⟩ := bcell hb1
    go_wp2
    go_ret2
    exact ⟨rfl, bx hb1⟩
  | true =>
    by_cases hi : i < 0 ∨ n ≤ i
    · rw [hb_out hr hi, sel_ne (by omega)]
      rcases hi with hi | hi
      · go_enter Try.func10, Try.ntmps10
        go_wp2_with fail
        refine (rright_any _ _ _).mono ?_; rintro e w1 ⟨rfl, hb1⟩; obtain ⟨hc1, hf1⟩ := bcell hb1
        go_wp2
        go_ret2
        exact ⟨rfl, bx hb1⟩
      · by_cases hi0 : 0 ≤ i
        · go_enter Try.func10, Try.ntmps10
          go_wp2_with fail
          refine (rright_any _ _ _).mono ?_; rintro e w1 ⟨rfl, hb1⟩; obtain ⟨hc1, hf1⟩ := bcell hb1
          go_wp2
          go_ret2
          exact ⟨rfl, bx hb1⟩
        · have hi1 : i < 0 := by omega
          go_enter Try.func10, Try.ntmps10
          go_wp2_with fail
          refine (rright_any _ _ _).mono ?_; rintro e w1 ⟨rfl, hb1⟩; obtain ⟨hc1, hf1⟩ := bcell hb1
          go_wp2
          go_ret2
          exact ⟨rfl, bx hb1⟩
    · obtain ⟨m, c, rfl, rfl, hm, hc⟩ := rt_nat hr hb
      obtain ⟨k, rfl⟩ := Int.eq_ofNat_of_zero_le (show 0 ≤ i by omega)
      have hk : k < m := by omega
      rw [hb_in hr (by omega) (by omega), sel_zero rfl]
      simp only [Int.toNat_natCast]
      have k1 : (k : Int) < m := by omega
      have k0 : (0 : Int) ≤ k := by omega
      have HB2 : c < 18446744073709551616 := by omega
      clear hi hc hb2 hb
      go_enter Try.func10, Try.ntmps10
      go_wp2_with fail
      refine (rright_any _ _ _).mono ?_; rintro e w1 ⟨rfl, hb1⟩; obtain ⟨hc1, hf1⟩ := bcell hb1
      go_wp2_with fail
      refine (bits_any _ _ (by omega) HB2 _).mono ?_; rintro e w2 ⟨g, rfl, hg, hown, hb3⟩
      obtain ⟨-, hrow, -, -⟩ := row_of hown
      have hcl := hrow k (by rw [bl_length]; omega)
      rw [Nat.zero_add] at hcl
      have e : (bl m c).getD k 0 = bt m c k := by simp [bl_get _ _ _ hk]
      rw [e, cell] at hcl
      clear hrow hown e
      go_wp2
      go_ret2
      exact ⟨rfl, bstep (bx hb1) hb3⟩

set_option maxHeartbeats 400000 in
theorem rPrefix_any (n b i : Int) (hb : 0 ≤ b) (hb2 : b < 18446744073709551616) (w : World) :
    Calls Try.prog 12 #[(.agg #[.int .i64 (n), .int .u64 (b)]), .int .i64 i] w fun e w' => e = .returned (.tuple #[(.agg #[.int .i64 (sel (hcS n b i) (i)), .int .u64 (sel (hcS n b i) (pre n.toNat b.toNat i.toNat : Nat))]), .int .i64 (hcS n b i)]) ∧ Below w.heap.size w w' := by
  cases hr : rt n b with
  | false =>
    rw [rt_false_hc hr, sel_ne (by omega), sel_ne (by omega)]
    go_enter Try.func12, Try.ntmps12
    go_wp2_with fail
    refine (rright_any _ _ _).mono ?_; rintro e w1 ⟨rfl, hb1⟩; obtain ⟨hc1, hf1⟩ := bcell hb1
    have I := ((Is2.new (w.alloc (.cells #[.int .i64 n, .int .u64 b] 24)) (.int .i64 0) (.int .u64 0)).below hb1)
    rw [World.size_alloc] at I
    obtain ⟨k0, k1, -, -⟩ := ((I.set0 (.int .i64 0)).set1 (.int .u64 0)).c
    have K0 := hide k0
    have K1 := hide k1
    clear k0 k1 I
    go_wp2
    exact bodyPost_ret (v := .tuple #[(.agg #[.int .i64 (0), .int .u64 (0)]), .int .i64 10]) (by simp [results, Try.results12, go_sem, K0.out, K1.out]) rfl ⟨rfl, ((bx2 hb1).setCell (by simp) _).setCell (by simp) _⟩
  | true =>
    by_cases hi : i < 0 ∨ n < i
    · rw [hc_out hr hi, sel_ne (by omega), sel_ne (by omega)]
      by_cases hi0 : i < 0
      · clear hi
        go_enter Try.func12, Try.ntmps12
        go_wp2_with fail
        refine (rright_any _ _ _).mono ?_; rintro e w1 ⟨rfl, hb1⟩; obtain ⟨hc1, hf1⟩ := bcell hb1
        have I := ((Is2.new (w.alloc (.cells #[.int .i64 n, .int .u64 b] 24)) (.int .i64 0) (.int .u64 0)).below hb1)
        rw [World.size_alloc] at I
        obtain ⟨k0, k1, -, -⟩ := ((I.set0 (.int .i64 0)).set1 (.int .u64 0)).c
        have K0 := hide k0
        have K1 := hide k1
        clear k0 k1 I
        go_wp2
        exact bodyPost_ret (v := .tuple #[(.agg #[.int .i64 (0), .int .u64 (0)]), .int .i64 5]) (by simp [results, Try.results12, go_sem, K0.out, K1.out]) rfl ⟨rfl, ((bx2 hb1).setCell (by simp) _).setCell (by simp) _⟩
      · have hi1 : n < i := by omega
        have hi2 : 0 ≤ i := by omega
        clear hi hi0
        go_enter Try.func12, Try.ntmps12
        go_wp2_with fail
        refine (rright_any _ _ _).mono ?_; rintro e w1 ⟨rfl, hb1⟩; obtain ⟨hc1, hf1⟩ := bcell hb1
        have I := ((Is2.new (w.alloc (.cells #[.int .i64 n, .int .u64 b] 24)) (.int .i64 0) (.int .u64 0)).below hb1)
        rw [World.size_alloc] at I
        obtain ⟨k0, k1, -, -⟩ := ((I.set0 (.int .i64 0)).set1 (.int .u64 0)).c
        have K0 := hide k0
        have K1 := hide k1
        clear k0 k1 I
        go_wp2
        exact bodyPost_ret (v := .tuple #[(.agg #[.int .i64 (0), .int .u64 (0)]), .int .i64 5]) (by simp [results, Try.results12, go_sem, K0.out, K1.out]) rfl ⟨rfl, ((bx2 hb1).setCell (by simp) _).setCell (by simp) _⟩
    · obtain ⟨m, c, rfl, rfl, hm, hc⟩ := rt_nat hr hb
      obtain ⟨k, rfl⟩ := Int.eq_ofNat_of_zero_le (show 0 ≤ i by omega)
      rw [hc_in hr (by omega) (by omega), sel_zero rfl, sel_zero rfl]
      simp only [Int.toNat_natCast]
      have HC := hide hc
      have k1 : (k : Int) ≤ m := by omega
      have k2 : k ≤ m := by omega
      have k0 : (0 : Int) ≤ k := by omega
      have HB2 : c < 18446744073709551616 := by omega
      clear hi hc hb2 hb
      go_enter Try.func12, Try.ntmps12
      go_wp2_with fail
      refine (rright_any _ _ _).mono ?_; rintro e w1 ⟨rfl, hb1⟩; obtain ⟨hc1, hf1⟩ := bcell hb1
      have hz1 : w.heap.size + 1 < w1.heap.size := by have := hb1.size; simp at this; omega
      go_wp2_with fail
      refine (bits_any _ _ (by omega) HB2 _).mono ?_; rintro e w2 ⟨g, rfl, hg, hown, hb3⟩; obtain ⟨hc2, hf2⟩ := bcell hb3
      have hz2 : w.heap.size + 1 < w2.heap.size := by have := hb3.size; omega
      obtain ⟨hlen, hrow, hgl, hgf⟩ := row_of hown
      have I := ((Is2.new (w.alloc (.cells #[.int .i64 (m : Int), .int .u64 (c : Int)] 24)) (.int .i64 0) (.int .u64 0)).below hb1).below hb3
      rw [World.size_alloc] at I
      replace I := hide I
      replace hrow := hide hrow
      replace hgf := hide hgf
      clear hown
      go_wp2_with fail
      refine (of_any _ _ _ _ ((bl m c).take k) _ (by rw [List.length_take, bl_length]; omega) (by omega) (fun x hx => bl_mem m c x (List.mem_of_mem_take hx)) hgl (hrow.out.take k)).mono ?_
      rintro e w3 ⟨rfl, hb4⟩; obtain ⟨hc3, hf3⟩ := bcell hb4
      rw [ofl_bl_take m c k HC.out k2]
      obtain ⟨j0, j1, -, -⟩ := (((I.out.below hb4).set0 (.int .i64 (k : Int))).set1 (.int .u64 (pre m c k : Nat))).c
      have J0 := hide j0
      have J1 := hide j1
      clear j0 j1
      have HP : Hid (c / 2 ^ (m - k) = pre m c k) := rfl
      rw [HP.out]
      go_wp2
      exact bodyPost_ret (v := .tuple #[(.agg #[.int .i64 ((k : Int)), .int .u64 ((pre m c k : Nat))]), .int .i64 0]) (by simp [results, Try.results12, go_sem, J0.out, J1.out]) rfl ⟨rfl, ((bstep (bstep (bx2 hb1) hb3) hb4).setCell (by simp) _).setCell (by simp) _⟩

set_option maxHeartbeats 400000 in
theorem rRest_any (n b i : Int) (hb : 0 ≤ b) (hb2 : b < 18446744073709551616) (w : World) :
    Calls Try.prog 14 #[(.agg #[.int .i64 (n), .int .u64 (b)]), .int .i64 i] w fun e w' => e = .returned (.tuple #[(.agg #[.int .i64 (sel (hcS n b i) (n - i)), .int .u64 (sel (hcS n b i) (rst n.toNat b.toNat i.toNat : Nat))]), .int .i64 (hcS n b i)]) ∧ Below w.heap.size w w' := by
  cases hr : rt n b with
  | false =>
    rw [rt_false_hc hr, sel_ne (by omega), sel_ne (by omega)]
    go_enter Try.func14, Try.ntmps14
    go_wp2_with fail
    refine (rright_any _ _ _).mono ?_; rintro e w1 ⟨rfl, hb1⟩; obtain ⟨hc1, hf1⟩ := bcell hb1
    have I := ((Is2.new (w.alloc (.cells #[.int .i64 n, .int .u64 b] 24)) (.int .i64 0) (.int .u64 0)).below hb1)
    rw [World.size_alloc] at I
    obtain ⟨k0, k1, -, -⟩ := ((I.set0 (.int .i64 0)).set1 (.int .u64 0)).c
    have K0 := hide k0
    have K1 := hide k1
    clear k0 k1 I
    go_wp2
    exact bodyPost_ret (v := .tuple #[(.agg #[.int .i64 (0), .int .u64 (0)]), .int .i64 10]) (by simp [results, Try.results14, go_sem, K0.out, K1.out]) rfl ⟨rfl, ((bx2 hb1).setCell (by simp) _).setCell (by simp) _⟩
  | true =>
    by_cases hi : i < 0 ∨ n < i
    · rw [hc_out hr hi, sel_ne (by omega), sel_ne (by omega)]
      by_cases hi0 : i < 0
      · clear hi
        go_enter Try.func14, Try.ntmps14
        go_wp2_with fail
        refine (rright_any _ _ _).mono ?_; rintro e w1 ⟨rfl, hb1⟩; obtain ⟨hc1, hf1⟩ := bcell hb1
        have I := ((Is2.new (w.alloc (.cells #[.int .i64 n, .int .u64 b] 24)) (.int .i64 0) (.int .u64 0)).below hb1)
        rw [World.size_alloc] at I
        obtain ⟨k0, k1, -, -⟩ := ((I.set0 (.int .i64 0)).set1 (.int .u64 0)).c
        have K0 := hide k0
        have K1 := hide k1
        clear k0 k1 I
        go_wp2
        exact bodyPost_ret (v := .tuple #[(.agg #[.int .i64 (0), .int .u64 (0)]), .int .i64 5]) (by simp [results, Try.results14, go_sem, K0.out, K1.out]) rfl ⟨rfl, ((bx2 hb1).setCell (by simp) _).setCell (by simp) _⟩
      · have hi1 : n < i := by omega
        have hi2 : 0 ≤ i := by omega
        clear hi hi0
        go_enter Try.func14, Try.ntmps14
        go_wp2_with fail
        refine (rright_any _ _ _).mono ?_; rintro e w1 ⟨rfl, hb1⟩; obtain ⟨hc1, hf1⟩ := bcell hb1
        have I := ((Is2.new (w.alloc (.cells #[.int .i64 n, .int .u64 b] 24)) (.int .i64 0) (.int .u64 0)).below hb1)
        rw [World.size_alloc] at I
        obtain ⟨k0, k1, -, -⟩ := ((I.set0 (.int .i64 0)).set1 (.int .u64 0)).c
        have K0 := hide k0
        have K1 := hide k1
        clear k0 k1 I
        go_wp2
        exact bodyPost_ret (v := .tuple #[(.agg #[.int .i64 (0), .int .u64 (0)]), .int .i64 5]) (by simp [results, Try.results14, go_sem, K0.out, K1.out]) rfl ⟨rfl, ((bx2 hb1).setCell (by simp) _).setCell (by simp) _⟩
    · obtain ⟨m, c, rfl, rfl, hm, hc⟩ := rt_nat hr hb
      obtain ⟨k, rfl⟩ := Int.eq_ofNat_of_zero_le (show 0 ≤ i by omega)
      rw [hc_in hr (by omega) (by omega), sel_zero rfl, sel_zero rfl]
      simp only [Int.toNat_natCast]
      have HC := hide hc
      have k1 : (k : Int) ≤ m := by omega
      have k2 : k ≤ m := by omega
      have k0 : (0 : Int) ≤ k := by omega
      have HB2 : c < 18446744073709551616 := by omega
      clear hi hc hb2 hb
      go_enter Try.func14, Try.ntmps14
      go_wp2_with fail
      refine (rright_any _ _ _).mono ?_; rintro e w1 ⟨rfl, hb1⟩; obtain ⟨hc1, hf1⟩ := bcell hb1
      have hz1 : w.heap.size + 1 < w1.heap.size := by have := hb1.size; simp at this; omega
      go_wp2_with fail
      refine (bits_any _ _ (by omega) HB2 _).mono ?_; rintro e w2 ⟨g, rfl, hg, hown, hb3⟩; obtain ⟨hc2, hf2⟩ := bcell hb3
      have hz2 : w.heap.size + 1 < w2.heap.size := by have := hb3.size; omega
      obtain ⟨hlen, hrow, hgl, hgf⟩ := row_of hown
      have I := ((Is2.new (w.alloc (.cells #[.int .i64 (m : Int), .int .u64 (c : Int)] 24)) (.int .i64 0) (.int .u64 0)).below hb1).below hb3
      rw [World.size_alloc] at I
      replace I := hide I
      replace hrow := hide hrow
      replace hgf := hide hgf
      clear hown
      by_cases hkm : k < m
      · have km : (k : Int) < m := by omega
        go_wp2_with fail
        refine (of_any _ _ _ _ ((bl m c).drop k) _ (by rw [List.length_drop, bl_length]) (by omega) (fun x hx => bl_mem m c x (List.mem_of_mem_drop hx)) hgl (by have := hrow.out.drop k; rwa [Nat.zero_add] at this)).mono ?_
        rintro e w3 ⟨rfl, hb4⟩; obtain ⟨hc3, hf3⟩ := bcell hb4
        rw [ofl_bl_drop m c k k2]
        have HP : Hid (c % 2 ^ (m - k) = rst m c k) := rfl
        rw [HP.out]
        obtain ⟨j0, j1, -, -⟩ := (((I.out.below hb4).set0 (.int .i64 (((m - k : Nat) : Int)))).set1 (.int .u64 (rst m c k : Nat))).c
        have J0 := hide j0
        have J1 := hide j1
        clear j0 j1
        go_wp2
        exact bodyPost_ret (v := .tuple #[(.agg #[.int .i64 (((m - k : Nat) : Int)), .int .u64 ((rst m c k : Nat))]), .int .i64 0]) (by simp [results, Try.results14, go_sem, J0.out, J1.out]) rfl ⟨by rw [show ((m - k : Nat) : Int) = (m : Int) - k from by omega], ((bstep (bstep (bx2 hb1) hb3) hb4).setCell (by simp) _).setCell (by simp) _⟩
      · have km : k = m := by omega
        subst km
        go_wp2_with fail
        refine (of_any g 0 0 0 [] _ rfl (by omega) (by simp) hgl (by intro j hj; simp at hj)).mono ?_
        rintro e w3 ⟨rfl, hb4⟩; obtain ⟨hc3, hf3⟩ := bcell hb4
        have HP : Hid (ofl [] = rst k c k) := by show _ = _; simp [ofl, rst, Nat.mod_one]
        rw [HP.out]
        obtain ⟨j0, j1, -, -⟩ := (((I.out.below hb4).set0 (.int .i64 ((0 : Int)))).set1 (.int .u64 (rst k c k : Nat))).c
        have J0 := hide j0
        have J1 := hide j1
        clear j0 j1
        go_wp2
        exact bodyPost_ret (v := .tuple #[(.agg #[.int .i64 ((0 : Int)), .int .u64 ((rst k c k : Nat))]), .int .i64 0]) (by simp [results, Try.results14, go_sem, J0.out, J1.out]) rfl ⟨by simp, ((bstep (bstep (bx2 hb1) hb3) hb4).setCell (by simp) _).setCell (by simp) _⟩

set_option maxHeartbeats 400000 in
theorem rFlip_any (n b i : Int) (hb : 0 ≤ b) (hb2 : b < 18446744073709551616) (w : World) :
    Calls Try.prog 16 #[(.agg #[.int .i64 (n), .int .u64 (b)]), .int .i64 i] w fun e w' => e = .returned (.tuple #[(.agg #[.int .i64 (sel (hbS n b i) (n)), .int .u64 (sel (hbS n b i) (flp n.toNat b.toNat i.toNat : Nat))]), .int .i64 (hbS n b i)]) ∧ Below w.heap.size w w' := by
  cases hr : rt n b with
  | false =>
    rw [rt_false_hb hr, sel_ne (by omega), sel_ne (by omega)]
    go_enter Try.func16, Try.ntmps16
    go_wp2_with fail
    refine (rright_any _ _ _).mono ?_; rintro e w1 ⟨rfl, hb1⟩; obtain ⟨hc1, hf1⟩ := bcell hb1
    have I := ((Is2.new (w.alloc (.cells #[.int .i64 n, .int .u64 b] 24)) (.int .i64 0) (.int .u64 0)).below hb1)
    rw [World.size_alloc] at I
    obtain ⟨k0, k1, -, -⟩ := ((I.set0 (.int .i64 0)).set1 (.int .u64 0)).c
    have K0 := hide k0
    have K1 := hide k1
    clear k0 k1 I
    go_wp2
    exact bodyPost_ret (v := .tuple #[(.agg #[.int .i64 (0), .int .u64 (0)]), .int .i64 10]) (by simp [results, Try.results16, go_sem, K0.out, K1.out]) rfl ⟨rfl, ((bx2 hb1).setCell (by simp) _).setCell (by simp) _⟩
  | true =>
    by_cases hi : i < 0 ∨ n ≤ i
    · rw [hb_out hr hi, sel_ne (by omega), sel_ne (by omega)]
      by_cases hi0 : i < 0
      · clear hi
        go_enter Try.func16, Try.ntmps16
        go_wp2_with fail
        refine (rright_any _ _ _).mono ?_; rintro e w1 ⟨rfl, hb1⟩; obtain ⟨hc1, hf1⟩ := bcell hb1
        have I := ((Is2.new (w.alloc (.cells #[.int .i64 n, .int .u64 b] 24)) (.int .i64 0) (.int .u64 0)).below hb1)
        rw [World.size_alloc] at I
        obtain ⟨k0, k1, -, -⟩ := ((I.set0 (.int .i64 0)).set1 (.int .u64 0)).c
        have K0 := hide k0
        have K1 := hide k1
        clear k0 k1 I
        go_wp2
        exact bodyPost_ret (v := .tuple #[(.agg #[.int .i64 (0), .int .u64 (0)]), .int .i64 5]) (by simp [results, Try.results16, go_sem, K0.out, K1.out]) rfl ⟨rfl, ((bx2 hb1).setCell (by simp) _).setCell (by simp) _⟩
      · have hi1 : n ≤ i := by omega
        have hi2 : 0 ≤ i := by omega
        clear hi hi0
        go_enter Try.func16, Try.ntmps16
        go_wp2_with fail
        refine (rright_any _ _ _).mono ?_; rintro e w1 ⟨rfl, hb1⟩; obtain ⟨hc1, hf1⟩ := bcell hb1
        have I := ((Is2.new (w.alloc (.cells #[.int .i64 n, .int .u64 b] 24)) (.int .i64 0) (.int .u64 0)).below hb1)
        rw [World.size_alloc] at I
        obtain ⟨k0, k1, -, -⟩ := ((I.set0 (.int .i64 0)).set1 (.int .u64 0)).c
        have K0 := hide k0
        have K1 := hide k1
        clear k0 k1 I
        go_wp2
        exact bodyPost_ret (v := .tuple #[(.agg #[.int .i64 (0), .int .u64 (0)]), .int .i64 5]) (by simp [results, Try.results16, go_sem, K0.out, K1.out]) rfl ⟨rfl, ((bx2 hb1).setCell (by simp) _).setCell (by simp) _⟩
    · obtain ⟨m, c, rfl, rfl, hm, hc⟩ := rt_nat hr hb
      obtain ⟨k, rfl⟩ := Int.eq_ofNat_of_zero_le (show 0 ≤ i by omega)
      rw [hb_in hr (by omega) (by omega), sel_zero rfl, sel_zero rfl]
      simp only [Int.toNat_natCast]
      have HC := hide hc
      have k1 : (k : Int) < m := by omega
      have k2 : k < m := by omega
      have k0 : (0 : Int) ≤ k := by omega
      have HB2 : c < 18446744073709551616 := by omega
      clear hi hc hb2 hb
      go_enter Try.func16, Try.ntmps16
      go_wp2_with fail
      refine (rright_any _ _ _).mono ?_; rintro e w1 ⟨rfl, hb1⟩; obtain ⟨hc1, hf1⟩ := bcell hb1
      have hz1 : w.heap.size + 1 < w1.heap.size := by have := hb1.size; simp at this; omega
      go_wp2_with fail
      refine (bits_any _ _ (by omega) HB2 _).mono ?_; rintro e w2 ⟨g, rfl, hg, hown, hb3⟩; obtain ⟨hc2, hf2⟩ := bcell hb3
      have hz2 : w.heap.size + 1 < w2.heap.size := by have := hb3.size; omega
      obtain ⟨hlen, hrow, hgl, hgf⟩ := row_of hown
      have I := ((Is2.new (w.alloc (.cells #[.int .i64 (m : Int), .int .u64 (c : Int)] 24)) (.int .i64 0) (.int .u64 0)).below hb1).below hb3
      rw [World.size_alloc] at I
      replace I := hide I
      replace hrow := hide hrow
      replace hgf := hide hgf
      have hst := (hown.stored k (.int .i64 (1 - (bt m c k : Nat)))).1
      have el : ((bl m c).map cell).set k (.int .i64 (1 - (bt m c k : Nat))) = ((bl m c).set k (1 - bt m c k)).map cell := by
        have hx := bt_le m c k
        rw [List.map_set]
        have : cell (1 - bt m c k) = .int .i64 (1 - (bt m c k : Nat)) := by
          unfold cell
          rw [show ((1 - bt m c k : Nat) : Int) = 1 - (bt m c k : Nat) from by omega]
        rw [this]
      rw [el] at hst
      obtain ⟨hlen2, hrow2, hgl2, -⟩ := row_of hst
      have hrow2 := hide hrow2
      have hcl := hrow.out k (by rw [bl_length]; omega)
      rw [Nat.zero_add] at hcl
      have e : (bl m c).getD k 0 = bt m c k := by simp [bl_get _ _ _ k2]
      rw [e, cell] at hcl
      have hfl := hgf.out k
      have hx := bt_le m c k
      have I2 := hide (I.out.other ⟨g, k, none⟩ (.int .i64 (1 - (bt m c k : Nat))) (by simp; omega))
      clear hown hst el e
      have HX : Hid (ofl ((bl m c).set k (1 - bt m c k)) = flp m c k) := ofl_flip m c k HC.out k2
      have H01 : ∀ x ∈ (bl m c).set k (1 - bt m c k), x ≤ 1 := by
        intro x hx
        rcases List.mem_or_eq_of_mem_set hx with h | h
        · exact bl_mem m c x h
        · omega
      have HL := hide H01
      clear H01
      have hbs := (bstep (bx2 hb1) hb3).setCell (p := ⟨g, k, none⟩) (show w.heap.size ≤ g by omega) (.int .i64 (1 - (bt m c k : Nat)))
      go_wp2_with fail
      refine (of_any _ _ _ _ ((bl m c).set k (1 - bt m c k)) _ hlen2 (by omega) HL.out hgl2 hrow2.out).mono ?_
      rintro e w3 ⟨rfl, hb4⟩; obtain ⟨hc3, hf3⟩ := bcell hb4
      rw [HX.out]
      obtain ⟨q0, q1, q2, q3⟩ := (I2.out.below hb4).c
      obtain ⟨j0, j1, -, -⟩ := (((I2.out.below hb4).set0 (.int .i64 (m : Int))).set1 (.int .u64 (flp m c k : Nat))).c
      have J0 := hide j0
      have J1 := hide j1
      clear j0 j1 hc3 hf3
      go_wp2
      exact bodyPost_ret (v := .tuple #[(.agg #[.int .i64 ((m : Int)), .int .u64 ((flp m c k : Nat))]), .int .i64 0]) (by simp [results, Try.results16, go_sem, J0.out, J1.out]) rfl ⟨rfl, ((hbs.trans (hb4.mono hbs.size)).setCell (by simp) _).setCell (by simp) _⟩

end Go.Proofs.Ytdjlmmgnknfkfaa
