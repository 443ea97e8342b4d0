/- Walks: the other bits, and a turned bit, by package vec. -/
import Derived.Test.YtdjlmmgnknfkfaaE
namespace Go.Proofs.Ytdjlmmgnknfkfaa
open Go.RowKit

theorem rst_int (n b i : Int) (h1 : 0 ≤ i) (h2 : i ≤ n) (h3 : n ≤ 32) (hb : 0 ≤ b) (hb2 : b < 18446744073709551616) :
    bits BinOp.and IntKind.u64 b (IntKind.u64.wrap (IntKind.u64.wrap (2 ^ (n - i).toNat) - 1)) = (rst n.toNat b.toNat i.toNat : Nat) := by
  obtain ⟨b, rfl⟩ := Int.eq_ofNat_of_zero_le hb
  have e : (n - i).toNat = n.toNat - i.toNat := by omega
  rw [e, rst, Int.toNat_natCast]
  generalize hk : n.toNat - i.toNat = k
  have hp := p32 k (by omega)
  have hp0 := Nat.two_pow_pos k
  have e1 : ((2 : Int) ^ k) = ((2 ^ k : Nat) : Int) := by simp
  rw [e1]
  have e4 := Nat.and_two_pow_sub_one_eq_mod b k
  generalize 2 ^ k = y at *
  have e3 : (((y : Nat) : Int) - 1) = ((y - 1 : Nat) : Int) := by omega
  have e5 : IntKind.u64.wrap (y : Int) = y := wrap_u64 (by omega) (by omega)
  rw [e5, e3, wrap_u64 (by omega) (by omega), bits_and_u64_nat _ _ (by omega) (by omega), e4]

theorem flp_int (n b i : Int) (h1 : 0 ≤ i) (h2 : i < n) (h3 : n ≤ 32) (hb : 0 ≤ b) (hb2 : b < 18446744073709551616) :
    bits BinOp.xor IntKind.u64 b (IntKind.u64.wrap (2 ^ (n - 1 - i).toNat)) = (flp n.toNat b.toNat i.toNat : Nat) := by
  obtain ⟨b, rfl⟩ := Int.eq_ofNat_of_zero_le hb
  have e : (n - 1 - i).toNat = n.toNat - 1 - i.toNat := by omega
  rw [e, flp, Int.toNat_natCast]
  generalize hk : n.toNat - 1 - i.toNat = k
  have hp := p32 k (by omega)
  have e1 : ((2 : Int) ^ k) = ((2 ^ k : Nat) : Int) := by simp
  rw [e1]
  generalize 2 ^ k = y at *
  rw [wrap_u64 (by omega) (by omega), bits_xor_u64_nat _ _ (by omega) (by omega)]

set_option maxHeartbeats 400000 in
theorem vRest_any (n b i : Int) (hb : 0 ≤ b) (hb2 : b < 18446744073709551616) (w : World) :
    Calls Try.prog 13 #[(.agg #[.int .i64 (n), .int .u64 (b)]), .int .i64 i] w fun e w' => e = .returned (.tuple #[(.agg #[.int .i64 (sel (hcS n b i) (n - i)), .int .u64 (sel (hcS n b i) (rst n.toNat b.toNat i.toNat : Nat))]), .int .i64 (hcS n b i)]) ∧ Below w.heap.size w w' := by
  by_cases h : hcS n b i = 0
  · obtain ⟨_, h1, h2, h3⟩ := hcS_zero h
    rw [sel_zero h, sel_zero h]
    have H : Hid (bits BinOp.and IntKind.u64 b (IntKind.u64.wrap (IntKind.u64.wrap (2 ^ (n - i).toNat) - 1)) = (rst n.toNat b.toNat i.toNat : Nat)) := rst_int n b i (by omega) (by omega) (by omega) hb hb2
    clear hb2
    go_enter Try.func13, Try.ntmps13
    go_wp2_with fail
    refine (hasCut_any _ _ _ (by omega) _).mono ?_; rintro e w1 ⟨rfl, hb1⟩; obtain ⟨hc1, hf1⟩ := bcell hb1
    have I := ((Is2.new (w.alloc (.cells #[.int .i64 n, .int .u64 b] 24)) (.int .i64 0) (.int .u64 0)).below hb1)
    rw [World.size_alloc] at I
    obtain ⟨k0, k1, -, -⟩ := ((I.set0 (.int .i64 (n - i))).set1 (.int .u64 (bits BinOp.and IntKind.u64 b (IntKind.u64.wrap (IntKind.u64.wrap (2 ^ (n - i).toNat) - 1))))).c
    have K0 := hide k0
    have K1 := hide k1
    clear k0 k1 I
    go_wp2
    go_region
    go_wp2
    exact bodyPost_ret (v := .tuple #[(.agg #[.int .i64 (n - i), .int .u64 (bits BinOp.and IntKind.u64 b (IntKind.u64.wrap (IntKind.u64.wrap (2 ^ (n - i).toNat) - 1)))]), .int .i64 0]) (by simp [results, Try.results13, go_sem, K0.out, K1.out]) rfl ⟨by rw [h, H.out], (((bx2 hb1).setCell (by simp) _).setCell (by simp) _).drew⟩
  · have hq : (hcS n b i != 0) = true := by rw [bne_iff_ne]; exact h
    rw [sel_ne h, sel_ne h]
    clear h
    go_enter Try.func13, Try.ntmps13
    go_wp2_with fail
    refine (hasCut_any _ _ _ (by omega) _).mono ?_; rintro e w1 ⟨rfl, hb1⟩; obtain ⟨hc1, hf1⟩ := bcell hb1
    have I := ((Is2.new (w.alloc (.cells #[.int .i64 n, .int .u64 b] 24)) (.int .i64 0) (.int .u64 0)).below hb1)
    rw [World.size_alloc] at I
    obtain ⟨k0, k1, -, -⟩ := ((I.set0 (.int .i64 0)).set1 (.int .u64 0)).c
    have K0 := hide k0
    have K1 := hide k1
    clear k0 k1 I
    go_wp2
    exact bodyPost_ret (v := .tuple #[(.agg #[.int .i64 (0), .int .u64 (0)]), .int .i64 (hcS n b i)]) (by simp [results, Try.results13, go_sem, K0.out, K1.out]) rfl ⟨rfl, ((bx2 hb1).setCell (by simp) _).setCell (by simp) _⟩

set_option maxHeartbeats 400000 in
theorem vFlip_any (n b i : Int) (hb : 0 ≤ b) (hb2 : b < 18446744073709551616) (w : World) :
    Calls Try.prog 15 #[(.agg #[.int .i64 (n), .int .u64 (b)]), .int .i64 i] w fun e w' => e = .returned (.tuple #[(.agg #[.int .i64 (sel (hbS n b i) n), .int .u64 (sel (hbS n b i) (flp n.toNat b.toNat i.toNat : Nat))]), .int .i64 (hbS n b i)]) ∧ Below w.heap.size w w' := by
  by_cases h : hbS n b i = 0
  · obtain ⟨_, h1, h2, h3⟩ := hbS_zero h
    rw [sel_zero h, sel_zero h]
    have H : Hid (bits BinOp.xor IntKind.u64 b (IntKind.u64.wrap (2 ^ (n - 1 - i).toNat)) = (flp n.toNat b.toNat i.toNat : Nat)) := flp_int n b i (by omega) (by omega) (by omega) hb hb2
    clear hb2
    go_enter Try.func15, Try.ntmps15
    go_wp2_with fail
    refine (hasBit_any _ _ _ (by omega) _).mono ?_; rintro e w1 ⟨rfl, hb1⟩; obtain ⟨hc1, hf1⟩ := bcell hb1
    have I := ((Is2.new (w.alloc (.cells #[.int .i64 n, .int .u64 b] 24)) (.int .i64 0) (.int .u64 0)).below hb1)
    rw [World.size_alloc] at I
    obtain ⟨k0, k1, -, -⟩ := ((I.set0 (.int .i64 (n))).set1 (.int .u64 (bits BinOp.xor IntKind.u64 b (IntKind.u64.wrap (2 ^ (n - 1 - i).toNat))))).c
    have K0 := hide k0
    have K1 := hide k1
    clear k0 k1 I
    go_wp2
    go_region
    go_wp2
    exact bodyPost_ret (v := .tuple #[(.agg #[.int .i64 (n), .int .u64 (bits BinOp.xor IntKind.u64 b (IntKind.u64.wrap (2 ^ (n - 1 - i).toNat)))]), .int .i64 0]) (by simp [results, Try.results15, go_sem, K0.out, K1.out]) rfl ⟨by rw [h, H.out], (((bx2 hb1).setCell (by simp) _).setCell (by simp) _).drew⟩
  · have hq : (hbS n b i != 0) = true := by rw [bne_iff_ne]; exact h
    rw [sel_ne h, sel_ne h]
    clear h
    go_enter Try.func15, Try.ntmps15
    go_wp2_with fail
    refine (hasBit_any _ _ _ (by omega) _).mono ?_; rintro e w1 ⟨rfl, hb1⟩; obtain ⟨hc1, hf1⟩ := bcell hb1
    have I := ((Is2.new (w.alloc (.cells #[.int .i64 n, .int .u64 b] 24)) (.int .i64 0) (.int .u64 0)).below hb1)
    rw [World.size_alloc] at I
    obtain ⟨k0, k1, -, -⟩ := ((I.set0 (.int .i64 0)).set1 (.int .u64 0)).c
    have K0 := hide k0
    have K1 := hide k1
    clear k0 k1 I
    go_wp2
    exact bodyPost_ret (v := .tuple #[(.agg #[.int .i64 (0), .int .u64 (0)]), .int .i64 (hbS n b i)]) (by simp [results, Try.results15, go_sem, K0.out, K1.out]) rfl ⟨rfl, ((bx2 hb1).setCell (by simp) _).setCell (by simp) _⟩

end Go.Proofs.Ytdjlmmgnknfkfaa
