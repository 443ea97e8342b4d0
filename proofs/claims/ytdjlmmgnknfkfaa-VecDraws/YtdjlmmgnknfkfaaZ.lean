/- Walks: a number mixed, and a vector drawn, by both. -/
import Derived.Test.YtdjlmmgnknfkfaaS
namespace Go.Proofs.Ytdjlmmgnknfkfaa
open Go.RowKit

/-- A number mixed. -/
def mixU (y : Int) : Int :=
  bits .xor .u64 (IntKind.u64.wrap (bits .xor .u64 (IntKind.u64.wrap (bits .xor .u64 y (y / 1073741824) * 13787848793156543929)) (IntKind.u64.wrap (bits .xor .u64 y (y / 1073741824) * 13787848793156543929) / 134217728) * 10723151780598845931))
    (IntKind.u64.wrap (bits .xor .u64 (IntKind.u64.wrap (bits .xor .u64 y (y / 1073741824) * 13787848793156543929)) (IntKind.u64.wrap (bits .xor .u64 y (y / 1073741824) * 13787848793156543929) / 134217728) * 10723151780598845931) / 2147483648)
def mixI (x : Int) : Int := mixU (IntKind.u64.wrap (x + 11400714819323198485))

theorem wrap_lo (a : Int) : 0 ≤ IntKind.u64.wrap a := by rw [IntKind.wrap_u64]; exact Int.emod_nonneg _ (by decide)
theorem wrap_hi (a : Int) : IntKind.u64.wrap a < 18446744073709551616 := by rw [IntKind.wrap_u64]; exact Int.emod_lt_of_pos _ (by decide)
theorem tdiv_wrap (a k : Int) (hk : 0 < k) : IntKind.u64.wrap ((IntKind.u64.wrap a).tdiv k) = IntKind.u64.wrap a / k := by
  have h0 := wrap_lo a
  have h1 := wrap_hi a
  rw [Int.tdiv_eq_ediv_of_nonneg h0]
  have h2 : 0 ≤ IntKind.u64.wrap a / k := Int.ediv_nonneg h0 (Int.le_of_lt hk)
  have h3 : IntKind.u64.wrap a / k ≤ IntKind.u64.wrap a := Int.ediv_le_self _ h0
  exact wrap_u64 h2 (by omega)

theorem xor_rng (a b : Int) (h0 : 0 ≤ a) (h1 : a < 18446744073709551616) (h2 : 0 ≤ b) (h3 : b < 18446744073709551616) : 0 ≤ bits .xor .u64 a b ∧ bits .xor .u64 a b < 18446744073709551616 := by
  obtain ⟨x, rfl⟩ := Int.eq_ofNat_of_zero_le h0
  obtain ⟨y, rfl⟩ := Int.eq_ofNat_of_zero_le h2
  rw [bits_xor_u64_nat x y (by omega) (by omega)]
  have := Nat.xor_lt_two_pow (n := 64) (x := x) (y := y) (by omega) (by omega)
  omega
theorem xs_rng (a : Int) : 0 ≤ bits .xor .u64 (IntKind.u64.wrap a) (IntKind.u64.wrap a / 2147483648) ∧ bits .xor .u64 (IntKind.u64.wrap a) (IntKind.u64.wrap a / 2147483648) < 18446744073709551616 := by
  have h0 := wrap_lo a
  have h1 := wrap_hi a
  have h2 : 0 ≤ IntKind.u64.wrap a / 2147483648 := Int.ediv_nonneg h0 (by decide)
  have h3 : IntKind.u64.wrap a / 2147483648 ≤ IntKind.u64.wrap a := Int.ediv_le_self _ h0
  exact xor_rng _ _ h0 h1 h2 (by omega)
theorem mix_rng (x : Int) : 0 ≤ mixI x ∧ mixI x < 18446744073709551616 := xs_rng _

set_option maxHeartbeats 1000000 in
theorem vMix_any (x : Int) (w : World) :
    Calls Try.prog 34 #[.int .u64 x] w fun e w' => e = .returned (.int .u64 (mixI x)) ∧ w' = w := by
  go_enter Try.func34, Try.ntmps34
  go_wp2
  go_ret
  exact ⟨rfl, rfl⟩

set_option maxHeartbeats 1000000 in
theorem rMix_any (x : Int) (w : World) :
    Calls Try.prog 35 #[.int .u64 x] w fun e w' => e = .returned (.int .u64 (mixI x)) ∧ w' = w := by
  go_enter Try.func35, Try.ntmps35
  go_wp2_with (go_at_call 45; refine (power_any _ (by omega) (by omega) _).mono ?_; rintro e w' ⟨rfl, rfl⟩)
  go_ret
  refine ⟨ret_int ?_, rfl⟩
  rw [tdiv_wrap _ 1073741824 (by decide), tdiv_wrap _ 134217728 (by decide), tdiv_wrap _ 2147483648 (by decide)]
  rfl

/-- The error of a draw of n bits. -/
def drE (n : Int) : Int := if 0 ≤ n ∧ n ≤ 32 then 0 else 5
/-- The n highest bits of a number. -/
def hib (X n : Nat) : Nat := X / 2 ^ (64 - n)

theorem hib_lt (X n : Nat) (hX : X < 18446744073709551616) (hn : n ≤ 32) : hib X n < 2 ^ n := by
  unfold hib
  rw [Nat.div_lt_iff_lt_mul (Nat.two_pow_pos _), ← Nat.pow_add]
  have : n + (64 - n) = 64 := by omega
  rw [this]; exact hX
theorem hib_bit (X n k : Nat) (hn : n ≤ 32) (hk : k < n) : X * 2 ^ k % 18446744073709551616 / 9223372036854775808 = bt n (hib X n) k := by
  have e1 : (18446744073709551616 : Nat) = 2 ^ k * 2 ^ (64 - k) := by
    rw [← Nat.pow_add]
    have : k + (64 - k) = 64 := by omega
    rw [this]
  have e2 : (9223372036854775808 : Nat) = 2 ^ k * 2 ^ (63 - k) := by
    rw [← Nat.pow_add]
    have : k + (63 - k) = 63 := by omega
    rw [this]
  have e3 : 2 ^ (64 - k) = 2 ^ (63 - k) * 2 := by
    rw [← Nat.pow_succ]
    have : 63 - k + 1 = 64 - k := by omega
    rw [Nat.succ_eq_add_one, this]
  rw [e1, e2, Nat.mul_comm X, Nat.mul_mod_mul_left, ← Nat.div_div_eq_div_mul, Nat.mul_div_cancel_left _ (Nat.two_pow_pos _), e3, Nat.mod_mul_right_div_self]
  unfold bt hib
  rw [Nat.div_div_eq_div_mul, ← Nat.pow_add]
  have : 64 - n + (n - 1 - k) = 63 - k := by omega
  rw [this]
theorem hib_step (X k : Nat) : X * 2 ^ k % 18446744073709551616 * 2 % 18446744073709551616 = X * 2 ^ (k + 1) % 18446744073709551616 := by
  rw [Nat.mod_mul_mod, Nat.pow_succ, Nat.mul_assoc]

theorem hib_int (X n : Int) (h0 : 0 ≤ X) (hn : 0 ≤ n) (hn2 : n ≤ 32) : X / 2 ^ (64 - n).toNat = (hib X.toNat n.toNat : Nat) := by
  obtain ⟨x, rfl⟩ := Int.eq_ofNat_of_zero_le h0
  have e : (64 - n).toNat = 64 - n.toNat := by omega
  rw [e, hib, Int.toNat_natCast]; simp

set_option maxHeartbeats 400000 in
theorem vDraw_any (n x : Int) (w : World) :
    Calls Try.prog 32 #[.int .i64 n, .int .u64 x] w fun e w' => e = .returned (.tuple #[(.agg #[.int .i64 (sel (drE n) n), .int .u64 (sel (drE n) (hib (mixI x).toNat n.toNat : Nat))]), .int .i64 (drE n)]) ∧ Below w.heap.size w w' := by
  by_cases h : 0 ≤ n ∧ n ≤ 32
  · have e : drE n = 0 := if_pos h
    rw [e, sel_zero rfl, sel_zero rfl]
    obtain ⟨h1, h2⟩ := h
    have hm := mix_rng x
    have H := hide (hib_int (mixI x) n hm.1 h1 h2)
    clear e hm
    go_enter Try.func32, Try.ntmps32
    go_wp2_with fail
    refine (vMix_any _ _).mono ?_; rintro e w1 ⟨rfl, rfl⟩
    go_wp2
    exact bodyPost_ret (v := .tuple #[(.agg #[.int .i64 (n), .int .u64 (mixI x / 2 ^ (64 - n).toNat)]), .int .i64 0]) (by simp [results, Try.results32, go_sem]) rfl ⟨by rw [H.out], (Below.refl _ _).alloc (Nat.le_refl _) _⟩
  · have e : drE n = 5 := if_neg h
    rw [e, sel_ne (by omega), sel_ne (by omega)]
    by_cases h1 : n < 0
    · clear h e
      go_enter Try.func32, Try.ntmps32
      go_wp2
      exact bodyPost_ret (v := .tuple #[(.agg #[.int .i64 (0), .int .u64 (0)]), .int .i64 5]) (by simp [results, Try.results32, go_sem]) rfl ⟨rfl, (Below.refl _ _).alloc (Nat.le_refl _) _⟩
    · have h2 : 0 ≤ n := by omega
      have h3 : 32 < n := by omega
      clear h e h1
      go_enter Try.func32, Try.ntmps32
      go_wp2
      exact bodyPost_ret (v := .tuple #[(.agg #[.int .i64 (0), .int .u64 (0)]), .int .i64 5]) (by simp [results, Try.results32, go_sem]) rfl ⟨rfl, (Below.refl _ _).alloc (Nat.le_refl _) _⟩

set_option maxHeartbeats 2000000 in
theorem rDraw_in (m : Nat) (x : Int) (hm : m ≤ 32) (w : World) :
    Calls Try.prog 33 #[.int .i64 (m : Int), .int .u64 x] w fun e w' => e = .returned (.tuple #[(.agg #[.int .i64 ((m : Int)), .int .u64 ((hib (mixI x).toNat m : Nat))]), .int .i64 0]) ∧ Below w.heap.size w w' := by
  obtain ⟨ii, hi, hz0, hz1, hz2⟩ := info_parts Try.info3
  obtain ⟨X, hX⟩ := Int.eq_ofNat_of_zero_le (mix_rng x).1
  have hX2 : X < 18446744073709551616 := by have := (mix_rng x).2; omega
  have eX : (mixI x).toNat = X := by omega
  rw [eX]
  have HX := hide hX
  have HL := hide (hib_lt X m hX2 hm)
  have HBit := hide (hib_bit X m)
  clear eX hX
  generalize hib X m = D at *
  go_enter Try.func33, Try.ntmps33
  go_wp2_with fail
  refine (rMix_any _ _).mono ?_; rintro e w1 ⟨rfl, rfl⟩
  rw [HX.out]
  go_wp2
  go_loopw [1, 6, 7] (fun y v i wr => ∃ k : Nat, k ≤ m ∧ i = .int .i64 (k : Int) ∧ y = .int .u64 ((X * 2 ^ k % 18446744073709551616 : Nat) : Int) ∧ wr.ownsRow (w.heap.size + 1) 3 1 v k (((bl m D).take k).map cell) ∧ Is2 wr w.heap.size (.int .i64 0) (.int .u64 0) ∧ Below w.heap.size w wr)
    (fun _ _ i _ => m - (intOf i).toNat)
  case atStart =>
    refine ⟨0, by omega, rfl, ?_, World.ownsRow_nil _ _ _ _, Is2.new w _ _, (Below.refl _ _).alloc (Nat.le_refl _) _⟩
    rw [Nat.pow_zero, Nat.mul_one, Nat.mod_eq_of_lt hX2]
  case round =>
    obtain ⟨k, hk, rfl, rfl, hown, I0, hbw⟩ := hrel
    have hz := I0.lt
    replace I0 := hide I0
    by_cases hlt : k < m
    · have HB1 := hide (HBit.out k hm hlt)
      have HS := hide (hib_step X k)
      have hq : X * 2 ^ k % 18446744073709551616 < 18446744073709551616 := Nat.mod_lt _ (by decide)
      generalize X * 2 ^ k % 18446744073709551616 = q at *
      have hx := bt_le m D k
      go_wp2_with fail
      refine (power_any _ (by omega) (by omega) _).mono ?_; rintro e w2 ⟨rfl, ew⟩
      subst ew
      have ec : Value.int .i64 ((q : Int) / 9223372036854775808) = cell (bt m D k) := by
        unfold cell
        rw [← HB1.out]; simp
      have hts : (bl m D).take (k + 1) = (bl m D).take k ++ [bt m D k] := by
        rw [List.take_succ_eq_append_getElem (by rw [bl_length]; exact hlt)]
        have := bl_get m D k hlt
        rw [List.getElem?_eq_getElem (by rw [bl_length]; exact hlt)] at this
        simp at this
        rw [this]
      have EC := hide ec
      have HT := hide hts
      clear ec hts
      go_wp2_with (at_builtin; refine wpList_append_own _ rfl _ _ 63 rfl (w.heap.size + 1) 3 ii (.int .i64 0) 1 8 Try.underlying63 hi hz0 hz1 hz2 rfl (by decide) _ _ _ rfl (hown.alloc _) ⟨w2.heap.size, 0, none⟩ 1 1 [.int .i64 ((q : Int) / 9223372036854775808)] rfl rfl ?c1 ?c2 ?c3 ?c4 ?c5 ?_)
      case c1 =>
        intro j u hj
        match j, hj with
        | 0, hj => simp at hj; subst hj; simp [Addr.add]
      case c2 => intro u hu; simp at hu; subst hu; rfl
      case c3 => unfold maxLen; omega
      case c4 => omega
      case c5 => simp; omega
      intro v' w3 hown' hgrow _
      have em : ((bl m D).map cell).take k ++ [.int .i64 ((q : Int) / 9223372036854775808)] = ((bl m D).take (k + 1)).map cell := by
        rw [HT.out, EC.out]; simp
      rw [em] at hown'
      have HB3 := hide ((hbw.alloc hbw.size _).grown hgrow (by have := hbw.size; simp; omega) (fun k hk => by have := (hown.lt k hk).1; omega))
      have J0 : Hid (Is2 w3 w.heap.size (.int .i64 0) (.int .u64 0)) := by
        have h1 := I0.out.alloc (.cells #[.int .i64 ((q : Int) / 9223372036854775808)] 3)
        show w3.heap[w.heap.size]? = _
        rw [hgrow.block _ (by simp; omega) (by intro h; have := (hown.lt _ h.symm).1; omega)]
        exact h1
      replace hown' := hide hown'
      clear hown hgrow hbw em
      have hw : Hid (IntKind.u64.wrap ((q : Int) * 2) = ((X * 2 ^ (k + 1) % 18446744073709551616 : Nat) : Int)) := by
        show _ = _
        rw [IntKind.wrap_u64, ← HS.out]; simp
      go_wp2
      refine ⟨⟨k + 1, by omega, by simp, ?_, hown'.out, J0.out, HB3.out⟩, ?_⟩
      · rw [hw.out]
      · simp [intOf]; omega
    · have e : k = m := by omega
      subst e
      have e2 : (bl k D).take k = bl k D := List.take_of_length_le (by rw [bl_length]; omega)
      rw [e2] at hown
      have HOF := hide (ofl_bl k D HL.out)
      clear e2
      rcases hown.2 with ⟨rfl, h0⟩ | ⟨g2, cap2, cur, rfl, -, -, -⟩
      · subst h0
        have hD : Hid (D = 0) := by show _ = _; have := HL.out; simp at this; exact this
        go_wp2_with fail
        refine (of_nil _).mono ?_; rintro e w3 ⟨rfl, hb3⟩
        have J0 := I0.out.below hb3
        obtain ⟨a0, a1, a2, a3⟩ := J0.c
        obtain ⟨k0, k1, -, -⟩ := ((J0.set0 (.int .i64 0)).set1 (.int .u64 0)).c
        have K0 := hide k0
        have K1 := hide k1
        clear J0 k0 k1 hown
        go_wp2
        exact bodyPost_ret (v := .tuple #[(.agg #[.int .i64 (0), .int .u64 (0)]), .int .i64 0]) (by simp [results, Try.results33, go_sem, K0.out, K1.out]) rfl ⟨by rw [hD.out]; rfl, ((hbw.trans (hb3.mono hbw.size)).setCell (by simp) _).setCell (by simp) _⟩
      · obtain ⟨-, hrw, hgl, -⟩ := row_of hown
        have HRW := hide hrw
        clear hrw hown
        go_wp2_with fail
        refine (of_any _ _ _ _ (bl k D) _ (bl_length _ _) (by omega) (bl_mem k D) hgl HRW.out).mono ?_; rintro e w3 ⟨rfl, hb3⟩
        rw [HOF.out]
        have J0 := I0.out.below hb3
        obtain ⟨a0, a1, a2, a3⟩ := J0.c
        obtain ⟨k0, k1, -, -⟩ := ((J0.set0 (.int .i64 (k : Int))).set1 (.int .u64 (D : Int))).c
        have K0 := hide k0
        have K1 := hide k1
        clear J0 k0 k1
        go_wp2
        exact bodyPost_ret (v := .tuple #[(.agg #[.int .i64 ((k : Int)), .int .u64 ((D : Int))]), .int .i64 0]) (by simp [results, Try.results33, go_sem, K0.out, K1.out]) rfl ⟨rfl, ((hbw.trans (hb3.mono hbw.size)).setCell (by simp) _).setCell (by simp) _⟩

set_option maxHeartbeats 400000 in
theorem rDraw_out (n x : Int) (h : n < 0 ∨ 32 < n) (w : World) :
    Calls Try.prog 33 #[.int .i64 n, .int .u64 x] w fun e w' => e = .returned (.tuple #[(.agg #[.int .i64 (0), .int .u64 (0)]), .int .i64 5]) ∧ Below w.heap.size w w' := by
  by_cases h1 : n < 0
  · clear h
    go_enter Try.func33, Try.ntmps33
    go_wp2
    exact bodyPost_ret (v := .tuple #[(.agg #[.int .i64 (0), .int .u64 (0)]), .int .i64 5]) (by simp [results, Try.results33, go_sem]) rfl ⟨rfl, (Below.refl _ _).alloc (Nat.le_refl _) _⟩
  · have h2 : 0 ≤ n := by omega
    have h3 : 32 < n := by omega
    clear h h1
    go_enter Try.func33, Try.ntmps33
    go_wp2
    exact bodyPost_ret (v := .tuple #[(.agg #[.int .i64 (0), .int .u64 (0)]), .int .i64 5]) (by simp [results, Try.results33, go_sem]) rfl ⟨rfl, (Below.refl _ _).alloc (Nat.le_refl _) _⟩

theorem rDraw_any (n x : Int) (w : World) :
    Calls Try.prog 33 #[.int .i64 n, .int .u64 x] w fun e w' => e = .returned (.tuple #[(.agg #[.int .i64 (sel (drE n) n), .int .u64 (sel (drE n) (hib (mixI x).toNat n.toNat : Nat))]), .int .i64 (drE n)]) ∧ Below w.heap.size w w' := by
  by_cases h : 0 ≤ n ∧ n ≤ 32
  · have e : drE n = 0 := if_pos h
    rw [e, sel_zero rfl, sel_zero rfl]
    obtain ⟨m, rfl⟩ := Int.eq_ofNat_of_zero_le h.1
    rw [Int.toNat_natCast]
    exact rDraw_in m x (by omega) w
  · have e : drE n = 5 := if_neg h
    rw [e, sel_ne (by omega), sel_ne (by omega)]
    exact rDraw_out n x (by omega) w

end Go.Proofs.Ytdjlmmgnknfkfaa
