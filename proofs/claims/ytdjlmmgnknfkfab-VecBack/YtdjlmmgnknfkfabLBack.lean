/- The walk of statement VecBack: true at every vector and place. -/
import Derived.Test.YtdjlmmgnknfkfabT
namespace Go.Proofs.Ytdjlmmgnknfkfab
open Go.RowKit

theorem dig_nat (l : List Nat) (h : ∀ x ∈ l, x ≤ 1) : (dig l).map UInt8.toNat = l.map (48 + ·) := by
  unfold dig
  rw [List.map_map]
  apply List.map_congr_left
  intro x hx
  rcases Nat.le_one_iff_eq_zero_or_eq_one.1 (h x hx) with rfl | rfl <;> rfl
theorem rdGo_dig (l : List Nat) (h : ∀ x ∈ l, x ≤ 1) (i v : Nat) (hl : i + l.length ≤ 32) : rdGo (l.map (48 + ·)) i v = (i + l.length, l.foldl (fun a x => a * 2 + x) v, 0, 0) := by
  induction l generalizing i v with
  | nil => rfl
  | cons x t ih =>
    have hx := h x (by simp)
    simp only [List.length_cons] at hl
    rw [List.map_cons, rdGo_good _ _ _ _ (by omega), ih (fun y hy => h y (by simp [hy])) _ _ (by omega)]
    have e : 48 + x - 48 = x := by omega
    rw [e, List.length_cons, List.foldl_cons]
    have e2 : i + 1 + t.length = i + (t.length + 1) := by omega
    rw [e2]
theorem rd_tx (n b : Nat) (hn : n ≤ 32) (hb : b < 2 ^ n) : rdE (bs ⟨(tx n b).toArray⟩) = (n, b, 0, 0) := by
  by_cases h0 : n = 0
  · subst h0
    have : b = 0 := by simp at hb; omega
    subst this
    rfl
  · have e : tx n b = dig (bl n b) := if_neg h0
    have e2 : bs ⟨(tx n b).toArray⟩ = (bl n b).map (48 + ·) := by
      rw [e, ← dig_nat _ (bl_mem n b)]; simp [bs]
    have e3 := rdGo_dig (bl n b) (bl_mem n b) 0 0 (by rw [bl_length]; omega)
    rw [bl_length, Nat.zero_add] at e3
    have e4 : (bl n b).foldl (fun a x => a * 2 + x) 0 = b := ofl_bl n b hb
    rw [e4] at e3
    rw [e2, ← e3]
    cases hl : bl n b with
    | nil => have := bl_length n b; rw [hl] at this; simp at this; omega
    | cons x t =>
      have hx := bl_mem n b x (by rw [hl]; simp)
      rw [List.map_cons, rdE, if_neg (by omega)]
theorem tx_size (n b : Nat) (hn : n ≤ 32) : (⟨(tx n b).toArray⟩ : ByteArray).size ≤ 1000 := by
  have e : (⟨(tx n b).toArray⟩ : ByteArray).size = (tx n b).length := by simp [ByteArray.size]
  rw [e]
  unfold tx
  split
  · simp
  · rw [dig, List.length_map, bl_length]; omega
theorem jn_back (n b i : Nat) (hn : n ≤ 32) (hb : b < 2 ^ n) (hi : i ≤ n) : jnE [((i : Int), (pre n b i : Nat)), (((n : Int) - i), (rst n b i : Nat))] = (n, b, 0) := by
  have e0 : (n : Int) - i = ((n - i : Nat) : Int) := by omega
  rw [e0]
  have h1 : rt (i : Int) (pre n b i : Nat) = true := rt_of i _ (by omega) (pre_lt n b i hb hi)
  have h2 : rt ((n - i : Nat) : Int) (rst n b i : Nat) = true := rt_of (n - i) _ (by omega) (rst_lt n b i)
  unfold jnE
  rw [if_pos (by simp [h1, h2])]
  simp only [jnGo, Int.toNat_natCast]
  rw [if_neg (by omega), if_neg (by omega)]
  have e : jn (jn 0 i (pre n b i)) (n - i) (rst n b i) = b := by
    have e5 : jn 0 i (pre n b i) = pre n b i := by simp [jn]
    rw [e5]; exact jn_pre_rst n b i
  rw [e]
  have e6 : 0 + i + (n - i) = n := by omega
  rw [e6]
theorem flp_flp (n b i : Nat) : flp n (flp n b i) i = b := by
  unfold flp; rw [Nat.xor_assoc, Nat.xor_self, Nat.xor_zero]
theorem flp_ne (n b i : Nat) : flp n b i ≠ b := by
  intro h
  have := congrArg (fun x => x.testBit (n - 1 - i)) h
  simp only [flp, Nat.testBit_xor, Nat.testBit_two_pow_self] at this
  cases hb : b.testBit (n - 1 - i) <;> rw [hb] at this <;> cases this

theorem vrow_pair (w : World) (m c x y : Int) : VRow (w.alloc (.cells #[.int .i64 m, .int .u64 c, .int .i64 x, .int .u64 y] 24)) w.heap.size 0 [(m, c), (x, y)] := by
  intro j hj
  have h := heap_alloc_new w (.cells #[.int .i64 m, .int .u64 c, .int .i64 x, .int .u64 y] 24)
  have hc : ∀ i, (w.alloc (.cells #[.int .i64 m, .int .u64 c, .int .i64 x, .int .u64 y] 24)).cell? ⟨w.heap.size, i, none⟩ = (#[.int .i64 m, .int .u64 c, .int .i64 x, .int .u64 y] : Array Value)[i]? := fun i => Lib.cell_of_heap h i
  match j, hj with
  | 0, _ => exact ⟨by rw [hc]; rfl, by rw [hc]; rfl⟩
  | 1, _ => exact ⟨by rw [hc]; rfl, by rw [hc]; rfl⟩

set_option maxHeartbeats 4000000 in
theorem vecBack_any (n b i : Int) (hb : 0 ≤ b) (_hb2 : b < 18446744073709551616) (w : World) :
    Calls Try.prog 4 #[(.agg #[.int .i64 (n), .int .u64 (b)]), .int .i64 i] w fun e w' => e = .returned (.bool true) ∧ Below w.heap.size w w' := by
  cases q1 : rt n b with
  | false =>
    have hre : reS n b = 10 := reS_no q1
    go_enter Try.func4, Try.ntmps4
    go_wp2_with fail
    refine (rright_any _ _ _).mono ?_; rintro e w1 ⟨rfl, hb1⟩; obtain ⟨hc1, hf1⟩ := bcell hb1
    go_wp2_with fail
    refine (vright_any _ _ hb _).mono ?_; rintro e w2 ⟨rfl, hb2⟩
    go_wp2_with fail
    refine (alive_any _).mono ?_; rintro e w3 ⟨rfl, hb3⟩
    go_wp2
    go_ret
    exact ⟨rfl, bstep (bstep (bx hb1) hb2) hb3⟩
  | true =>
    obtain ⟨n, b, rfl, rfl, hn, hbn⟩ := rt_nat q1 hb
    have hp := p32 n hn
    have hb2 : b < 4294967296 := by omega
    have TX : Hid (∀ w, Calls Try.prog 12 #[(.agg #[.int .i64 ((n : Int)), .int .u64 ((b : Int))])] w fun e w' => e = .returned (.tuple #[.string ⟨(tx n b).toArray⟩, .int .i64 0]) ∧ Below w.heap.size w w') := by
      intro w
      have h := vText_any (n : Int) b (by omega) w
      have e : txS (n : Int) (b : Int) = ⟨(tx n b).toArray⟩ := if_pos q1
      rw [e, reS_yes q1] at h
      exact h
    have RD : Hid (∀ w, Calls Try.prog 13 #[.string ⟨(tx n b).toArray⟩] w fun e w' => e = .returned (.tuple #[(.agg #[.int .i64 ((n : Int)), .int .u64 ((b : Int))]), .int .i64 0, .int .i64 0]) ∧ Below w.heap.size w w') := by
      intro w
      have h := vRead_any ⟨(tx n b).toArray⟩ (tx_size n b hn) w
      rw [rd_tx n b hn hbn] at h
      exact h
    have PF : ∀ k : Nat, k < n → Hid (∀ w, Calls Try.prog 14 #[(.agg #[.int .i64 ((n : Int)), .int .u64 ((b : Int))]), .int .i64 (k : Int)] w fun e w' => e = .returned (.tuple #[(.agg #[.int .i64 ((k : Int)), .int .u64 ((pre n b k : Nat))]), .int .i64 0]) ∧ Below w.heap.size w w') := by
      intro k hk w
      have h := vPrefix_any (n : Int) b k (by omega) w
      have e : hcS (n : Int) b k = 0 := (if_pos q1).trans (if_pos ⟨by omega, by omega⟩)
      rw [e, sel_zero rfl, sel_zero rfl] at h
      simp only [Int.toNat_natCast] at h
      exact h
    have RS : ∀ k : Nat, k < n → Hid (∀ w, Calls Try.prog 15 #[(.agg #[.int .i64 ((n : Int)), .int .u64 ((b : Int))]), .int .i64 (k : Int)] w fun e w' => e = .returned (.tuple #[(.agg #[.int .i64 ((n : Int) - k), .int .u64 ((rst n b k : Nat))]), .int .i64 0]) ∧ Below w.heap.size w w') := by
      intro k hk w
      have h := vRest_any (n : Int) b k (by omega) (by omega) w
      have e : hcS (n : Int) b k = 0 := (if_pos q1).trans (if_pos ⟨by omega, by omega⟩)
      rw [e, sel_zero rfl, sel_zero rfl] at h
      simp only [Int.toNat_natCast] at h
      exact h
    have FL : ∀ (k c : Nat), k < n → c < 2 ^ n → c < 4294967296 → Hid (∀ w, Calls Try.prog 17 #[(.agg #[.int .i64 ((n : Int)), .int .u64 ((c : Int))]), .int .i64 (k : Int)] w fun e w' => e = .returned (.tuple #[(.agg #[.int .i64 ((n : Int)), .int .u64 ((flp n c k : Nat))]), .int .i64 0]) ∧ Below w.heap.size w w') := by
      intro k c hk hc hc2 w
      have h := vFlip_any (n : Int) c k (by omega) (by omega) w
      have e : hbS (n : Int) c k = 0 := (if_pos (rt_of n c hn hc)).trans (if_pos ⟨by omega, by omega⟩)
      rw [e, sel_zero rfl, sel_zero rfl] at h
      simp only [Int.toNat_natCast] at h
      exact h
    have HBN := hide hbn
    generalize hT : (⟨(tx n b).toArray⟩ : ByteArray) = T at TX RD
    clear hT hb _hb2 hbn hp
    by_cases hi : i < 0 ∨ (n : Int) ≤ i
    · by_cases hi0 : i < 0
      · clear hi
        go_enter Try.func4, Try.ntmps4
        go_wp2_with fail
        refine (rright_any _ _ _).mono ?_; rintro e w1 ⟨rfl, hb1⟩
        have I0 := hide ((Is2.new w (.int .i64 (n : Int)) (.int .u64 (b : Int))).below hb1)
        have HB := hide (bx hb1)
        clear hb1
        obtain ⟨a0, a1, -, -⟩ := I0.out.c
        go_wp2_with fail
        refine (TX.out _).mono ?_; rintro e w2 ⟨rfl, hb2'⟩
        replace I0 := hide (I0.out.below hb2')
        replace HB := hide (bstep HB.out hb2')
        clear hb2' a0 a1
        obtain ⟨a0, a1, -, -⟩ := I0.out.c
        go_wp2_with fail
        refine (RD.out _).mono ?_; rintro e w3 ⟨rfl, hb3⟩
        replace I0 := hide (I0.out.below hb3)
        replace HB := hide (bstep HB.out hb3)
        clear hb3 a0 a1
        obtain ⟨a0, a1, -, -⟩ := I0.out.c
        have z0 := I0.out.lt
        go_wp2_with fail
        refine (alive_any _).mono ?_; rintro e w4 ⟨rfl, hb4⟩
        go_wp2
        go_ret
        exact ⟨rfl, bstep HB.out (bx hb4)⟩
      · have hi1 : (n : Int) ≤ i := by omega
        have hi2 : 0 ≤ i := by omega
        clear hi hi0
        go_enter Try.func4, Try.ntmps4
        go_wp2_with fail
        refine (rright_any _ _ _).mono ?_; rintro e w1 ⟨rfl, hb1⟩
        have I0 := hide ((Is2.new w (.int .i64 (n : Int)) (.int .u64 (b : Int))).below hb1)
        have HB := hide (bx hb1)
        clear hb1
        obtain ⟨a0, a1, -, -⟩ := I0.out.c
        go_wp2_with fail
        refine (TX.out _).mono ?_; rintro e w2 ⟨rfl, hb2'⟩
        replace I0 := hide (I0.out.below hb2')
        replace HB := hide (bstep HB.out hb2')
        clear hb2' a0 a1
        obtain ⟨a0, a1, -, -⟩ := I0.out.c
        go_wp2_with fail
        refine (RD.out _).mono ?_; rintro e w3 ⟨rfl, hb3⟩
        replace I0 := hide (I0.out.below hb3)
        replace HB := hide (bstep HB.out hb3)
        clear hb3 a0 a1
        obtain ⟨a0, a1, -, -⟩ := I0.out.c
        have z0 := I0.out.lt
        go_wp2_with fail
        refine (alive_any _).mono ?_; rintro e w4 ⟨rfl, hb4⟩
        go_wp2
        go_ret
        exact ⟨rfl, bstep HB.out (bx hb4)⟩
    · obtain ⟨k, rfl⟩ := Int.eq_ofNat_of_zero_le (show 0 ≤ i by omega)
      have hk : k < n := by omega
      have hfl : flp n b k < 2 ^ n := xor_lt n b k HBN.out hk
      have hp := p32 n hn
      have P1 := PF k hk
      have R1 := RS k hk
      have F1 := FL k b hk HBN.out hb2
      have F2 := FL k (flp n b k) hk hfl (by omega)
      rw [flp_flp] at F2
      have JB := hide (jn_back n b k hn HBN.out (by omega))
      have hne : (((flp n b k : Nat) : Int) != (b : Int)) = true := by
        rw [bne_iff_ne]; intro h; exact flp_ne n b k (by omega)
      have hne2 : (((flp n b k : Nat) : Int) == (b : Int)) = false := by
        rw [beq_eq_false_iff_ne]; intro h; exact flp_ne n b k (by omega)
      have k1 : (k : Int) < n := by omega
      have k0 : (0 : Int) ≤ k := by omega
      clear hi PF RS FL hfl hp
      generalize flp n b k = F at *
      generalize pre n b k = P at *
      generalize rst n b k = R at *
      go_enter Try.func4, Try.ntmps4
      go_wp2_with fail
      refine (rright_any _ _ _).mono ?_; rintro e w1 ⟨rfl, hb1⟩
      have I0 := hide ((Is2.new w (.int .i64 (n : Int)) (.int .u64 (b : Int))).below hb1)
      have HB := hide (bx hb1)
      clear hb1
      obtain ⟨a0, a1, -, -⟩ := I0.out.c
      go_wp2_with fail
      refine (TX.out _).mono ?_; rintro e w2 ⟨rfl, hb2'⟩
      replace I0 := hide (I0.out.below hb2')
      replace HB := hide (bstep HB.out hb2')
      clear hb2' a0 a1
      obtain ⟨a0, a1, -, -⟩ := I0.out.c
      go_wp2_with fail
      refine (RD.out _).mono ?_; rintro e w3 ⟨rfl, hb3⟩
      replace I0 := hide (I0.out.below hb3)
      replace HB := hide (bstep HB.out hb3)
      clear hb3 a0 a1
      obtain ⟨a0, a1, -, -⟩ := I0.out.c
      have z0 := I0.out.lt
      go_wp2_with fail
      refine (P1.out _).mono ?_; rintro e w4 ⟨rfl, hb4⟩
      replace I0 := hide ((I0.out.alloc _).below hb4)
      replace HB := hide (bstep HB.out (bx hb4))
      clear hb4 a0 a1 z0
      obtain ⟨a0, a1, -, -⟩ := I0.out.c
      have z0 := I0.out.lt
      go_wp2_with fail
      refine (R1.out _).mono ?_; rintro e w5 ⟨rfl, hb5⟩
      replace I0 := hide ((I0.out.alloc _).below hb5)
      have I1 := hide ((Is2.new w4 (.int .i64 (k : Int)) (.int .u64 (P : Int))).below hb5)
      replace HB := hide (bstep HB.out (bx hb5))
      clear hb5 a0 a1 z0
      obtain ⟨b0, b1, -, -⟩ := I1.out.c
      have z1 := I1.out.lt
      go_wp2_with fail
      have vr := vrow_pair (w5.alloc (.cells #[.int .i64 ((n : Int) - k), .int .u64 (R : Int)] 24)) (k : Int) (P : Int) ((n : Int) - k) (R : Int)
      rw [World.size_alloc] at vr
      refine (vJoin_any (w5.heap.size + 1) 0 2 2 [((k : Int), (P : Int)), (((n : Int) - k), (R : Int))] _ rfl (by omega) (by simp) vr (by intro v hv; simp at hv; rcases hv with rfl | rfl <;> simp)).mono ?_; rintro e w6 ⟨rfl, hb6⟩
      rw [JB.out]
      simp only [jnV]
      have ez : ((0 : Nat) : Int) = 0 := rfl
      rw [ez]
      replace I0 := hide (((I0.out.alloc _).alloc _).below hb6)
      replace HB := hide (bstep HB.out (bx2 hb6))
      clear hb6 b0 b1 z1 I1 vr JB ez
      obtain ⟨a0, a1, -, -⟩ := I0.out.c
      have z0 := I0.out.lt
      go_wp2_with fail
      refine (F1.out _).mono ?_; rintro e w7 ⟨rfl, hb7⟩
      replace I0 := hide ((I0.out.alloc _).below hb7)
      have I2 := hide ((Is2.new w6 (.int .i64 (n : Int)) (.int .u64 (b : Int))).below hb7)
      replace HB := hide (bstep HB.out (bx hb7))
      clear hb7 a0 a1 z0
      go_wp2_with fail
      refine (F2.out _).mono ?_; rintro e w8 ⟨rfl, hb8⟩
      replace I0 := hide ((I0.out.alloc _).below hb8)
      replace I2 := hide ((I2.out.alloc _).below hb8)
      have I3 := hide ((Is2.new w7 (.int .i64 (n : Int)) (.int .u64 (F : Int))).below hb8)
      replace HB := hide (bstep HB.out (bx hb8))
      clear hb8
      obtain ⟨a0, a1, -, -⟩ := I0.out.c
      obtain ⟨b0, b1, -, -⟩ := I2.out.c
      obtain ⟨c0, c1, -, -⟩ := I3.out.c
      have z0 := I0.out.lt
      have z2 := I2.out.lt
      have z3 := I3.out.lt
      go_wp2_with fail
      refine (alive_any _).mono ?_; rintro e w9 ⟨rfl, hb9⟩
      go_wp2
      go_ret
      exact ⟨rfl, bstep HB.out (bx hb9)⟩

end Go.Proofs.Ytdjlmmgnknfkfab
