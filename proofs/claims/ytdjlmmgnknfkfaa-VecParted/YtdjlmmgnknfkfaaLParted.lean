/- The walk of statement VecParted: true at any two vectors. -/
import Derived.Test.YtdjlmmgnknfkfaaT
import Derived.Test.YtdjlmmgnknfkfaaW
set_option linter.unusedSimpArgs false
namespace Go.Proofs.Ytdjlmmgnknfkfaa
open Go.RowKit
attribute [local go_sem ↓] Go.wp_at_zero Go.wp_at_succ

theorem bg_nat (n b m c : Nat) (hn : n ≤ 32) (hb : b < 2 ^ n) (hm : m ≤ 32) (hc : c < 2 ^ m) : bgS (n : Int) b m c = decide (m ≤ n ∧ pre n b m = c) := by
  unfold bgS
  rw [rt_of n b hn hb, rt_of m c hm hc]
  simp only [Bool.true_and, Int.toNat_natCast]
  rw [Bool.eq_iff_iff]
  simp only [Bool.and_eq_true, decide_eq_true_eq]
  omega
theorem pre_step (n b m : Nat) (h : m < n) : pre n b (m + 1) = pre n b m * 2 + bt n b m := by
  unfold pre bt
  have e1 : n - m = (n - (m + 1)) + 1 := by omega
  have e2 : n - 1 - m = n - (m + 1) := by omega
  rw [e2, e1, Nat.pow_succ, ← Nat.div_div_eq_div_mul]
  omega

/-- No vector begins with a longer one. -/
theorem bg_nm (n b : Nat) (x : Int) : bgS (n : Int) b ((n : Int) + 1) x = false := by
  unfold bgS
  have : ¬ ((n : Int) + 1 ≤ n) := by omega
  simp [this]

/-- The four ways: it does not begin so; it is it; the next bit is 0; the next bit is 1. -/
theorem parted (n b m c : Nat) (hn : n ≤ 32) (hb : b < 2 ^ n) (hm : m < 32) (hc : c < 2 ^ m) :
    (bgS (n : Int) b m c = false ∧ bgS (n : Int) b ((m : Int) + 1) ((c * 2 : Nat) : Int) = false ∧ bgS (n : Int) b ((m : Int) + 1) ((c * 2 + 1 : Nat) : Int) = false ∧ ¬ (n = m ∧ b = c)) ∨
    (bgS (n : Int) b m c = true ∧ bgS (n : Int) b ((m : Int) + 1) ((c * 2 : Nat) : Int) = false ∧ bgS (n : Int) b ((m : Int) + 1) ((c * 2 + 1 : Nat) : Int) = false ∧ (n = m ∧ b = c)) ∨
    (bgS (n : Int) b m c = true ∧ bgS (n : Int) b ((m : Int) + 1) ((c * 2 : Nat) : Int) = true ∧ bgS (n : Int) b ((m : Int) + 1) ((c * 2 + 1 : Nat) : Int) = false ∧ ¬ (n = m ∧ b = c)) ∨
    (bgS (n : Int) b m c = true ∧ bgS (n : Int) b ((m : Int) + 1) ((c * 2 : Nat) : Int) = false ∧ bgS (n : Int) b ((m : Int) + 1) ((c * 2 + 1 : Nat) : Int) = true ∧ ¬ (n = m ∧ b = c)) := by
  have e : (m : Int) + 1 = ((m + 1 : Nat) : Int) := by simp
  have p0 : c * 2 < 2 ^ (m + 1) := by rw [Nat.pow_succ]; omega
  have p1 : c * 2 + 1 < 2 ^ (m + 1) := by rw [Nat.pow_succ]; omega
  rw [e, bg_nat n b m c hn hb (by omega) hc, bg_nat n b (m + 1) (c * 2) hn hb (by omega) p0, bg_nat n b (m + 1) (c * 2 + 1) hn hb (by omega) p1]
  simp only [decide_eq_true_eq, decide_eq_false_iff_not]
  by_cases h : m < n
  · have hs := pre_step n b m h
    have hx := bt_le n b m
    omega
  · by_cases h2 : m = n
    · subst h2
      rw [pre_all]
      omega
    · omega

/-- Two vectors in a new row. -/
theorem vrow_two (w : World) (m c x y : Int) : VRow (w.alloc (.cells #[.int .i64 m, .int .u64 c, .int .i64 x, .int .u64 y] 24)) w.heap.size 0 [(m, c), (x, y)] := by
  intro j hj
  have h := heap_alloc_new w (.cells #[.int .i64 m, .int .u64 c, .int .i64 x, .int .u64 y] 24)
  have hc : ∀ i, (w.alloc (.cells #[.int .i64 m, .int .u64 c, .int .i64 x, .int .u64 y] 24)).cell? ⟨w.heap.size, i, none⟩ = (#[.int .i64 m, .int .u64 c, .int .i64 x, .int .u64 y] : Array Value)[i]? := fun i => Lib.cell_of_heap h i
  match j, hj with
  | 0, _ => exact ⟨by rw [hc]; rfl, by rw [hc]; rfl⟩
  | 1, _ => exact ⟨by rw [hc]; rfl, by rw [hc]; rfl⟩

theorem jn_two (m c d : Nat) (hm : m < 32) (hc : c < 2 ^ m) (hd : d ≤ 1) : jnE [((m : Int), (c : Int)), (1, (d : Int))] = (m + 1, c * 2 + d, 0) := by
  have h1 : rt (m : Int) c = true := rt_of m c (by omega) hc
  have h2 : rt 1 (d : Int) = true := rt_of 1 d (by omega) (by omega)
  unfold jnE
  rw [if_pos (by simp [h1, h2])]
  simp only [jnGo, Int.toNat_natCast]
  have e : (1 : Int).toNat = 1 := rfl
  rw [e, if_neg (by omega), if_neg (by omega)]
  simp [jn]

set_option maxHeartbeats 4000000 in
set_option maxRecDepth 100000 in
theorem vecParted_any (n b m c : Int) (hb : 0 ≤ b) (_hb2 : b < 18446744073709551616) (hc : 0 ≤ c) (_hc2 : c < 18446744073709551616) (w : World) :
    Calls Try.prog 8 #[(.agg #[.int .i64 (n), .int .u64 (b)]), (.agg #[.int .i64 (m), .int .u64 (c)])] w fun e w' => e = .returned (.bool true) ∧ Below w.heap.size w w' := by
  cases q1 : rt n b with
  | false =>
    go_enter Try.func8, Try.ntmps8
    go_wp2_with fail
    refine (rright_any _ _ _).mono ?_; rintro e w1 ⟨rfl, hb1⟩; obtain ⟨hc1, hf1⟩ := bcell hb1
    go_wp2_with fail
    refine (alive_any _).mono ?_; rintro e w2 ⟨rfl, hb2⟩
    go_wp2
    go_ret
    exact ⟨rfl, bstep (bx2 hb1) hb2⟩
  | true =>
    cases q2 : rt m c with
    | false =>
      go_enter Try.func8, Try.ntmps8
      go_wp2_with fail
      refine (rright_any _ _ _).mono ?_; rintro e w1 ⟨rfl, hb1⟩; obtain ⟨hc1, hf1⟩ := bcell hb1
      go_wp2_with fail
      refine (rright_any _ _ _).mono ?_; rintro e w2 ⟨rfl, hb2⟩
      go_wp2_with fail
      refine (alive_any _).mono ?_; rintro e w3 ⟨rfl, hb3⟩
      go_wp2
      go_ret
      exact ⟨rfl, bstep (bstep (bx2 hb1) hb2) hb3⟩
    | true =>
      obtain ⟨n, b, rfl, rfl, hn, hbn⟩ := rt_nat q1 hb
      obtain ⟨m, c, rfl, rfl, hm, hcm⟩ := rt_nat q2 hc
      have HB0 := hide hbn
      have HC0 := hide hcm
      clear hb hc _hb2 _hc2 hbn hcm
      go_enter Try.func8, Try.ntmps8
      go_wp2_with fail
      refine (rright_any _ _ _).mono ?_; rintro e w1 ⟨rfl, hb1⟩
      have I0 := hide (((Is2.new w (.int .i64 (n : Int)) (.int .u64 (b : Int))).alloc (.cells #[.int .i64 (m : Int), .int .u64 (c : Int)] 24)).below hb1)
      have i1 := ((Is2.new (w.alloc (.cells #[.int .i64 (n : Int), .int .u64 (b : Int)] 24)) (.int .i64 (m : Int)) (.int .u64 (c : Int))).below hb1)
      rw [World.size_alloc] at i1
      have I1 := hide i1
      clear i1
      have HB := hide (bx2 hb1)
      clear hb1
      obtain ⟨a0, a1, -, -⟩ := I0.out.c
      obtain ⟨b0, b1, -, -⟩ := I1.out.c
      go_wp2_with fail
      refine (rright_any _ _ _).mono ?_; rintro e w2 ⟨rfl, hb2⟩
      replace I0 := hide (I0.out.below hb2)
      replace I1 := hide (I1.out.below hb2)
      replace HB := hide (bstep HB.out hb2)
      clear a0 a1 b0 b1 hb2
      obtain ⟨a0, a1, -, -⟩ := I0.out.c
      obtain ⟨b0, b1, -, -⟩ := I1.out.c
      have hz := I1.out.lt
      by_cases hm32 : 32 ≤ m
      · have i3 : (32 : Int) ≤ (m : Int) := by omega
        go_wp2_with fail
        refine (alive_any _).mono ?_; rintro e w3 ⟨rfl, hb3⟩
        go_wp2
        go_ret
        exact ⟨rfl, bstep HB.out hb3⟩
      · have i3 : ¬ (32 : Int) ≤ (m : Int) := by omega
        have hm2 : m < 32 := by omega
        have J0 := hide (jn_two m c 0 hm2 HC0.out (by omega))
        have J1 := hide (jn_two m c 1 hm2 HC0.out (by omega))
        go_wp2_with fail
        refine (vJoin_any w2.heap.size 0 2 2 [((m : Int), (c : Int)), (1, 0)] _ rfl (by omega) (by simp) (vrow_two _ _ _ _ _) (by simp)).mono ?_; rintro e w3 ⟨rfl, hb3⟩
        have e0 : jnE [((m : Int), (c : Int)), (1, 0)] = (m + 1, c * 2, 0) := J0.out
        rw [e0]
        simp only [jnV]
        have em : ((m + 1 : Nat) : Int) = (m : Int) + 1 := by simp
        rw [em]
        replace I0 := hide ((I0.out.alloc _).below hb3)
        replace I1 := hide ((I1.out.alloc _).below hb3)
        replace HB := hide (bstep HB.out (bx hb3))
        clear a0 a1 b0 b1 hb3 e0 J0 hz
        obtain ⟨a0, a1, -, -⟩ := I0.out.c
        obtain ⟨b0, b1, -, -⟩ := I1.out.c
        have hz := I1.out.lt
        have hz0 := I0.out.lt
        have PT := hide (parted n b m c hn HB0.out hm2 HC0.out)
        have HX : Hid (jnE [((m : Int), (c : Int)), (1, 1)] = (m + 1, c * 2 + 1, 0)) := J1.out
        clear J1 HB0 HC0 q1 q2 em
        generalize c * 2 + 1 = y at *
        generalize c * 2 = x at *
        go_wp2_with fail
        have vr := vrow_two (w3.alloc (.cells #[.int .i64 ((m : Int) + 1), .int .u64 (x : Int)] 24)) (m : Int) (c : Int) 1 1
        rw [World.size_alloc] at vr
        refine (vJoin_any (w3.heap.size + 1) 0 2 2 [((m : Int), (c : Int)), (1, 1)] _ rfl (by omega) (by simp) vr (by simp)).mono ?_; rintro e w4 ⟨rfl, hb4⟩
        rw [HX.out]
        simp only [jnV]
        have em : ((m + 1 : Nat) : Int) = (m : Int) + 1 := by simp
        rw [em]
        replace I0 := hide (((I0.out.alloc _).alloc _).below hb4)
        replace I1 := hide (((I1.out.alloc _).alloc _).below hb4)
        have I2 := hide (((Is2.new w3 (.int .i64 ((m : Int) + 1)) (.int .u64 (x : Int))).alloc _).below hb4)
        replace HB := hide (bstep HB.out (bx2 hb4))
        clear a0 a1 b0 b1 hb4 vr hz hz0 HX em
        go_wp2_with fail
        replace I0 := hide (I0.out.alloc (.cells #[.int .i64 ((m : Int) + 1), .int .u64 (y : Int)] 24))
        replace I1 := hide (I1.out.alloc (.cells #[.int .i64 ((m : Int) + 1), .int .u64 (y : Int)] 24))
        replace I2 := hide (I2.out.alloc (.cells #[.int .i64 ((m : Int) + 1), .int .u64 (y : Int)] 24))
        have I3 := hide (Is2.new w4 (.int .i64 ((m : Int) + 1)) (.int .u64 (y : Int)))
        replace HB := hide (HB.out.alloc HB.out.size (.cells #[.int .i64 ((m : Int) + 1), .int .u64 (y : Int)] 24))
        generalize w4.alloc (.cells #[.int .i64 ((m : Int) + 1), .int .u64 (y : Int)] 24) = W at *
        generalize w3.heap.size = g2 at *
        generalize w4.heap.size = g3 at *
        generalize hg1 : w.heap.size + 1 = g1 at *
        generalize hg0 : w.heap.size = g0 at *
        have HG0 := hide hg0
        clear hg0 hg1
        have z0 := I0.out.lt
        obtain ⟨m0, u0, -, -⟩ := I0.out.c
        have z1 := I1.out.lt
        obtain ⟨m1, u1, -, -⟩ := I1.out.c
        have z2 := I2.out.lt
        obtain ⟨m2, u2, -, -⟩ := I2.out.c
        have z3 := I3.out.lt
        obtain ⟨m3, u3, -, -⟩ := I3.out.c
        have P1 := PT.out
        clear PT I0 I1 I2 I3
        rcases P1 with ⟨g1', g2', g3', g4'⟩ | ⟨g1', g2', g3', g4'⟩ | ⟨g1', g2', g3', g4'⟩ | ⟨g1', g2', g3', g4'⟩
        · by_cases en : n = m
          · have e1 : ((n : Int) == m) = true := by simp; omega
            have e2 : ((b : Int) == c) = false := by simp; omega
            clear en g4'
            go_region_held3 (fun w' => w'.cell? ⟨g0, 0, none⟩ = some (.int .i64 (n : Int)) ∧ w'.cell? ⟨g0, 1, none⟩ = some (.int .u64 (b : Int)) ∧ g0 < w'.heap.size ∧ w'.cell? ⟨g1, 0, none⟩ = some (.int .i64 (m : Int)) ∧ w'.cell? ⟨g1, 1, none⟩ = some (.int .u64 (c : Int)) ∧ g1 < w'.heap.size ∧ w'.cell? ⟨g2, 0, none⟩ = some (.int .i64 ((m : Int) + 1)) ∧ w'.cell? ⟨g2, 1, none⟩ = some (.int .u64 (x : Int)) ∧ g2 < w'.heap.size ∧ w'.cell? ⟨g3, 0, none⟩ = some (.int .i64 ((m : Int) + 1)) ∧ w'.cell? ⟨g3, 1, none⟩ = some (.int .u64 (y : Int)) ∧ g3 < w'.heap.size)
              (first | go_keep | (go_split_ands; refine ⟨?_, ?_, ?_, ?_, ?_, ?_, ?_, ?_, ?_, ?_, ?_, ?_⟩ <;> first | assumption | (rw [hbb.cell (by assumption)]; assumption) | (have := hbb.size; first | omega | (simp at this; omega))))
              ((go_at_call 26; refine (vBegins_any _ _ _ _ (by omega) (by omega) _).mono ?_; rintro e w' ⟨rfl, hbb⟩))
            all_goals
              have hB1 : Below W.heap.size W w' := bstep (bstep (Below.refl _ _).drew (by assumption)) hbb
              rename_i hh
              obtain ⟨m0', u0', z0', m1', u1', z1', -⟩ := hh
              have HB2 := hide (HB.out.trans (hB1.mono (Nat.le_of_lt z0)))
              clear hbb hB1 m0 u0 z0 m1 u1 z1 m2 u2 z2 m3 u3 z3
              generalize w' = W2 at *
              go_wp2
              refine wp_region_held_drew (S := (fun w' => w'.cell? ⟨g0, 0, none⟩ = some (.int .i64 (n : Int)) ∧ w'.cell? ⟨g0, 1, none⟩ = some (.int .u64 (b : Int)) ∧ w'.cell? ⟨g1, 0, none⟩ = some (.int .i64 (m : Int)) ∧ w'.cell? ⟨g1, 1, none⟩ = some (.int .u64 (c : Int)) ∧ g0 < w'.heap.size ∧ g1 < w'.heap.size)) (by kernel_rfl) ?_ (fun hHeld => ?_)
              · try dsimp only
                (first | go_keep | (go_split_ands; refine ⟨?_, ?_, ?_, ?_, ?_, ?_⟩ <;> first | assumption | (rw [hbb.cell (by assumption)]; assumption) | (have := hbb.size; first | omega | (simp at this; omega))))
              refine take_yes (v := ?_) 0 (some 51) rfl rfl (by kernel_rfl) (by kernel_rfl) (by kernel_rfl) (fun _ _ _ h => h) (by rfl) ?_ (by assumption) ?_
              rotate_left
              · intro w hSw
                try dsimp only at hSw
                go_simp
                try with_reducible rfl
              try simp only [Act.put, List.setIfInBounds_toArray, List.set_cons_zero, List.set_cons_succ]
              refine take_yes (v := ?_) 1 (some 52) rfl rfl (by kernel_rfl) (by kernel_rfl) (by kernel_rfl) (fun _ _ _ h => h) (by rfl) ?_ (by assumption) ?_
              rotate_left
              · intro w hSw
                try dsimp only at hSw
                go_simp
                try with_reducible rfl
              try simp only [Act.put, List.setIfInBounds_toArray, List.set_cons_zero, List.set_cons_succ]
              refine take_yes (v := ?_) 3 (some 54) rfl rfl (by kernel_rfl) (by kernel_rfl) (by kernel_rfl) (fun _ _ _ h => h) (by rfl) ?_ (by assumption) ?_
              rotate_left
              · intro w hSw
                try dsimp only at hSw
                go_simp
                try with_reducible rfl
              try simp only [Act.put, List.setIfInBounds_toArray, List.set_cons_zero, List.set_cons_succ]
              refine take_yes (v := ?_) 4 (some 55) rfl rfl (by kernel_rfl) (by kernel_rfl) (by kernel_rfl) (fun _ _ _ h => h) (by rfl) ?_ (by assumption) ?_
              rotate_left
              · intro w hSw
                try dsimp only at hSw
                go_simp
                try with_reducible rfl
              try simp only [Act.put, List.setIfInBounds_toArray, List.set_cons_zero, List.set_cons_succ]
              refine take_yes (v := ?_) 5 (some 56) rfl rfl (by kernel_rfl) (by kernel_rfl) (by kernel_rfl) (fun _ _ _ h => h) (by rfl) ?_ (by assumption) ?_
              rotate_left
              · intro w hSw
                try dsimp only at hSw
                go_simp
                try with_reducible rfl
              try simp only [Act.put, List.setIfInBounds_toArray, List.set_cons_zero, List.set_cons_succ]
              refine wpAnyH_ready (rs := [2]) (by kernel_rfl) (by simp) ?_
              refine AllReadyH.cons rfl (fun K hK => ?_) AllReadyH.nil
              go_simp
              go_at_call 26; refine (vBegins_any _ _ _ _ (by omega) (by omega) _).mono ?_; rintro e w' ⟨rfl, hbb⟩
              first | refine hK.out _ _ ?_ (fun hHeld => ?_) | (go_wp2_with fail; refine hK.out _ _ ?_ (fun hHeld => ?_))
              · try dsimp only
                (first | go_keep | (go_split_ands; refine ⟨?_, ?_, ?_, ?_, ?_, ?_⟩ <;> first | assumption | (rw [hbb.cell (by assumption)]; assumption) | (have := hbb.size; first | omega | (simp at this; omega))))
              clear hK K
              try simp only [Act.put, List.setIfInBounds_toArray, List.set_cons_zero, List.set_cons_succ]
              refine take_yes (v := ?_) 6 (some 57) rfl rfl (by kernel_rfl) (by kernel_rfl) (by kernel_rfl) (fun _ _ _ h => h) (by rfl) ?_ (by assumption) ?_
              rotate_left
              · intro w hSw
                try dsimp only at hSw
                go_simp
                try with_reducible rfl
              try simp only [Act.put, List.setIfInBounds_toArray, List.set_cons_zero, List.set_cons_succ]
              first
                | refine take_no 7 (some 58) rfl rfl (by kernel_rfl) (by kernel_rfl) (by kernel_rfl) (fun _ _ _ h => h) (by rfl) (by assumption) ?_
                | (refine take_yes (v := ?_) 7 (some 58) rfl rfl (by kernel_rfl) (by kernel_rfl) (by kernel_rfl) (fun _ _ _ h => h) (by rfl) ?_ (by assumption) ?_
                   rotate_left
                   · intro w hSw
                     try dsimp only at hSw
                     go_simp
                     try with_reducible rfl)
              try simp only [Act.put, List.setIfInBounds_toArray, List.set_cons_zero, List.set_cons_succ]
              refine take_yes (v := ?_) 8 (some 59) rfl rfl (by kernel_rfl) (by kernel_rfl) (by kernel_rfl) (fun _ _ _ h => h) (by rfl) ?_ (by assumption) ?_
              rotate_left
              · intro w hSw
                try dsimp only at hSw
                go_simp
                try with_reducible rfl
              try simp only [Act.put, List.setIfInBounds_toArray, List.set_cons_zero, List.set_cons_succ]
              refine take_yes (v := ?_) 9 (some 60) rfl rfl (by kernel_rfl) (by kernel_rfl) (by kernel_rfl) (fun _ _ _ h => h) (by rfl) ?_ (by assumption) ?_
              rotate_left
              · intro w hSw
                try dsimp only at hSw
                go_simp
                try with_reducible rfl
              try simp only [Act.put, List.setIfInBounds_toArray, List.set_cons_zero, List.set_cons_succ]
              first
                | refine take_no 10 (some 61) rfl rfl (by kernel_rfl) (by kernel_rfl) (by kernel_rfl) (fun _ _ _ h => h) (by rfl) (by assumption) ?_
                | (refine take_yes (v := ?_) 10 (some 61) rfl rfl (by kernel_rfl) (by kernel_rfl) (by kernel_rfl) (fun _ _ _ h => h) (by rfl) ?_ (by assumption) ?_
                   rotate_left
                   · intro w hSw
                     try dsimp only at hSw
                     go_simp
                     try with_reducible rfl)
              try simp only [Act.put, List.setIfInBounds_toArray, List.set_cons_zero, List.set_cons_succ]
              refine take_yes (v := ?_) 11 (some 62) rfl rfl (by kernel_rfl) (by kernel_rfl) (by kernel_rfl) (fun _ _ _ h => h) (by rfl) ?_ (by assumption) ?_
              rotate_left
              · intro w hSw
                try dsimp only at hSw
                go_simp
                try with_reducible rfl
              try simp only [Act.put, List.setIfInBounds_toArray, List.set_cons_zero, List.set_cons_succ]
              refine take_yes (v := ?_) 12 (some 63) rfl rfl (by kernel_rfl) (by kernel_rfl) (by kernel_rfl) (fun _ _ _ h => h) (by rfl) ?_ (by assumption) ?_
              rotate_left
              · intro w hSw
                try dsimp only at hSw
                go_simp
                try with_reducible rfl
              try simp only [Act.put, List.setIfInBounds_toArray, List.set_cons_zero, List.set_cons_succ]
              refine take_yes (v := ?_) 13 (some 64) rfl rfl (by kernel_rfl) (by kernel_rfl) (by kernel_rfl) (fun _ _ _ h => h) (by rfl) ?_ (by assumption) ?_
              rotate_left
              · intro w hSw
                try dsimp only at hSw
                go_simp
                try with_reducible rfl
              try simp only [Act.put, List.setIfInBounds_toArray, List.set_cons_zero, List.set_cons_succ]
              first
                | refine take_no 14 (some 65) rfl rfl (by kernel_rfl) (by kernel_rfl) (by kernel_rfl) (fun _ _ _ h => h) (by rfl) (by assumption) ?_
                | (refine take_yes (v := ?_) 14 (some 65) rfl rfl (by kernel_rfl) (by kernel_rfl) (by kernel_rfl) (fun _ _ _ h => h) (by rfl) ?_ (by assumption) ?_
                   rotate_left
                   · intro w hSw
                     try dsimp only at hSw
                     go_simp
                     try with_reducible rfl)
              try simp only [Act.put, List.setIfInBounds_toArray, List.set_cons_zero, List.set_cons_succ]
              first
                | refine take_no 15 (some 66) rfl rfl (by kernel_rfl) (by kernel_rfl) (by kernel_rfl) (fun _ _ _ h => h) (by rfl) (by assumption) ?_
                | (refine take_yes (v := ?_) 15 (some 66) rfl rfl (by kernel_rfl) (by kernel_rfl) (by kernel_rfl) (fun _ _ _ h => h) (by rfl) ?_ (by assumption) ?_
                   rotate_left
                   · intro w hSw
                     try dsimp only at hSw
                     go_simp
                     try with_reducible rfl)
              try simp only [Act.put, List.setIfInBounds_toArray, List.set_cons_zero, List.set_cons_succ]
              first
                | refine take_no 16 (some 67) rfl rfl (by kernel_rfl) (by kernel_rfl) (by kernel_rfl) (fun _ _ _ h => h) (by rfl) (by assumption) ?_
                | (refine take_yes (v := ?_) 16 (some 67) rfl rfl (by kernel_rfl) (by kernel_rfl) (by kernel_rfl) (fun _ _ _ h => h) (by rfl) ?_ (by assumption) ?_
                   rotate_left
                   · intro w hSw
                     try dsimp only at hSw
                     go_simp
                     try with_reducible rfl)
              try simp only [Act.put, List.setIfInBounds_toArray, List.set_cons_zero, List.set_cons_succ]
              first
                | refine take_no 17 (some 68) rfl rfl (by kernel_rfl) (by kernel_rfl) (by kernel_rfl) (fun _ _ _ h => h) (by rfl) (by assumption) ?_
                | (refine take_yes (v := ?_) 17 (some 68) rfl rfl (by kernel_rfl) (by kernel_rfl) (by kernel_rfl) (fun _ _ _ h => h) (by rfl) ?_ (by assumption) ?_
                   rotate_left
                   · intro w hSw
                     try dsimp only at hSw
                     go_simp
                     try with_reducible rfl)
              try simp only [Act.put, List.setIfInBounds_toArray, List.set_cons_zero, List.set_cons_succ]
              first
                | refine take_no 18 (some 69) rfl rfl (by kernel_rfl) (by kernel_rfl) (by kernel_rfl) (fun _ _ _ h => h) (by rfl) (by assumption) ?_
                | (refine take_yes (v := ?_) 18 (some 69) rfl rfl (by kernel_rfl) (by kernel_rfl) (by kernel_rfl) (fun _ _ _ h => h) (by rfl) ?_ (by assumption) ?_
                   rotate_left
                   · intro w hSw
                     try dsimp only at hSw
                     go_simp
                     try with_reducible rfl)
              try simp only [Act.put, List.setIfInBounds_toArray, List.set_cons_zero, List.set_cons_succ]
              refine take_yes (v := ?_) 19 (some 70) rfl rfl (by kernel_rfl) (by kernel_rfl) (by kernel_rfl) (fun _ _ _ h => h) (by rfl) ?_ (by assumption) ?_
              rotate_left
              · intro w hSw
                try dsimp only at hSw
                go_simp
                try with_reducible rfl
              try simp only [Act.put, List.setIfInBounds_toArray, List.set_cons_zero, List.set_cons_succ]
              refine take_yes (v := ?_) 20 (some 71) rfl rfl (by kernel_rfl) (by kernel_rfl) (by kernel_rfl) (fun _ _ _ h => h) (by rfl) ?_ (by assumption) ?_
              rotate_left
              · intro w hSw
                try dsimp only at hSw
                go_simp
                try with_reducible rfl
              try simp only [Act.put, List.setIfInBounds_toArray, List.set_cons_zero, List.set_cons_succ]
              first
                | refine take_no 21 (some 72) rfl rfl (by kernel_rfl) (by kernel_rfl) (by kernel_rfl) (fun _ _ _ h => h) (by rfl) (by assumption) ?_
                | (refine take_yes (v := ?_) 21 (some 72) rfl rfl (by kernel_rfl) (by kernel_rfl) (by kernel_rfl) (fun _ _ _ h => h) (by rfl) ?_ (by assumption) ?_
                   rotate_left
                   · intro w hSw
                     try dsimp only at hSw
                     go_simp
                     try with_reducible rfl)
              try simp only [Act.put, List.setIfInBounds_toArray, List.set_cons_zero, List.set_cons_succ]
              first
                | refine take_no 22 (some 73) rfl rfl (by kernel_rfl) (by kernel_rfl) (by kernel_rfl) (fun _ _ _ h => h) (by rfl) (by assumption) ?_
                | (refine take_yes (v := ?_) 22 (some 73) rfl rfl (by kernel_rfl) (by kernel_rfl) (by kernel_rfl) (fun _ _ _ h => h) (by rfl) ?_ (by assumption) ?_
                   rotate_left
                   · intro w hSw
                     try dsimp only at hSw
                     go_simp
                     try with_reducible rfl)
              try simp only [Act.put, List.setIfInBounds_toArray, List.set_cons_zero, List.set_cons_succ]
              first
                | refine take_no 23 (some 74) rfl rfl (by kernel_rfl) (by kernel_rfl) (by kernel_rfl) (fun _ _ _ h => h) (by rfl) (by assumption) ?_
                | (refine take_yes (v := ?_) 23 (some 74) rfl rfl (by kernel_rfl) (by kernel_rfl) (by kernel_rfl) (fun _ _ _ h => h) (by rfl) ?_ (by assumption) ?_
                   rotate_left
                   · intro w hSw
                     try dsimp only at hSw
                     go_simp
                     try with_reducible rfl)
              try simp only [Act.put, List.setIfInBounds_toArray, List.set_cons_zero, List.set_cons_succ]
              first
                | refine take_no 24 (some 75) rfl rfl (by kernel_rfl) (by kernel_rfl) (by kernel_rfl) (fun _ _ _ h => h) (by rfl) (by assumption) ?_
                | (refine take_yes (v := ?_) 24 (some 75) rfl rfl (by kernel_rfl) (by kernel_rfl) (by kernel_rfl) (fun _ _ _ h => h) (by rfl) ?_ (by assumption) ?_
                   rotate_left
                   · intro w hSw
                     try dsimp only at hSw
                     go_simp
                     try with_reducible rfl)
              try simp only [Act.put, List.setIfInBounds_toArray, List.set_cons_zero, List.set_cons_succ]
              first
                | refine take_no 25 (some 76) rfl rfl (by kernel_rfl) (by kernel_rfl) (by kernel_rfl) (fun _ _ _ h => h) (by rfl) (by assumption) ?_
                | (refine take_yes (v := ?_) 25 (some 76) rfl rfl (by kernel_rfl) (by kernel_rfl) (by kernel_rfl) (fun _ _ _ h => h) (by rfl) ?_ (by assumption) ?_
                   rotate_left
                   · intro w hSw
                     try dsimp only at hSw
                     go_simp
                     try with_reducible rfl)
              try simp only [Act.put, List.setIfInBounds_toArray, List.set_cons_zero, List.set_cons_succ]
              first
                | refine take_no 26 (some 77) rfl rfl (by kernel_rfl) (by kernel_rfl) (by kernel_rfl) (fun _ _ _ h => h) (by rfl) (by assumption) ?_
                | (refine take_yes (v := ?_) 26 (some 77) rfl rfl (by kernel_rfl) (by kernel_rfl) (by kernel_rfl) (fun _ _ _ h => h) (by rfl) ?_ (by assumption) ?_
                   rotate_left
                   · intro w hSw
                     try dsimp only at hSw
                     go_simp
                     try with_reducible rfl)
              try simp only [Act.put, List.setIfInBounds_toArray, List.set_cons_zero, List.set_cons_succ]
              first
                | refine take_no 27 (some 78) rfl rfl (by kernel_rfl) (by kernel_rfl) (by kernel_rfl) (fun _ _ _ h => h) (by rfl) (by assumption) ?_
                | (refine take_yes (v := ?_) 27 (some 78) rfl rfl (by kernel_rfl) (by kernel_rfl) (by kernel_rfl) (fun _ _ _ h => h) (by rfl) ?_ (by assumption) ?_
                   rotate_left
                   · intro w hSw
                     try dsimp only at hSw
                     go_simp
                     try with_reducible rfl)
              try simp only [Act.put, List.setIfInBounds_toArray, List.set_cons_zero, List.set_cons_succ]
              first
                | refine take_no 28 (some 79) rfl rfl (by kernel_rfl) (by kernel_rfl) (by kernel_rfl) (fun _ _ _ h => h) (by rfl) (by assumption) ?_
                | (refine take_yes (v := ?_) 28 (some 79) rfl rfl (by kernel_rfl) (by kernel_rfl) (by kernel_rfl) (fun _ _ _ h => h) (by rfl) ?_ (by assumption) ?_
                   rotate_left
                   · intro w hSw
                     try dsimp only at hSw
                     go_simp
                     try with_reducible rfl)
              try simp only [Act.put, List.setIfInBounds_toArray, List.set_cons_zero, List.set_cons_succ]
              first
                | refine take_no 29 (some 80) rfl rfl (by kernel_rfl) (by kernel_rfl) (by kernel_rfl) (fun _ _ _ h => h) (by rfl) (by assumption) ?_
                | (refine take_yes (v := ?_) 29 (some 80) rfl rfl (by kernel_rfl) (by kernel_rfl) (by kernel_rfl) (fun _ _ _ h => h) (by rfl) ?_ (by assumption) ?_
                   rotate_left
                   · intro w hSw
                     try dsimp only at hSw
                     go_simp
                     try with_reducible rfl)
              try simp only [Act.put, List.setIfInBounds_toArray, List.set_cons_zero, List.set_cons_succ]
              first
                | refine take_no 30 (some 81) rfl rfl (by kernel_rfl) (by kernel_rfl) (by kernel_rfl) (fun _ _ _ h => h) (by rfl) (by assumption) ?_
                | (refine take_yes (v := ?_) 30 (some 81) rfl rfl (by kernel_rfl) (by kernel_rfl) (by kernel_rfl) (fun _ _ _ h => h) (by rfl) ?_ (by assumption) ?_
                   rotate_left
                   · intro w hSw
                     try dsimp only at hSw
                     go_simp
                     try with_reducible rfl)
              try simp only [Act.put, List.setIfInBounds_toArray, List.set_cons_zero, List.set_cons_succ]
              first
                | refine take_no 31 (some 82) rfl rfl (by kernel_rfl) (by kernel_rfl) (by kernel_rfl) (fun _ _ _ h => h) (by rfl) (by assumption) ?_
                | (refine take_yes (v := ?_) 31 (some 82) rfl rfl (by kernel_rfl) (by kernel_rfl) (by kernel_rfl) (fun _ _ _ h => h) (by rfl) ?_ (by assumption) ?_
                   rotate_left
                   · intro w hSw
                     try dsimp only at hSw
                     go_simp
                     try with_reducible rfl)
              try simp only [Act.put, List.setIfInBounds_toArray, List.set_cons_zero, List.set_cons_succ]
              refine take_yes (v := ?_) 32 (some 83) rfl rfl (by kernel_rfl) (by kernel_rfl) (by kernel_rfl) (fun _ _ _ h => h) (by rfl) ?_ (by assumption) ?_
              rotate_left
              · intro w hSw
                try dsimp only at hSw
                go_simp
                try with_reducible rfl
              try simp only [Act.put, List.setIfInBounds_toArray, List.set_cons_zero, List.set_cons_succ]
              refine take_yes (v := ?_) 33 (some 84) rfl rfl (by kernel_rfl) (by kernel_rfl) (by kernel_rfl) (fun _ _ _ h => h) (by rfl) ?_ (by assumption) ?_
              rotate_left
              · intro w hSw
                try dsimp only at hSw
                go_simp
                try with_reducible rfl
              try simp only [Act.put, List.setIfInBounds_toArray, List.set_cons_zero, List.set_cons_succ]
              first
                | refine take_no 34 (some 85) rfl rfl (by kernel_rfl) (by kernel_rfl) (by kernel_rfl) (fun _ _ _ h => h) (by rfl) (by assumption) ?_
                | (refine wpAnyH_ready (rs := [34]) (by kernel_rfl) (by simp) ?_
                   refine AllReadyH.cons rfl (fun K hK => ?_) AllReadyH.nil
                   go_simp
                   go_at_call 19; refine (alive_any _).mono ?_; rintro e w' ⟨rfl, hbb⟩
                   first | refine hK.out _ _ ?_ (fun hHeld => ?_) | (go_wp2_with fail; refine hK.out _ _ ?_ (fun hHeld => ?_))
                   · try dsimp only
                     (first | go_keep | (go_split_ands; refine ⟨?_, ?_, ?_, ?_, ?_, ?_⟩ <;> first | assumption | (rw [hbb.cell (by assumption)]; assumption) | (have := hbb.size; first | omega | (simp at this; omega))))
                   clear hK K)
              try simp only [Act.put, List.setIfInBounds_toArray, List.set_cons_zero, List.set_cons_succ]
              refine take_yes (v := ?_) 35 (some 86) rfl rfl (by kernel_rfl) (by kernel_rfl) (by kernel_rfl) (fun _ _ _ h => h) (by rfl) ?_ (by assumption) ?_
              rotate_left
              · intro w hSw
                try dsimp only at hSw
                go_simp
                try with_reducible rfl
              try simp only [Act.put, List.setIfInBounds_toArray, List.set_cons_zero, List.set_cons_succ]
              refine take_yes (v := ?_) 36 (some 4) rfl rfl (by kernel_rfl) (by kernel_rfl) (by kernel_rfl) (fun _ _ _ h => h) (by rfl) ?_ (by assumption) ?_
              rotate_left
              · intro w hSw
                try dsimp only at hSw
                go_simp
                try with_reducible rfl
              try simp only [Act.put, List.setIfInBounds_toArray, List.set_cons_zero, List.set_cons_succ]
              refine wpAnyH_done (by kernel_rfl) ?_ _
              have hB3 : Below W2.heap.size W2 w' := bstep (bstep (Below.refl _ _).drew (by assumption)) hbb
              have hf : Below w.heap.size w w' := by rw [HG0.out]; exact HB2.out.trans (hB3.mono (Nat.le_of_lt z0'))
              have HF := hide hf
              clear hB3 hf hbb
              go_wp2
              go_ret
              first
                | exact ⟨rfl, HF.out⟩
                | (rw [← HG0.out]; exact ⟨rfl, HF.out⟩)
          · have e1 : ((n : Int) == m) = false := by simp; omega
            clear en g4'
            go_region_held3 (fun w' => w'.cell? ⟨g0, 0, none⟩ = some (.int .i64 (n : Int)) ∧ w'.cell? ⟨g0, 1, none⟩ = some (.int .u64 (b : Int)) ∧ g0 < w'.heap.size ∧ w'.cell? ⟨g1, 0, none⟩ = some (.int .i64 (m : Int)) ∧ w'.cell? ⟨g1, 1, none⟩ = some (.int .u64 (c : Int)) ∧ g1 < w'.heap.size ∧ w'.cell? ⟨g2, 0, none⟩ = some (.int .i64 ((m : Int) + 1)) ∧ w'.cell? ⟨g2, 1, none⟩ = some (.int .u64 (x : Int)) ∧ g2 < w'.heap.size ∧ w'.cell? ⟨g3, 0, none⟩ = some (.int .i64 ((m : Int) + 1)) ∧ w'.cell? ⟨g3, 1, none⟩ = some (.int .u64 (y : Int)) ∧ g3 < w'.heap.size)
              (first | go_keep | (go_split_ands; refine ⟨?_, ?_, ?_, ?_, ?_, ?_, ?_, ?_, ?_, ?_, ?_, ?_⟩ <;> first | assumption | (rw [hbb.cell (by assumption)]; assumption) | (have := hbb.size; first | omega | (simp at this; omega))))
              ((go_at_call 26; refine (vBegins_any _ _ _ _ (by omega) (by omega) _).mono ?_; rintro e w' ⟨rfl, hbb⟩))
            all_goals
              have hB1 : Below W.heap.size W w' := bstep (bstep (Below.refl _ _).drew (by assumption)) hbb
              rename_i hh
              obtain ⟨m0', u0', z0', m1', u1', z1', -⟩ := hh
              have HB2 := hide (HB.out.trans (hB1.mono (Nat.le_of_lt z0)))
              clear hbb hB1 m0 u0 z0 m1 u1 z1 m2 u2 z2 m3 u3 z3
              generalize w' = W2 at *
              go_wp2
              refine wp_region_held_drew (S := (fun w' => w'.cell? ⟨g0, 0, none⟩ = some (.int .i64 (n : Int)) ∧ w'.cell? ⟨g0, 1, none⟩ = some (.int .u64 (b : Int)) ∧ w'.cell? ⟨g1, 0, none⟩ = some (.int .i64 (m : Int)) ∧ w'.cell? ⟨g1, 1, none⟩ = some (.int .u64 (c : Int)) ∧ g0 < w'.heap.size ∧ g1 < w'.heap.size)) (by kernel_rfl) ?_ (fun hHeld => ?_)
              · try dsimp only
                (first | go_keep | (go_split_ands; refine ⟨?_, ?_, ?_, ?_, ?_, ?_⟩ <;> first | assumption | (rw [hbb.cell (by assumption)]; assumption) | (have := hbb.size; first | omega | (simp at this; omega))))
              refine take_yes (v := ?_) 0 (some 51) rfl rfl (by kernel_rfl) (by kernel_rfl) (by kernel_rfl) (fun _ _ _ h => h) (by rfl) ?_ (by assumption) ?_
              rotate_left
              · intro w hSw
                try dsimp only at hSw
                go_simp
                try with_reducible rfl
              try simp only [Act.put, List.setIfInBounds_toArray, List.set_cons_zero, List.set_cons_succ]
              refine take_yes (v := ?_) 1 (some 52) rfl rfl (by kernel_rfl) (by kernel_rfl) (by kernel_rfl) (fun _ _ _ h => h) (by rfl) ?_ (by assumption) ?_
              rotate_left
              · intro w hSw
                try dsimp only at hSw
                go_simp
                try with_reducible rfl
              try simp only [Act.put, List.setIfInBounds_toArray, List.set_cons_zero, List.set_cons_succ]
              refine take_yes (v := ?_) 3 (some 54) rfl rfl (by kernel_rfl) (by kernel_rfl) (by kernel_rfl) (fun _ _ _ h => h) (by rfl) ?_ (by assumption) ?_
              rotate_left
              · intro w hSw
                try dsimp only at hSw
                go_simp
                try with_reducible rfl
              try simp only [Act.put, List.setIfInBounds_toArray, List.set_cons_zero, List.set_cons_succ]
              refine take_yes (v := ?_) 4 (some 55) rfl rfl (by kernel_rfl) (by kernel_rfl) (by kernel_rfl) (fun _ _ _ h => h) (by rfl) ?_ (by assumption) ?_
              rotate_left
              · intro w hSw
                try dsimp only at hSw
                go_simp
                try with_reducible rfl
              try simp only [Act.put, List.setIfInBounds_toArray, List.set_cons_zero, List.set_cons_succ]
              refine take_yes (v := ?_) 5 (some 56) rfl rfl (by kernel_rfl) (by kernel_rfl) (by kernel_rfl) (fun _ _ _ h => h) (by rfl) ?_ (by assumption) ?_
              rotate_left
              · intro w hSw
                try dsimp only at hSw
                go_simp
                try with_reducible rfl
              try simp only [Act.put, List.setIfInBounds_toArray, List.set_cons_zero, List.set_cons_succ]
              refine wpAnyH_ready (rs := [2]) (by kernel_rfl) (by simp) ?_
              refine AllReadyH.cons rfl (fun K hK => ?_) AllReadyH.nil
              go_simp
              go_at_call 26; refine (vBegins_any _ _ _ _ (by omega) (by omega) _).mono ?_; rintro e w' ⟨rfl, hbb⟩
              first | refine hK.out _ _ ?_ (fun hHeld => ?_) | (go_wp2_with fail; refine hK.out _ _ ?_ (fun hHeld => ?_))
              · try dsimp only
                (first | go_keep | (go_split_ands; refine ⟨?_, ?_, ?_, ?_, ?_, ?_⟩ <;> first | assumption | (rw [hbb.cell (by assumption)]; assumption) | (have := hbb.size; first | omega | (simp at this; omega))))
              clear hK K
              try simp only [Act.put, List.setIfInBounds_toArray, List.set_cons_zero, List.set_cons_succ]
              refine take_yes (v := ?_) 6 (some 57) rfl rfl (by kernel_rfl) (by kernel_rfl) (by kernel_rfl) (fun _ _ _ h => h) (by rfl) ?_ (by assumption) ?_
              rotate_left
              · intro w hSw
                try dsimp only at hSw
                go_simp
                try with_reducible rfl
              try simp only [Act.put, List.setIfInBounds_toArray, List.set_cons_zero, List.set_cons_succ]
              first
                | refine take_no 7 (some 58) rfl rfl (by kernel_rfl) (by kernel_rfl) (by kernel_rfl) (fun _ _ _ h => h) (by rfl) (by assumption) ?_
                | (refine take_yes (v := ?_) 7 (some 58) rfl rfl (by kernel_rfl) (by kernel_rfl) (by kernel_rfl) (fun _ _ _ h => h) (by rfl) ?_ (by assumption) ?_
                   rotate_left
                   · intro w hSw
                     try dsimp only at hSw
                     go_simp
                     try with_reducible rfl)
              try simp only [Act.put, List.setIfInBounds_toArray, List.set_cons_zero, List.set_cons_succ]
              refine take_yes (v := ?_) 8 (some 59) rfl rfl (by kernel_rfl) (by kernel_rfl) (by kernel_rfl) (fun _ _ _ h => h) (by rfl) ?_ (by assumption) ?_
              rotate_left
              · intro w hSw
                try dsimp only at hSw
                go_simp
                try with_reducible rfl
              try simp only [Act.put, List.setIfInBounds_toArray, List.set_cons_zero, List.set_cons_succ]
              refine take_yes (v := ?_) 9 (some 60) rfl rfl (by kernel_rfl) (by kernel_rfl) (by kernel_rfl) (fun _ _ _ h => h) (by rfl) ?_ (by assumption) ?_
              rotate_left
              · intro w hSw
                try dsimp only at hSw
                go_simp
                try with_reducible rfl
              try simp only [Act.put, List.setIfInBounds_toArray, List.set_cons_zero, List.set_cons_succ]
              first
                | refine take_no 10 (some 61) rfl rfl (by kernel_rfl) (by kernel_rfl) (by kernel_rfl) (fun _ _ _ h => h) (by rfl) (by assumption) ?_
                | (refine take_yes (v := ?_) 10 (some 61) rfl rfl (by kernel_rfl) (by kernel_rfl) (by kernel_rfl) (fun _ _ _ h => h) (by rfl) ?_ (by assumption) ?_
                   rotate_left
                   · intro w hSw
                     try dsimp only at hSw
                     go_simp
                     try with_reducible rfl)
              try simp only [Act.put, List.setIfInBounds_toArray, List.set_cons_zero, List.set_cons_succ]
              refine take_yes (v := ?_) 11 (some 62) rfl rfl (by kernel_rfl) (by kernel_rfl) (by kernel_rfl) (fun _ _ _ h => h) (by rfl) ?_ (by assumption) ?_
              rotate_left
              · intro w hSw
                try dsimp only at hSw
                go_simp
                try with_reducible rfl
              try simp only [Act.put, List.setIfInBounds_toArray, List.set_cons_zero, List.set_cons_succ]
              refine take_yes (v := ?_) 12 (some 63) rfl rfl (by kernel_rfl) (by kernel_rfl) (by kernel_rfl) (fun _ _ _ h => h) (by rfl) ?_ (by assumption) ?_
              rotate_left
              · intro w hSw
                try dsimp only at hSw
                go_simp
                try with_reducible rfl
              try simp only [Act.put, List.setIfInBounds_toArray, List.set_cons_zero, List.set_cons_succ]
              refine take_yes (v := ?_) 13 (some 64) rfl rfl (by kernel_rfl) (by kernel_rfl) (by kernel_rfl) (fun _ _ _ h => h) (by rfl) ?_ (by assumption) ?_
              rotate_left
              · intro w hSw
                try dsimp only at hSw
                go_simp
                try with_reducible rfl
              try simp only [Act.put, List.setIfInBounds_toArray, List.set_cons_zero, List.set_cons_succ]
              first
                | refine take_no 14 (some 65) rfl rfl (by kernel_rfl) (by kernel_rfl) (by kernel_rfl) (fun _ _ _ h => h) (by rfl) (by assumption) ?_
                | (refine take_yes (v := ?_) 14 (some 65) rfl rfl (by kernel_rfl) (by kernel_rfl) (by kernel_rfl) (fun _ _ _ h => h) (by rfl) ?_ (by assumption) ?_
                   rotate_left
                   · intro w hSw
                     try dsimp only at hSw
                     go_simp
                     try with_reducible rfl)
              try simp only [Act.put, List.setIfInBounds_toArray, List.set_cons_zero, List.set_cons_succ]
              first
                | refine take_no 15 (some 66) rfl rfl (by kernel_rfl) (by kernel_rfl) (by kernel_rfl) (fun _ _ _ h => h) (by rfl) (by assumption) ?_
                | (refine take_yes (v := ?_) 15 (some 66) rfl rfl (by kernel_rfl) (by kernel_rfl) (by kernel_rfl) (fun _ _ _ h => h) (by rfl) ?_ (by assumption) ?_
                   rotate_left
                   · intro w hSw
                     try dsimp only at hSw
                     go_simp
                     try with_reducible rfl)
              try simp only [Act.put, List.setIfInBounds_toArray, List.set_cons_zero, List.set_cons_succ]
              first
                | refine take_no 16 (some 67) rfl rfl (by kernel_rfl) (by kernel_rfl) (by kernel_rfl) (fun _ _ _ h => h) (by rfl) (by assumption) ?_
                | (refine take_yes (v := ?_) 16 (some 67) rfl rfl (by kernel_rfl) (by kernel_rfl) (by kernel_rfl) (fun _ _ _ h => h) (by rfl) ?_ (by assumption) ?_
                   rotate_left
                   · intro w hSw
                     try dsimp only at hSw
                     go_simp
                     try with_reducible rfl)
              try simp only [Act.put, List.setIfInBounds_toArray, List.set_cons_zero, List.set_cons_succ]
              first
                | refine take_no 17 (some 68) rfl rfl (by kernel_rfl) (by kernel_rfl) (by kernel_rfl) (fun _ _ _ h => h) (by rfl) (by assumption) ?_
                | (refine take_yes (v := ?_) 17 (some 68) rfl rfl (by kernel_rfl) (by kernel_rfl) (by kernel_rfl) (fun _ _ _ h => h) (by rfl) ?_ (by assumption) ?_
                   rotate_left
                   · intro w hSw
                     try dsimp only at hSw
                     go_simp
                     try with_reducible rfl)
              try simp only [Act.put, List.setIfInBounds_toArray, List.set_cons_zero, List.set_cons_succ]
              first
                | refine take_no 18 (some 69) rfl rfl (by kernel_rfl) (by kernel_rfl) (by kernel_rfl) (fun _ _ _ h => h) (by rfl) (by assumption) ?_
                | (refine take_yes (v := ?_) 18 (some 69) rfl rfl (by kernel_rfl) (by kernel_rfl) (by kernel_rfl) (fun _ _ _ h => h) (by rfl) ?_ (by assumption) ?_
                   rotate_left
                   · intro w hSw
                     try dsimp only at hSw
                     go_simp
                     try with_reducible rfl)
              try simp only [Act.put, List.setIfInBounds_toArray, List.set_cons_zero, List.set_cons_succ]
              refine take_yes (v := ?_) 19 (some 70) rfl rfl (by kernel_rfl) (by kernel_rfl) (by kernel_rfl) (fun _ _ _ h => h) (by rfl) ?_ (by assumption) ?_
              rotate_left
              · intro w hSw
                try dsimp only at hSw
                go_simp
                try with_reducible rfl
              try simp only [Act.put, List.setIfInBounds_toArray, List.set_cons_zero, List.set_cons_succ]
              refine take_yes (v := ?_) 20 (some 71) rfl rfl (by kernel_rfl) (by kernel_rfl) (by kernel_rfl) (fun _ _ _ h => h) (by rfl) ?_ (by assumption) ?_
              rotate_left
              · intro w hSw
                try dsimp only at hSw
                go_simp
                try with_reducible rfl
              try simp only [Act.put, List.setIfInBounds_toArray, List.set_cons_zero, List.set_cons_succ]
              first
                | refine take_no 21 (some 72) rfl rfl (by kernel_rfl) (by kernel_rfl) (by kernel_rfl) (fun _ _ _ h => h) (by rfl) (by assumption) ?_
                | (refine take_yes (v := ?_) 21 (some 72) rfl rfl (by kernel_rfl) (by kernel_rfl) (by kernel_rfl) (fun _ _ _ h => h) (by rfl) ?_ (by assumption) ?_
                   rotate_left
                   · intro w hSw
                     try dsimp only at hSw
                     go_simp
                     try with_reducible rfl)
              try simp only [Act.put, List.setIfInBounds_toArray, List.set_cons_zero, List.set_cons_succ]
              first
                | refine take_no 22 (some 73) rfl rfl (by kernel_rfl) (by kernel_rfl) (by kernel_rfl) (fun _ _ _ h => h) (by rfl) (by assumption) ?_
                | (refine take_yes (v := ?_) 22 (some 73) rfl rfl (by kernel_rfl) (by kernel_rfl) (by kernel_rfl) (fun _ _ _ h => h) (by rfl) ?_ (by assumption) ?_
                   rotate_left
                   · intro w hSw
                     try dsimp only at hSw
                     go_simp
                     try with_reducible rfl)
              try simp only [Act.put, List.setIfInBounds_toArray, List.set_cons_zero, List.set_cons_succ]
              first
                | refine take_no 23 (some 74) rfl rfl (by kernel_rfl) (by kernel_rfl) (by kernel_rfl) (fun _ _ _ h => h) (by rfl) (by assumption) ?_
                | (refine take_yes (v := ?_) 23 (some 74) rfl rfl (by kernel_rfl) (by kernel_rfl) (by kernel_rfl) (fun _ _ _ h => h) (by rfl) ?_ (by assumption) ?_
                   rotate_left
                   · intro w hSw
                     try dsimp only at hSw
                     go_simp
                     try with_reducible rfl)
              try simp only [Act.put, List.setIfInBounds_toArray, List.set_cons_zero, List.set_cons_succ]
              first
                | refine take_no 24 (some 75) rfl rfl (by kernel_rfl) (by kernel_rfl) (by kernel_rfl) (fun _ _ _ h => h) (by rfl) (by assumption) ?_
                | (refine take_yes (v := ?_) 24 (some 75) rfl rfl (by kernel_rfl) (by kernel_rfl) (by kernel_rfl) (fun _ _ _ h => h) (by rfl) ?_ (by assumption) ?_
                   rotate_left
                   · intro w hSw
                     try dsimp only at hSw
                     go_simp
                     try with_reducible rfl)
              try simp only [Act.put, List.setIfInBounds_toArray, List.set_cons_zero, List.set_cons_succ]
              first
                | refine take_no 25 (some 76) rfl rfl (by kernel_rfl) (by kernel_rfl) (by kernel_rfl) (fun _ _ _ h => h) (by rfl) (by assumption) ?_
                | (refine take_yes (v := ?_) 25 (some 76) rfl rfl (by kernel_rfl) (by kernel_rfl) (by kernel_rfl) (fun _ _ _ h => h) (by rfl) ?_ (by assumption) ?_
                   rotate_left
                   · intro w hSw
                     try dsimp only at hSw
                     go_simp
                     try with_reducible rfl)
              try simp only [Act.put, List.setIfInBounds_toArray, List.set_cons_zero, List.set_cons_succ]
              first
                | refine take_no 26 (some 77) rfl rfl (by kernel_rfl) (by kernel_rfl) (by kernel_rfl) (fun _ _ _ h => h) (by rfl) (by assumption) ?_
                | (refine take_yes (v := ?_) 26 (some 77) rfl rfl (by kernel_rfl) (by kernel_rfl) (by kernel_rfl) (fun _ _ _ h => h) (by rfl) ?_ (by assumption) ?_
                   rotate_left
                   · intro w hSw
                     try dsimp only at hSw
                     go_simp
                     try with_reducible rfl)
              try simp only [Act.put, List.setIfInBounds_toArray, List.set_cons_zero, List.set_cons_succ]
              first
                | refine take_no 27 (some 78) rfl rfl (by kernel_rfl) (by kernel_rfl) (by kernel_rfl) (fun _ _ _ h => h) (by rfl) (by assumption) ?_
                | (refine take_yes (v := ?_) 27 (some 78) rfl rfl (by kernel_rfl) (by kernel_rfl) (by kernel_rfl) (fun _ _ _ h => h) (by rfl) ?_ (by assumption) ?_
                   rotate_left
                   · intro w hSw
                     try dsimp only at hSw
                     go_simp
                     try with_reducible rfl)
              try simp only [Act.put, List.setIfInBounds_toArray, List.set_cons_zero, List.set_cons_succ]
              first
                | refine take_no 28 (some 79) rfl rfl (by kernel_rfl) (by kernel_rfl) (by kernel_rfl) (fun _ _ _ h => h) (by rfl) (by assumption) ?_
                | (refine take_yes (v := ?_) 28 (some 79) rfl rfl (by kernel_rfl) (by kernel_rfl) (by kernel_rfl) (fun _ _ _ h => h) (by rfl) ?_ (by assumption) ?_
                   rotate_left
                   · intro w hSw
                     try dsimp only at hSw
                     go_simp
                     try with_reducible rfl)
              try simp only [Act.put, List.setIfInBounds_toArray, List.set_cons_zero, List.set_cons_succ]
              first
                | refine take_no 29 (some 80) rfl rfl (by kernel_rfl) (by kernel_rfl) (by kernel_rfl) (fun _ _ _ h => h) (by rfl) (by assumption) ?_
                | (refine take_yes (v := ?_) 29 (some 80) rfl rfl (by kernel_rfl) (by kernel_rfl) (by kernel_rfl) (fun _ _ _ h => h) (by rfl) ?_ (by assumption) ?_
                   rotate_left
                   · intro w hSw
                     try dsimp only at hSw
                     go_simp
                     try with_reducible rfl)
              try simp only [Act.put, List.setIfInBounds_toArray, List.set_cons_zero, List.set_cons_succ]
              first
                | refine take_no 30 (some 81) rfl rfl (by kernel_rfl) (by kernel_rfl) (by kernel_rfl) (fun _ _ _ h => h) (by rfl) (by assumption) ?_
                | (refine take_yes (v := ?_) 30 (some 81) rfl rfl (by kernel_rfl) (by kernel_rfl) (by kernel_rfl) (fun _ _ _ h => h) (by rfl) ?_ (by assumption) ?_
                   rotate_left
                   · intro w hSw
                     try dsimp only at hSw
                     go_simp
                     try with_reducible rfl)
              try simp only [Act.put, List.setIfInBounds_toArray, List.set_cons_zero, List.set_cons_succ]
              first
                | refine take_no 31 (some 82) rfl rfl (by kernel_rfl) (by kernel_rfl) (by kernel_rfl) (fun _ _ _ h => h) (by rfl) (by assumption) ?_
                | (refine take_yes (v := ?_) 31 (some 82) rfl rfl (by kernel_rfl) (by kernel_rfl) (by kernel_rfl) (fun _ _ _ h => h) (by rfl) ?_ (by assumption) ?_
                   rotate_left
                   · intro w hSw
                     try dsimp only at hSw
                     go_simp
                     try with_reducible rfl)
              try simp only [Act.put, List.setIfInBounds_toArray, List.set_cons_zero, List.set_cons_succ]
              refine take_yes (v := ?_) 32 (some 83) rfl rfl (by kernel_rfl) (by kernel_rfl) (by kernel_rfl) (fun _ _ _ h => h) (by rfl) ?_ (by assumption) ?_
              rotate_left
              · intro w hSw
                try dsimp only at hSw
                go_simp
                try with_reducible rfl
              try simp only [Act.put, List.setIfInBounds_toArray, List.set_cons_zero, List.set_cons_succ]
              refine take_yes (v := ?_) 33 (some 84) rfl rfl (by kernel_rfl) (by kernel_rfl) (by kernel_rfl) (fun _ _ _ h => h) (by rfl) ?_ (by assumption) ?_
              rotate_left
              · intro w hSw
                try dsimp only at hSw
                go_simp
                try with_reducible rfl
              try simp only [Act.put, List.setIfInBounds_toArray, List.set_cons_zero, List.set_cons_succ]
              first
                | refine take_no 34 (some 85) rfl rfl (by kernel_rfl) (by kernel_rfl) (by kernel_rfl) (fun _ _ _ h => h) (by rfl) (by assumption) ?_
                | (refine wpAnyH_ready (rs := [34]) (by kernel_rfl) (by simp) ?_
                   refine AllReadyH.cons rfl (fun K hK => ?_) AllReadyH.nil
                   go_simp
                   go_at_call 19; refine (alive_any _).mono ?_; rintro e w' ⟨rfl, hbb⟩
                   first | refine hK.out _ _ ?_ (fun hHeld => ?_) | (go_wp2_with fail; refine hK.out _ _ ?_ (fun hHeld => ?_))
                   · try dsimp only
                     (first | go_keep | (go_split_ands; refine ⟨?_, ?_, ?_, ?_, ?_, ?_⟩ <;> first | assumption | (rw [hbb.cell (by assumption)]; assumption) | (have := hbb.size; first | omega | (simp at this; omega))))
                   clear hK K)
              try simp only [Act.put, List.setIfInBounds_toArray, List.set_cons_zero, List.set_cons_succ]
              refine take_yes (v := ?_) 35 (some 86) rfl rfl (by kernel_rfl) (by kernel_rfl) (by kernel_rfl) (fun _ _ _ h => h) (by rfl) ?_ (by assumption) ?_
              rotate_left
              · intro w hSw
                try dsimp only at hSw
                go_simp
                try with_reducible rfl
              try simp only [Act.put, List.setIfInBounds_toArray, List.set_cons_zero, List.set_cons_succ]
              refine take_yes (v := ?_) 36 (some 4) rfl rfl (by kernel_rfl) (by kernel_rfl) (by kernel_rfl) (fun _ _ _ h => h) (by rfl) ?_ (by assumption) ?_
              rotate_left
              · intro w hSw
                try dsimp only at hSw
                go_simp
                try with_reducible rfl
              try simp only [Act.put, List.setIfInBounds_toArray, List.set_cons_zero, List.set_cons_succ]
              refine wpAnyH_done (by kernel_rfl) ?_ _
              have hB3 : Below W2.heap.size W2 w' := bstep (bstep (Below.refl _ _).drew (by assumption)) hbb
              have hf : Below w.heap.size w w' := by rw [HG0.out]; exact HB2.out.trans (hB3.mono (Nat.le_of_lt z0'))
              have HF := hide hf
              clear hB3 hf hbb
              go_wp2
              go_ret
              first
                | exact ⟨rfl, HF.out⟩
                | (rw [← HG0.out]; exact ⟨rfl, HF.out⟩)
        · obtain ⟨rfl, rfl⟩ := g4'
          go_region_held3 (fun w' => w'.cell? ⟨g0, 0, none⟩ = some (.int .i64 (n : Int)) ∧ w'.cell? ⟨g0, 1, none⟩ = some (.int .u64 (b : Int)) ∧ g0 < w'.heap.size ∧ w'.cell? ⟨g1, 0, none⟩ = some (.int .i64 (n : Int)) ∧ w'.cell? ⟨g1, 1, none⟩ = some (.int .u64 (b : Int)) ∧ g1 < w'.heap.size ∧ w'.cell? ⟨g2, 0, none⟩ = some (.int .i64 ((n : Int) + 1)) ∧ w'.cell? ⟨g2, 1, none⟩ = some (.int .u64 (x : Int)) ∧ g2 < w'.heap.size ∧ w'.cell? ⟨g3, 0, none⟩ = some (.int .i64 ((n : Int) + 1)) ∧ w'.cell? ⟨g3, 1, none⟩ = some (.int .u64 (y : Int)) ∧ g3 < w'.heap.size)
            (first | go_keep | (go_split_ands; refine ⟨?_, ?_, ?_, ?_, ?_, ?_, ?_, ?_, ?_, ?_, ?_, ?_⟩ <;> first | assumption | (rw [hbb.cell (by assumption)]; assumption) | (have := hbb.size; first | omega | (simp at this; omega))))
            ((go_at_call 26; refine (vBegins_any _ _ _ _ (by omega) (by omega) _).mono ?_; rintro e w' ⟨rfl, hbb⟩))
          all_goals
            have hB1 : Below W.heap.size W w' := bstep (bstep (Below.refl _ _).drew (by assumption)) hbb
            rename_i hh
            obtain ⟨m0', u0', z0', m1', u1', z1', -⟩ := hh
            have HB2 := hide (HB.out.trans (hB1.mono (Nat.le_of_lt z0)))
            clear hbb hB1 m0 u0 z0 m1 u1 z1 m2 u2 z2 m3 u3 z3
            generalize w' = W2 at *
            go_wp2
            refine wp_region_held_drew (S := (fun w' => w'.cell? ⟨g0, 0, none⟩ = some (.int .i64 (n : Int)) ∧ w'.cell? ⟨g0, 1, none⟩ = some (.int .u64 (b : Int)) ∧ w'.cell? ⟨g1, 0, none⟩ = some (.int .i64 (n : Int)) ∧ w'.cell? ⟨g1, 1, none⟩ = some (.int .u64 (b : Int)) ∧ g0 < w'.heap.size ∧ g1 < w'.heap.size)) (by kernel_rfl) ?_ (fun hHeld => ?_)
            · try dsimp only
              (first | go_keep | (go_split_ands; refine ⟨?_, ?_, ?_, ?_, ?_, ?_⟩ <;> first | assumption | (rw [hbb.cell (by assumption)]; assumption) | (have := hbb.size; first | omega | (simp at this; omega))))
            refine take_yes (v := ?_) 0 (some 51) rfl rfl (by kernel_rfl) (by kernel_rfl) (by kernel_rfl) (fun _ _ _ h => h) (by rfl) ?_ (by assumption) ?_
            rotate_left
            · intro w hSw
              try dsimp only at hSw
              go_simp
              try with_reducible rfl
            try simp only [Act.put, List.setIfInBounds_toArray, List.set_cons_zero, List.set_cons_succ]
            refine take_yes (v := ?_) 1 (some 52) rfl rfl (by kernel_rfl) (by kernel_rfl) (by kernel_rfl) (fun _ _ _ h => h) (by rfl) ?_ (by assumption) ?_
            rotate_left
            · intro w hSw
              try dsimp only at hSw
              go_simp
              try with_reducible rfl
            try simp only [Act.put, List.setIfInBounds_toArray, List.set_cons_zero, List.set_cons_succ]
            refine take_yes (v := ?_) 3 (some 54) rfl rfl (by kernel_rfl) (by kernel_rfl) (by kernel_rfl) (fun _ _ _ h => h) (by rfl) ?_ (by assumption) ?_
            rotate_left
            · intro w hSw
              try dsimp only at hSw
              go_simp
              try with_reducible rfl
            try simp only [Act.put, List.setIfInBounds_toArray, List.set_cons_zero, List.set_cons_succ]
            refine take_yes (v := ?_) 4 (some 55) rfl rfl (by kernel_rfl) (by kernel_rfl) (by kernel_rfl) (fun _ _ _ h => h) (by rfl) ?_ (by assumption) ?_
            rotate_left
            · intro w hSw
              try dsimp only at hSw
              go_simp
              try with_reducible rfl
            try simp only [Act.put, List.setIfInBounds_toArray, List.set_cons_zero, List.set_cons_succ]
            refine take_yes (v := ?_) 5 (some 56) rfl rfl (by kernel_rfl) (by kernel_rfl) (by kernel_rfl) (fun _ _ _ h => h) (by rfl) ?_ (by assumption) ?_
            rotate_left
            · intro w hSw
              try dsimp only at hSw
              go_simp
              try with_reducible rfl
            try simp only [Act.put, List.setIfInBounds_toArray, List.set_cons_zero, List.set_cons_succ]
            refine wpAnyH_ready (rs := [2]) (by kernel_rfl) (by simp) ?_
            refine AllReadyH.cons rfl (fun K hK => ?_) AllReadyH.nil
            go_simp
            go_at_call 26; refine (vBegins_any _ _ _ _ (by omega) (by omega) _).mono ?_; rintro e w' ⟨rfl, hbb⟩
            first | refine hK.out _ _ ?_ (fun hHeld => ?_) | (go_wp2_with fail; refine hK.out _ _ ?_ (fun hHeld => ?_))
            · try dsimp only
              (first | go_keep | (go_split_ands; refine ⟨?_, ?_, ?_, ?_, ?_, ?_⟩ <;> first | assumption | (rw [hbb.cell (by assumption)]; assumption) | (have := hbb.size; first | omega | (simp at this; omega))))
            clear hK K
            try simp only [Act.put, List.setIfInBounds_toArray, List.set_cons_zero, List.set_cons_succ]
            refine take_yes (v := ?_) 6 (some 57) rfl rfl (by kernel_rfl) (by kernel_rfl) (by kernel_rfl) (fun _ _ _ h => h) (by rfl) ?_ (by assumption) ?_
            rotate_left
            · intro w hSw
              try dsimp only at hSw
              go_simp
              try with_reducible rfl
            try simp only [Act.put, List.setIfInBounds_toArray, List.set_cons_zero, List.set_cons_succ]
            first
              | refine take_no 7 (some 58) rfl rfl (by kernel_rfl) (by kernel_rfl) (by kernel_rfl) (fun _ _ _ h => h) (by rfl) (by assumption) ?_
              | (refine take_yes (v := ?_) 7 (some 58) rfl rfl (by kernel_rfl) (by kernel_rfl) (by kernel_rfl) (fun _ _ _ h => h) (by rfl) ?_ (by assumption) ?_
                 rotate_left
                 · intro w hSw
                   try dsimp only at hSw
                   go_simp
                   try with_reducible rfl)
            try simp only [Act.put, List.setIfInBounds_toArray, List.set_cons_zero, List.set_cons_succ]
            refine take_yes (v := ?_) 8 (some 59) rfl rfl (by kernel_rfl) (by kernel_rfl) (by kernel_rfl) (fun _ _ _ h => h) (by rfl) ?_ (by assumption) ?_
            rotate_left
            · intro w hSw
              try dsimp only at hSw
              go_simp
              try with_reducible rfl
            try simp only [Act.put, List.setIfInBounds_toArray, List.set_cons_zero, List.set_cons_succ]
            refine take_yes (v := ?_) 9 (some 60) rfl rfl (by kernel_rfl) (by kernel_rfl) (by kernel_rfl) (fun _ _ _ h => h) (by rfl) ?_ (by assumption) ?_
            rotate_left
            · intro w hSw
              try dsimp only at hSw
              go_simp
              try with_reducible rfl
            try simp only [Act.put, List.setIfInBounds_toArray, List.set_cons_zero, List.set_cons_succ]
            first
              | refine take_no 10 (some 61) rfl rfl (by kernel_rfl) (by kernel_rfl) (by kernel_rfl) (fun _ _ _ h => h) (by rfl) (by assumption) ?_
              | (refine take_yes (v := ?_) 10 (some 61) rfl rfl (by kernel_rfl) (by kernel_rfl) (by kernel_rfl) (fun _ _ _ h => h) (by rfl) ?_ (by assumption) ?_
                 rotate_left
                 · intro w hSw
                   try dsimp only at hSw
                   go_simp
                   try with_reducible rfl)
            try simp only [Act.put, List.setIfInBounds_toArray, List.set_cons_zero, List.set_cons_succ]
            refine take_yes (v := ?_) 11 (some 62) rfl rfl (by kernel_rfl) (by kernel_rfl) (by kernel_rfl) (fun _ _ _ h => h) (by rfl) ?_ (by assumption) ?_
            rotate_left
            · intro w hSw
              try dsimp only at hSw
              go_simp
              try with_reducible rfl
            try simp only [Act.put, List.setIfInBounds_toArray, List.set_cons_zero, List.set_cons_succ]
            refine take_yes (v := ?_) 12 (some 63) rfl rfl (by kernel_rfl) (by kernel_rfl) (by kernel_rfl) (fun _ _ _ h => h) (by rfl) ?_ (by assumption) ?_
            rotate_left
            · intro w hSw
              try dsimp only at hSw
              go_simp
              try with_reducible rfl
            try simp only [Act.put, List.setIfInBounds_toArray, List.set_cons_zero, List.set_cons_succ]
            refine take_yes (v := ?_) 13 (some 64) rfl rfl (by kernel_rfl) (by kernel_rfl) (by kernel_rfl) (fun _ _ _ h => h) (by rfl) ?_ (by assumption) ?_
            rotate_left
            · intro w hSw
              try dsimp only at hSw
              go_simp
              try with_reducible rfl
            try simp only [Act.put, List.setIfInBounds_toArray, List.set_cons_zero, List.set_cons_succ]
            first
              | refine take_no 14 (some 65) rfl rfl (by kernel_rfl) (by kernel_rfl) (by kernel_rfl) (fun _ _ _ h => h) (by rfl) (by assumption) ?_
              | (refine take_yes (v := ?_) 14 (some 65) rfl rfl (by kernel_rfl) (by kernel_rfl) (by kernel_rfl) (fun _ _ _ h => h) (by rfl) ?_ (by assumption) ?_
                 rotate_left
                 · intro w hSw
                   try dsimp only at hSw
                   go_simp
                   try with_reducible rfl)
            try simp only [Act.put, List.setIfInBounds_toArray, List.set_cons_zero, List.set_cons_succ]
            first
              | refine take_no 15 (some 66) rfl rfl (by kernel_rfl) (by kernel_rfl) (by kernel_rfl) (fun _ _ _ h => h) (by rfl) (by assumption) ?_
              | (refine take_yes (v := ?_) 15 (some 66) rfl rfl (by kernel_rfl) (by kernel_rfl) (by kernel_rfl) (fun _ _ _ h => h) (by rfl) ?_ (by assumption) ?_
                 rotate_left
                 · intro w hSw
                   try dsimp only at hSw
                   go_simp
                   try with_reducible rfl)
            try simp only [Act.put, List.setIfInBounds_toArray, List.set_cons_zero, List.set_cons_succ]
            first
              | refine take_no 16 (some 67) rfl rfl (by kernel_rfl) (by kernel_rfl) (by kernel_rfl) (fun _ _ _ h => h) (by rfl) (by assumption) ?_
              | (refine take_yes (v := ?_) 16 (some 67) rfl rfl (by kernel_rfl) (by kernel_rfl) (by kernel_rfl) (fun _ _ _ h => h) (by rfl) ?_ (by assumption) ?_
                 rotate_left
                 · intro w hSw
                   try dsimp only at hSw
                   go_simp
                   try with_reducible rfl)
            try simp only [Act.put, List.setIfInBounds_toArray, List.set_cons_zero, List.set_cons_succ]
            first
              | refine take_no 17 (some 68) rfl rfl (by kernel_rfl) (by kernel_rfl) (by kernel_rfl) (fun _ _ _ h => h) (by rfl) (by assumption) ?_
              | (refine take_yes (v := ?_) 17 (some 68) rfl rfl (by kernel_rfl) (by kernel_rfl) (by kernel_rfl) (fun _ _ _ h => h) (by rfl) ?_ (by assumption) ?_
                 rotate_left
                 · intro w hSw
                   try dsimp only at hSw
                   go_simp
                   try with_reducible rfl)
            try simp only [Act.put, List.setIfInBounds_toArray, List.set_cons_zero, List.set_cons_succ]
            first
              | refine take_no 18 (some 69) rfl rfl (by kernel_rfl) (by kernel_rfl) (by kernel_rfl) (fun _ _ _ h => h) (by rfl) (by assumption) ?_
              | (refine take_yes (v := ?_) 18 (some 69) rfl rfl (by kernel_rfl) (by kernel_rfl) (by kernel_rfl) (fun _ _ _ h => h) (by rfl) ?_ (by assumption) ?_
                 rotate_left
                 · intro w hSw
                   try dsimp only at hSw
                   go_simp
                   try with_reducible rfl)
            try simp only [Act.put, List.setIfInBounds_toArray, List.set_cons_zero, List.set_cons_succ]
            refine take_yes (v := ?_) 19 (some 70) rfl rfl (by kernel_rfl) (by kernel_rfl) (by kernel_rfl) (fun _ _ _ h => h) (by rfl) ?_ (by assumption) ?_
            rotate_left
            · intro w hSw
              try dsimp only at hSw
              go_simp
              try with_reducible rfl
            try simp only [Act.put, List.setIfInBounds_toArray, List.set_cons_zero, List.set_cons_succ]
            refine take_yes (v := ?_) 20 (some 71) rfl rfl (by kernel_rfl) (by kernel_rfl) (by kernel_rfl) (fun _ _ _ h => h) (by rfl) ?_ (by assumption) ?_
            rotate_left
            · intro w hSw
              try dsimp only at hSw
              go_simp
              try with_reducible rfl
            try simp only [Act.put, List.setIfInBounds_toArray, List.set_cons_zero, List.set_cons_succ]
            first
              | refine take_no 21 (some 72) rfl rfl (by kernel_rfl) (by kernel_rfl) (by kernel_rfl) (fun _ _ _ h => h) (by rfl) (by assumption) ?_
              | (refine take_yes (v := ?_) 21 (some 72) rfl rfl (by kernel_rfl) (by kernel_rfl) (by kernel_rfl) (fun _ _ _ h => h) (by rfl) ?_ (by assumption) ?_
                 rotate_left
                 · intro w hSw
                   try dsimp only at hSw
                   go_simp
                   try with_reducible rfl)
            try simp only [Act.put, List.setIfInBounds_toArray, List.set_cons_zero, List.set_cons_succ]
            first
              | refine take_no 22 (some 73) rfl rfl (by kernel_rfl) (by kernel_rfl) (by kernel_rfl) (fun _ _ _ h => h) (by rfl) (by assumption) ?_
              | (refine take_yes (v := ?_) 22 (some 73) rfl rfl (by kernel_rfl) (by kernel_rfl) (by kernel_rfl) (fun _ _ _ h => h) (by rfl) ?_ (by assumption) ?_
                 rotate_left
                 · intro w hSw
                   try dsimp only at hSw
                   go_simp
                   try with_reducible rfl)
            try simp only [Act.put, List.setIfInBounds_toArray, List.set_cons_zero, List.set_cons_succ]
            first
              | refine take_no 23 (some 74) rfl rfl (by kernel_rfl) (by kernel_rfl) (by kernel_rfl) (fun _ _ _ h => h) (by rfl) (by assumption) ?_
              | (refine take_yes (v := ?_) 23 (some 74) rfl rfl (by kernel_rfl) (by kernel_rfl) (by kernel_rfl) (fun _ _ _ h => h) (by rfl) ?_ (by assumption) ?_
                 rotate_left
                 · intro w hSw
                   try dsimp only at hSw
                   go_simp
                   try with_reducible rfl)
            try simp only [Act.put, List.setIfInBounds_toArray, List.set_cons_zero, List.set_cons_succ]
            first
              | refine take_no 24 (some 75) rfl rfl (by kernel_rfl) (by kernel_rfl) (by kernel_rfl) (fun _ _ _ h => h) (by rfl) (by assumption) ?_
              | (refine take_yes (v := ?_) 24 (some 75) rfl rfl (by kernel_rfl) (by kernel_rfl) (by kernel_rfl) (fun _ _ _ h => h) (by rfl) ?_ (by assumption) ?_
                 rotate_left
                 · intro w hSw
                   try dsimp only at hSw
                   go_simp
                   try with_reducible rfl)
            try simp only [Act.put, List.setIfInBounds_toArray, List.set_cons_zero, List.set_cons_succ]
            first
              | refine take_no 25 (some 76) rfl rfl (by kernel_rfl) (by kernel_rfl) (by kernel_rfl) (fun _ _ _ h => h) (by rfl) (by assumption) ?_
              | (refine take_yes (v := ?_) 25 (some 76) rfl rfl (by kernel_rfl) (by kernel_rfl) (by kernel_rfl) (fun _ _ _ h => h) (by rfl) ?_ (by assumption) ?_
                 rotate_left
                 · intro w hSw
                   try dsimp only at hSw
                   go_simp
                   try with_reducible rfl)
            try simp only [Act.put, List.setIfInBounds_toArray, List.set_cons_zero, List.set_cons_succ]
            first
              | refine take_no 26 (some 77) rfl rfl (by kernel_rfl) (by kernel_rfl) (by kernel_rfl) (fun _ _ _ h => h) (by rfl) (by assumption) ?_
              | (refine take_yes (v := ?_) 26 (some 77) rfl rfl (by kernel_rfl) (by kernel_rfl) (by kernel_rfl) (fun _ _ _ h => h) (by rfl) ?_ (by assumption) ?_
                 rotate_left
                 · intro w hSw
                   try dsimp only at hSw
                   go_simp
                   try with_reducible rfl)
            try simp only [Act.put, List.setIfInBounds_toArray, List.set_cons_zero, List.set_cons_succ]
            first
              | refine take_no 27 (some 78) rfl rfl (by kernel_rfl) (by kernel_rfl) (by kernel_rfl) (fun _ _ _ h => h) (by rfl) (by assumption) ?_
              | (refine take_yes (v := ?_) 27 (some 78) rfl rfl (by kernel_rfl) (by kernel_rfl) (by kernel_rfl) (fun _ _ _ h => h) (by rfl) ?_ (by assumption) ?_
                 rotate_left
                 · intro w hSw
                   try dsimp only at hSw
                   go_simp
                   try with_reducible rfl)
            try simp only [Act.put, List.setIfInBounds_toArray, List.set_cons_zero, List.set_cons_succ]
            first
              | refine take_no 28 (some 79) rfl rfl (by kernel_rfl) (by kernel_rfl) (by kernel_rfl) (fun _ _ _ h => h) (by rfl) (by assumption) ?_
              | (refine take_yes (v := ?_) 28 (some 79) rfl rfl (by kernel_rfl) (by kernel_rfl) (by kernel_rfl) (fun _ _ _ h => h) (by rfl) ?_ (by assumption) ?_
                 rotate_left
                 · intro w hSw
                   try dsimp only at hSw
                   go_simp
                   try with_reducible rfl)
            try simp only [Act.put, List.setIfInBounds_toArray, List.set_cons_zero, List.set_cons_succ]
            first
              | refine take_no 29 (some 80) rfl rfl (by kernel_rfl) (by kernel_rfl) (by kernel_rfl) (fun _ _ _ h => h) (by rfl) (by assumption) ?_
              | (refine take_yes (v := ?_) 29 (some 80) rfl rfl (by kernel_rfl) (by kernel_rfl) (by kernel_rfl) (fun _ _ _ h => h) (by rfl) ?_ (by assumption) ?_
                 rotate_left
                 · intro w hSw
                   try dsimp only at hSw
                   go_simp
                   try with_reducible rfl)
            try simp only [Act.put, List.setIfInBounds_toArray, List.set_cons_zero, List.set_cons_succ]
            first
              | refine take_no 30 (some 81) rfl rfl (by kernel_rfl) (by kernel_rfl) (by kernel_rfl) (fun _ _ _ h => h) (by rfl) (by assumption) ?_
              | (refine take_yes (v := ?_) 30 (some 81) rfl rfl (by kernel_rfl) (by kernel_rfl) (by kernel_rfl) (fun _ _ _ h => h) (by rfl) ?_ (by assumption) ?_
                 rotate_left
                 · intro w hSw
                   try dsimp only at hSw
                   go_simp
                   try with_reducible rfl)
            try simp only [Act.put, List.setIfInBounds_toArray, List.set_cons_zero, List.set_cons_succ]
            first
              | refine take_no 31 (some 82) rfl rfl (by kernel_rfl) (by kernel_rfl) (by kernel_rfl) (fun _ _ _ h => h) (by rfl) (by assumption) ?_
              | (refine take_yes (v := ?_) 31 (some 82) rfl rfl (by kernel_rfl) (by kernel_rfl) (by kernel_rfl) (fun _ _ _ h => h) (by rfl) ?_ (by assumption) ?_
                 rotate_left
                 · intro w hSw
                   try dsimp only at hSw
                   go_simp
                   try with_reducible rfl)
            try simp only [Act.put, List.setIfInBounds_toArray, List.set_cons_zero, List.set_cons_succ]
            refine take_yes (v := ?_) 32 (some 83) rfl rfl (by kernel_rfl) (by kernel_rfl) (by kernel_rfl) (fun _ _ _ h => h) (by rfl) ?_ (by assumption) ?_
            rotate_left
            · intro w hSw
              try dsimp only at hSw
              go_simp
              try with_reducible rfl
            try simp only [Act.put, List.setIfInBounds_toArray, List.set_cons_zero, List.set_cons_succ]
            refine take_yes (v := ?_) 33 (some 84) rfl rfl (by kernel_rfl) (by kernel_rfl) (by kernel_rfl) (fun _ _ _ h => h) (by rfl) ?_ (by assumption) ?_
            rotate_left
            · intro w hSw
              try dsimp only at hSw
              go_simp
              try with_reducible rfl
            try simp only [Act.put, List.setIfInBounds_toArray, List.set_cons_zero, List.set_cons_succ]
            first
              | refine take_no 34 (some 85) rfl rfl (by kernel_rfl) (by kernel_rfl) (by kernel_rfl) (fun _ _ _ h => h) (by rfl) (by assumption) ?_
              | (refine wpAnyH_ready (rs := [34]) (by kernel_rfl) (by simp) ?_
                 refine AllReadyH.cons rfl (fun K hK => ?_) AllReadyH.nil
                 go_simp
                 go_at_call 19; refine (alive_any _).mono ?_; rintro e w' ⟨rfl, hbb⟩
                 first | refine hK.out _ _ ?_ (fun hHeld => ?_) | (go_wp2_with fail; refine hK.out _ _ ?_ (fun hHeld => ?_))
                 · try dsimp only
                   (first | go_keep | (go_split_ands; refine ⟨?_, ?_, ?_, ?_, ?_, ?_⟩ <;> first | assumption | (rw [hbb.cell (by assumption)]; assumption) | (have := hbb.size; first | omega | (simp at this; omega))))
                 clear hK K)
            try simp only [Act.put, List.setIfInBounds_toArray, List.set_cons_zero, List.set_cons_succ]
            refine take_yes (v := ?_) 35 (some 86) rfl rfl (by kernel_rfl) (by kernel_rfl) (by kernel_rfl) (fun _ _ _ h => h) (by rfl) ?_ (by assumption) ?_
            rotate_left
            · intro w hSw
              try dsimp only at hSw
              go_simp
              try with_reducible rfl
            try simp only [Act.put, List.setIfInBounds_toArray, List.set_cons_zero, List.set_cons_succ]
            refine take_yes (v := ?_) 36 (some 4) rfl rfl (by kernel_rfl) (by kernel_rfl) (by kernel_rfl) (fun _ _ _ h => h) (by rfl) ?_ (by assumption) ?_
            rotate_left
            · intro w hSw
              try dsimp only at hSw
              go_simp
              try with_reducible rfl
            try simp only [Act.put, List.setIfInBounds_toArray, List.set_cons_zero, List.set_cons_succ]
            refine wpAnyH_done (by kernel_rfl) ?_ _
            have hB3 : Below W2.heap.size W2 w' := bstep (bstep (Below.refl _ _).drew (by assumption)) hbb
            have hf : Below w.heap.size w w' := by rw [HG0.out]; exact HB2.out.trans (hB3.mono (Nat.le_of_lt z0'))
            have HF := hide hf
            clear hB3 hf hbb
            go_wp2
            go_ret
            first
              | exact ⟨rfl, HF.out⟩
              | (rw [← HG0.out]; exact ⟨rfl, HF.out⟩)
        · have en : n ≠ m := by intro h; subst h; rw [bg_nm] at g2'; cases g2'
          have e1 : ((n : Int) == m) = false := by simp; omega
          clear en g4'
          go_region_held3 (fun w' => w'.cell? ⟨g0, 0, none⟩ = some (.int .i64 (n : Int)) ∧ w'.cell? ⟨g0, 1, none⟩ = some (.int .u64 (b : Int)) ∧ g0 < w'.heap.size ∧ w'.cell? ⟨g1, 0, none⟩ = some (.int .i64 (m : Int)) ∧ w'.cell? ⟨g1, 1, none⟩ = some (.int .u64 (c : Int)) ∧ g1 < w'.heap.size ∧ w'.cell? ⟨g2, 0, none⟩ = some (.int .i64 ((m : Int) + 1)) ∧ w'.cell? ⟨g2, 1, none⟩ = some (.int .u64 (x : Int)) ∧ g2 < w'.heap.size ∧ w'.cell? ⟨g3, 0, none⟩ = some (.int .i64 ((m : Int) + 1)) ∧ w'.cell? ⟨g3, 1, none⟩ = some (.int .u64 (y : Int)) ∧ g3 < w'.heap.size)
            (first | go_keep | (go_split_ands; refine ⟨?_, ?_, ?_, ?_, ?_, ?_, ?_, ?_, ?_, ?_, ?_, ?_⟩ <;> first | assumption | (rw [hbb.cell (by assumption)]; assumption) | (have := hbb.size; first | omega | (simp at this; omega))))
            ((go_at_call 26; refine (vBegins_any _ _ _ _ (by omega) (by omega) _).mono ?_; rintro e w' ⟨rfl, hbb⟩))
          all_goals
            have hB1 : Below W.heap.size W w' := bstep (bstep (Below.refl _ _).drew (by assumption)) hbb
            rename_i hh
            obtain ⟨m0', u0', z0', m1', u1', z1', -⟩ := hh
            have HB2 := hide (HB.out.trans (hB1.mono (Nat.le_of_lt z0)))
            clear hbb hB1 m0 u0 z0 m1 u1 z1 m2 u2 z2 m3 u3 z3
            generalize w' = W2 at *
            go_wp2
            refine wp_region_held_drew (S := (fun w' => w'.cell? ⟨g0, 0, none⟩ = some (.int .i64 (n : Int)) ∧ w'.cell? ⟨g0, 1, none⟩ = some (.int .u64 (b : Int)) ∧ w'.cell? ⟨g1, 0, none⟩ = some (.int .i64 (m : Int)) ∧ w'.cell? ⟨g1, 1, none⟩ = some (.int .u64 (c : Int)) ∧ g0 < w'.heap.size ∧ g1 < w'.heap.size)) (by kernel_rfl) ?_ (fun hHeld => ?_)
            · try dsimp only
              (first | go_keep | (go_split_ands; refine ⟨?_, ?_, ?_, ?_, ?_, ?_⟩ <;> first | assumption | (rw [hbb.cell (by assumption)]; assumption) | (have := hbb.size; first | omega | (simp at this; omega))))
            refine take_yes (v := ?_) 0 (some 51) rfl rfl (by kernel_rfl) (by kernel_rfl) (by kernel_rfl) (fun _ _ _ h => h) (by rfl) ?_ (by assumption) ?_
            rotate_left
            · intro w hSw
              try dsimp only at hSw
              go_simp
              try with_reducible rfl
            try simp only [Act.put, List.setIfInBounds_toArray, List.set_cons_zero, List.set_cons_succ]
            refine take_yes (v := ?_) 1 (some 52) rfl rfl (by kernel_rfl) (by kernel_rfl) (by kernel_rfl) (fun _ _ _ h => h) (by rfl) ?_ (by assumption) ?_
            rotate_left
            · intro w hSw
              try dsimp only at hSw
              go_simp
              try with_reducible rfl
            try simp only [Act.put, List.setIfInBounds_toArray, List.set_cons_zero, List.set_cons_succ]
            refine take_yes (v := ?_) 3 (some 54) rfl rfl (by kernel_rfl) (by kernel_rfl) (by kernel_rfl) (fun _ _ _ h => h) (by rfl) ?_ (by assumption) ?_
            rotate_left
            · intro w hSw
              try dsimp only at hSw
              go_simp
              try with_reducible rfl
            try simp only [Act.put, List.setIfInBounds_toArray, List.set_cons_zero, List.set_cons_succ]
            refine take_yes (v := ?_) 4 (some 55) rfl rfl (by kernel_rfl) (by kernel_rfl) (by kernel_rfl) (fun _ _ _ h => h) (by rfl) ?_ (by assumption) ?_
            rotate_left
            · intro w hSw
              try dsimp only at hSw
              go_simp
              try with_reducible rfl
            try simp only [Act.put, List.setIfInBounds_toArray, List.set_cons_zero, List.set_cons_succ]
            refine take_yes (v := ?_) 5 (some 56) rfl rfl (by kernel_rfl) (by kernel_rfl) (by kernel_rfl) (fun _ _ _ h => h) (by rfl) ?_ (by assumption) ?_
            rotate_left
            · intro w hSw
              try dsimp only at hSw
              go_simp
              try with_reducible rfl
            try simp only [Act.put, List.setIfInBounds_toArray, List.set_cons_zero, List.set_cons_succ]
            refine wpAnyH_ready (rs := [2]) (by kernel_rfl) (by simp) ?_
            refine AllReadyH.cons rfl (fun K hK => ?_) AllReadyH.nil
            go_simp
            go_at_call 26; refine (vBegins_any _ _ _ _ (by omega) (by omega) _).mono ?_; rintro e w' ⟨rfl, hbb⟩
            first | refine hK.out _ _ ?_ (fun hHeld => ?_) | (go_wp2_with fail; refine hK.out _ _ ?_ (fun hHeld => ?_))
            · try dsimp only
              (first | go_keep | (go_split_ands; refine ⟨?_, ?_, ?_, ?_, ?_, ?_⟩ <;> first | assumption | (rw [hbb.cell (by assumption)]; assumption) | (have := hbb.size; first | omega | (simp at this; omega))))
            clear hK K
            try simp only [Act.put, List.setIfInBounds_toArray, List.set_cons_zero, List.set_cons_succ]
            refine take_yes (v := ?_) 6 (some 57) rfl rfl (by kernel_rfl) (by kernel_rfl) (by kernel_rfl) (fun _ _ _ h => h) (by rfl) ?_ (by assumption) ?_
            rotate_left
            · intro w hSw
              try dsimp only at hSw
              go_simp
              try with_reducible rfl
            try simp only [Act.put, List.setIfInBounds_toArray, List.set_cons_zero, List.set_cons_succ]
            first
              | refine take_no 7 (some 58) rfl rfl (by kernel_rfl) (by kernel_rfl) (by kernel_rfl) (fun _ _ _ h => h) (by rfl) (by assumption) ?_
              | (refine take_yes (v := ?_) 7 (some 58) rfl rfl (by kernel_rfl) (by kernel_rfl) (by kernel_rfl) (fun _ _ _ h => h) (by rfl) ?_ (by assumption) ?_
                 rotate_left
                 · intro w hSw
                   try dsimp only at hSw
                   go_simp
                   try with_reducible rfl)
            try simp only [Act.put, List.setIfInBounds_toArray, List.set_cons_zero, List.set_cons_succ]
            refine take_yes (v := ?_) 8 (some 59) rfl rfl (by kernel_rfl) (by kernel_rfl) (by kernel_rfl) (fun _ _ _ h => h) (by rfl) ?_ (by assumption) ?_
            rotate_left
            · intro w hSw
              try dsimp only at hSw
              go_simp
              try with_reducible rfl
            try simp only [Act.put, List.setIfInBounds_toArray, List.set_cons_zero, List.set_cons_succ]
            refine take_yes (v := ?_) 9 (some 60) rfl rfl (by kernel_rfl) (by kernel_rfl) (by kernel_rfl) (fun _ _ _ h => h) (by rfl) ?_ (by assumption) ?_
            rotate_left
            · intro w hSw
              try dsimp only at hSw
              go_simp
              try with_reducible rfl
            try simp only [Act.put, List.setIfInBounds_toArray, List.set_cons_zero, List.set_cons_succ]
            first
              | refine take_no 10 (some 61) rfl rfl (by kernel_rfl) (by kernel_rfl) (by kernel_rfl) (fun _ _ _ h => h) (by rfl) (by assumption) ?_
              | (refine take_yes (v := ?_) 10 (some 61) rfl rfl (by kernel_rfl) (by kernel_rfl) (by kernel_rfl) (fun _ _ _ h => h) (by rfl) ?_ (by assumption) ?_
                 rotate_left
                 · intro w hSw
                   try dsimp only at hSw
                   go_simp
                   try with_reducible rfl)
            try simp only [Act.put, List.setIfInBounds_toArray, List.set_cons_zero, List.set_cons_succ]
            refine take_yes (v := ?_) 11 (some 62) rfl rfl (by kernel_rfl) (by kernel_rfl) (by kernel_rfl) (fun _ _ _ h => h) (by rfl) ?_ (by assumption) ?_
            rotate_left
            · intro w hSw
              try dsimp only at hSw
              go_simp
              try with_reducible rfl
            try simp only [Act.put, List.setIfInBounds_toArray, List.set_cons_zero, List.set_cons_succ]
            refine take_yes (v := ?_) 12 (some 63) rfl rfl (by kernel_rfl) (by kernel_rfl) (by kernel_rfl) (fun _ _ _ h => h) (by rfl) ?_ (by assumption) ?_
            rotate_left
            · intro w hSw
              try dsimp only at hSw
              go_simp
              try with_reducible rfl
            try simp only [Act.put, List.setIfInBounds_toArray, List.set_cons_zero, List.set_cons_succ]
            refine take_yes (v := ?_) 13 (some 64) rfl rfl (by kernel_rfl) (by kernel_rfl) (by kernel_rfl) (fun _ _ _ h => h) (by rfl) ?_ (by assumption) ?_
            rotate_left
            · intro w hSw
              try dsimp only at hSw
              go_simp
              try with_reducible rfl
            try simp only [Act.put, List.setIfInBounds_toArray, List.set_cons_zero, List.set_cons_succ]
            first
              | refine take_no 14 (some 65) rfl rfl (by kernel_rfl) (by kernel_rfl) (by kernel_rfl) (fun _ _ _ h => h) (by rfl) (by assumption) ?_
              | (refine take_yes (v := ?_) 14 (some 65) rfl rfl (by kernel_rfl) (by kernel_rfl) (by kernel_rfl) (fun _ _ _ h => h) (by rfl) ?_ (by assumption) ?_
                 rotate_left
                 · intro w hSw
                   try dsimp only at hSw
                   go_simp
                   try with_reducible rfl)
            try simp only [Act.put, List.setIfInBounds_toArray, List.set_cons_zero, List.set_cons_succ]
            first
              | refine take_no 15 (some 66) rfl rfl (by kernel_rfl) (by kernel_rfl) (by kernel_rfl) (fun _ _ _ h => h) (by rfl) (by assumption) ?_
              | (refine take_yes (v := ?_) 15 (some 66) rfl rfl (by kernel_rfl) (by kernel_rfl) (by kernel_rfl) (fun _ _ _ h => h) (by rfl) ?_ (by assumption) ?_
                 rotate_left
                 · intro w hSw
                   try dsimp only at hSw
                   go_simp
                   try with_reducible rfl)
            try simp only [Act.put, List.setIfInBounds_toArray, List.set_cons_zero, List.set_cons_succ]
            first
              | refine take_no 16 (some 67) rfl rfl (by kernel_rfl) (by kernel_rfl) (by kernel_rfl) (fun _ _ _ h => h) (by rfl) (by assumption) ?_
              | (refine take_yes (v := ?_) 16 (some 67) rfl rfl (by kernel_rfl) (by kernel_rfl) (by kernel_rfl) (fun _ _ _ h => h) (by rfl) ?_ (by assumption) ?_
                 rotate_left
                 · intro w hSw
                   try dsimp only at hSw
                   go_simp
                   try with_reducible rfl)
            try simp only [Act.put, List.setIfInBounds_toArray, List.set_cons_zero, List.set_cons_succ]
            first
              | refine take_no 17 (some 68) rfl rfl (by kernel_rfl) (by kernel_rfl) (by kernel_rfl) (fun _ _ _ h => h) (by rfl) (by assumption) ?_
              | (refine take_yes (v := ?_) 17 (some 68) rfl rfl (by kernel_rfl) (by kernel_rfl) (by kernel_rfl) (fun _ _ _ h => h) (by rfl) ?_ (by assumption) ?_
                 rotate_left
                 · intro w hSw
                   try dsimp only at hSw
                   go_simp
                   try with_reducible rfl)
            try simp only [Act.put, List.setIfInBounds_toArray, List.set_cons_zero, List.set_cons_succ]
            first
              | refine take_no 18 (some 69) rfl rfl (by kernel_rfl) (by kernel_rfl) (by kernel_rfl) (fun _ _ _ h => h) (by rfl) (by assumption) ?_
              | (refine take_yes (v := ?_) 18 (some 69) rfl rfl (by kernel_rfl) (by kernel_rfl) (by kernel_rfl) (fun _ _ _ h => h) (by rfl) ?_ (by assumption) ?_
                 rotate_left
                 · intro w hSw
                   try dsimp only at hSw
                   go_simp
                   try with_reducible rfl)
            try simp only [Act.put, List.setIfInBounds_toArray, List.set_cons_zero, List.set_cons_succ]
            refine take_yes (v := ?_) 19 (some 70) rfl rfl (by kernel_rfl) (by kernel_rfl) (by kernel_rfl) (fun _ _ _ h => h) (by rfl) ?_ (by assumption) ?_
            rotate_left
            · intro w hSw
              try dsimp only at hSw
              go_simp
              try with_reducible rfl
            try simp only [Act.put, List.setIfInBounds_toArray, List.set_cons_zero, List.set_cons_succ]
            refine take_yes (v := ?_) 20 (some 71) rfl rfl (by kernel_rfl) (by kernel_rfl) (by kernel_rfl) (fun _ _ _ h => h) (by rfl) ?_ (by assumption) ?_
            rotate_left
            · intro w hSw
              try dsimp only at hSw
              go_simp
              try with_reducible rfl
            try simp only [Act.put, List.setIfInBounds_toArray, List.set_cons_zero, List.set_cons_succ]
            first
              | refine take_no 21 (some 72) rfl rfl (by kernel_rfl) (by kernel_rfl) (by kernel_rfl) (fun _ _ _ h => h) (by rfl) (by assumption) ?_
              | (refine take_yes (v := ?_) 21 (some 72) rfl rfl (by kernel_rfl) (by kernel_rfl) (by kernel_rfl) (fun _ _ _ h => h) (by rfl) ?_ (by assumption) ?_
                 rotate_left
                 · intro w hSw
                   try dsimp only at hSw
                   go_simp
                   try with_reducible rfl)
            try simp only [Act.put, List.setIfInBounds_toArray, List.set_cons_zero, List.set_cons_succ]
            first
              | refine take_no 22 (some 73) rfl rfl (by kernel_rfl) (by kernel_rfl) (by kernel_rfl) (fun _ _ _ h => h) (by rfl) (by assumption) ?_
              | (refine take_yes (v := ?_) 22 (some 73) rfl rfl (by kernel_rfl) (by kernel_rfl) (by kernel_rfl) (fun _ _ _ h => h) (by rfl) ?_ (by assumption) ?_
                 rotate_left
                 · intro w hSw
                   try dsimp only at hSw
                   go_simp
                   try with_reducible rfl)
            try simp only [Act.put, List.setIfInBounds_toArray, List.set_cons_zero, List.set_cons_succ]
            first
              | refine take_no 23 (some 74) rfl rfl (by kernel_rfl) (by kernel_rfl) (by kernel_rfl) (fun _ _ _ h => h) (by rfl) (by assumption) ?_
              | (refine take_yes (v := ?_) 23 (some 74) rfl rfl (by kernel_rfl) (by kernel_rfl) (by kernel_rfl) (fun _ _ _ h => h) (by rfl) ?_ (by assumption) ?_
                 rotate_left
                 · intro w hSw
                   try dsimp only at hSw
                   go_simp
                   try with_reducible rfl)
            try simp only [Act.put, List.setIfInBounds_toArray, List.set_cons_zero, List.set_cons_succ]
            first
              | refine take_no 24 (some 75) rfl rfl (by kernel_rfl) (by kernel_rfl) (by kernel_rfl) (fun _ _ _ h => h) (by rfl) (by assumption) ?_
              | (refine take_yes (v := ?_) 24 (some 75) rfl rfl (by kernel_rfl) (by kernel_rfl) (by kernel_rfl) (fun _ _ _ h => h) (by rfl) ?_ (by assumption) ?_
                 rotate_left
                 · intro w hSw
                   try dsimp only at hSw
                   go_simp
                   try with_reducible rfl)
            try simp only [Act.put, List.setIfInBounds_toArray, List.set_cons_zero, List.set_cons_succ]
            first
              | refine take_no 25 (some 76) rfl rfl (by kernel_rfl) (by kernel_rfl) (by kernel_rfl) (fun _ _ _ h => h) (by rfl) (by assumption) ?_
              | (refine take_yes (v := ?_) 25 (some 76) rfl rfl (by kernel_rfl) (by kernel_rfl) (by kernel_rfl) (fun _ _ _ h => h) (by rfl) ?_ (by assumption) ?_
                 rotate_left
                 · intro w hSw
                   try dsimp only at hSw
                   go_simp
                   try with_reducible rfl)
            try simp only [Act.put, List.setIfInBounds_toArray, List.set_cons_zero, List.set_cons_succ]
            first
              | refine take_no 26 (some 77) rfl rfl (by kernel_rfl) (by kernel_rfl) (by kernel_rfl) (fun _ _ _ h => h) (by rfl) (by assumption) ?_
              | (refine take_yes (v := ?_) 26 (some 77) rfl rfl (by kernel_rfl) (by kernel_rfl) (by kernel_rfl) (fun _ _ _ h => h) (by rfl) ?_ (by assumption) ?_
                 rotate_left
                 · intro w hSw
                   try dsimp only at hSw
                   go_simp
                   try with_reducible rfl)
            try simp only [Act.put, List.setIfInBounds_toArray, List.set_cons_zero, List.set_cons_succ]
            first
              | refine take_no 27 (some 78) rfl rfl (by kernel_rfl) (by kernel_rfl) (by kernel_rfl) (fun _ _ _ h => h) (by rfl) (by assumption) ?_
              | (refine take_yes (v := ?_) 27 (some 78) rfl rfl (by kernel_rfl) (by kernel_rfl) (by kernel_rfl) (fun _ _ _ h => h) (by rfl) ?_ (by assumption) ?_
                 rotate_left
                 · intro w hSw
                   try dsimp only at hSw
                   go_simp
                   try with_reducible rfl)
            try simp only [Act.put, List.setIfInBounds_toArray, List.set_cons_zero, List.set_cons_succ]
            first
              | refine take_no 28 (some 79) rfl rfl (by kernel_rfl) (by kernel_rfl) (by kernel_rfl) (fun _ _ _ h => h) (by rfl) (by assumption) ?_
              | (refine take_yes (v := ?_) 28 (some 79) rfl rfl (by kernel_rfl) (by kernel_rfl) (by kernel_rfl) (fun _ _ _ h => h) (by rfl) ?_ (by assumption) ?_
                 rotate_left
                 · intro w hSw
                   try dsimp only at hSw
                   go_simp
                   try with_reducible rfl)
            try simp only [Act.put, List.setIfInBounds_toArray, List.set_cons_zero, List.set_cons_succ]
            first
              | refine take_no 29 (some 80) rfl rfl (by kernel_rfl) (by kernel_rfl) (by kernel_rfl) (fun _ _ _ h => h) (by rfl) (by assumption) ?_
              | (refine take_yes (v := ?_) 29 (some 80) rfl rfl (by kernel_rfl) (by kernel_rfl) (by kernel_rfl) (fun _ _ _ h => h) (by rfl) ?_ (by assumption) ?_
                 rotate_left
                 · intro w hSw
                   try dsimp only at hSw
                   go_simp
                   try with_reducible rfl)
            try simp only [Act.put, List.setIfInBounds_toArray, List.set_cons_zero, List.set_cons_succ]
            first
              | refine take_no 30 (some 81) rfl rfl (by kernel_rfl) (by kernel_rfl) (by kernel_rfl) (fun _ _ _ h => h) (by rfl) (by assumption) ?_
              | (refine take_yes (v := ?_) 30 (some 81) rfl rfl (by kernel_rfl) (by kernel_rfl) (by kernel_rfl) (fun _ _ _ h => h) (by rfl) ?_ (by assumption) ?_
                 rotate_left
                 · intro w hSw
                   try dsimp only at hSw
                   go_simp
                   try with_reducible rfl)
            try simp only [Act.put, List.setIfInBounds_toArray, List.set_cons_zero, List.set_cons_succ]
            first
              | refine take_no 31 (some 82) rfl rfl (by kernel_rfl) (by kernel_rfl) (by kernel_rfl) (fun _ _ _ h => h) (by rfl) (by assumption) ?_
              | (refine take_yes (v := ?_) 31 (some 82) rfl rfl (by kernel_rfl) (by kernel_rfl) (by kernel_rfl) (fun _ _ _ h => h) (by rfl) ?_ (by assumption) ?_
                 rotate_left
                 · intro w hSw
                   try dsimp only at hSw
                   go_simp
                   try with_reducible rfl)
            try simp only [Act.put, List.setIfInBounds_toArray, List.set_cons_zero, List.set_cons_succ]
            refine take_yes (v := ?_) 32 (some 83) rfl rfl (by kernel_rfl) (by kernel_rfl) (by kernel_rfl) (fun _ _ _ h => h) (by rfl) ?_ (by assumption) ?_
            rotate_left
            · intro w hSw
              try dsimp only at hSw
              go_simp
              try with_reducible rfl
            try simp only [Act.put, List.setIfInBounds_toArray, List.set_cons_zero, List.set_cons_succ]
            refine take_yes (v := ?_) 33 (some 84) rfl rfl (by kernel_rfl) (by kernel_rfl) (by kernel_rfl) (fun _ _ _ h => h) (by rfl) ?_ (by assumption) ?_
            rotate_left
            · intro w hSw
              try dsimp only at hSw
              go_simp
              try with_reducible rfl
            try simp only [Act.put, List.setIfInBounds_toArray, List.set_cons_zero, List.set_cons_succ]
            first
              | refine take_no 34 (some 85) rfl rfl (by kernel_rfl) (by kernel_rfl) (by kernel_rfl) (fun _ _ _ h => h) (by rfl) (by assumption) ?_
              | (refine wpAnyH_ready (rs := [34]) (by kernel_rfl) (by simp) ?_
                 refine AllReadyH.cons rfl (fun K hK => ?_) AllReadyH.nil
                 go_simp
                 go_at_call 19; refine (alive_any _).mono ?_; rintro e w' ⟨rfl, hbb⟩
                 first | refine hK.out _ _ ?_ (fun hHeld => ?_) | (go_wp2_with fail; refine hK.out _ _ ?_ (fun hHeld => ?_))
                 · try dsimp only
                   (first | go_keep | (go_split_ands; refine ⟨?_, ?_, ?_, ?_, ?_, ?_⟩ <;> first | assumption | (rw [hbb.cell (by assumption)]; assumption) | (have := hbb.size; first | omega | (simp at this; omega))))
                 clear hK K)
            try simp only [Act.put, List.setIfInBounds_toArray, List.set_cons_zero, List.set_cons_succ]
            refine take_yes (v := ?_) 35 (some 86) rfl rfl (by kernel_rfl) (by kernel_rfl) (by kernel_rfl) (fun _ _ _ h => h) (by rfl) ?_ (by assumption) ?_
            rotate_left
            · intro w hSw
              try dsimp only at hSw
              go_simp
              try with_reducible rfl
            try simp only [Act.put, List.setIfInBounds_toArray, List.set_cons_zero, List.set_cons_succ]
            refine take_yes (v := ?_) 36 (some 4) rfl rfl (by kernel_rfl) (by kernel_rfl) (by kernel_rfl) (fun _ _ _ h => h) (by rfl) ?_ (by assumption) ?_
            rotate_left
            · intro w hSw
              try dsimp only at hSw
              go_simp
              try with_reducible rfl
            try simp only [Act.put, List.setIfInBounds_toArray, List.set_cons_zero, List.set_cons_succ]
            refine wpAnyH_done (by kernel_rfl) ?_ _
            have hB3 : Below W2.heap.size W2 w' := bstep (bstep (Below.refl _ _).drew (by assumption)) hbb
            have hf : Below w.heap.size w w' := by rw [HG0.out]; exact HB2.out.trans (hB3.mono (Nat.le_of_lt z0'))
            have HF := hide hf
            clear hB3 hf hbb
            go_wp2
            go_ret
            first
              | exact ⟨rfl, HF.out⟩
              | (rw [← HG0.out]; exact ⟨rfl, HF.out⟩)
        · have en : n ≠ m := by intro h; subst h; rw [bg_nm] at g3'; cases g3'
          have e1 : ((n : Int) == m) = false := by simp; omega
          clear en g4'
          go_region_held3 (fun w' => w'.cell? ⟨g0, 0, none⟩ = some (.int .i64 (n : Int)) ∧ w'.cell? ⟨g0, 1, none⟩ = some (.int .u64 (b : Int)) ∧ g0 < w'.heap.size ∧ w'.cell? ⟨g1, 0, none⟩ = some (.int .i64 (m : Int)) ∧ w'.cell? ⟨g1, 1, none⟩ = some (.int .u64 (c : Int)) ∧ g1 < w'.heap.size ∧ w'.cell? ⟨g2, 0, none⟩ = some (.int .i64 ((m : Int) + 1)) ∧ w'.cell? ⟨g2, 1, none⟩ = some (.int .u64 (x : Int)) ∧ g2 < w'.heap.size ∧ w'.cell? ⟨g3, 0, none⟩ = some (.int .i64 ((m : Int) + 1)) ∧ w'.cell? ⟨g3, 1, none⟩ = some (.int .u64 (y : Int)) ∧ g3 < w'.heap.size)
            (first | go_keep | (go_split_ands; refine ⟨?_, ?_, ?_, ?_, ?_, ?_, ?_, ?_, ?_, ?_, ?_, ?_⟩ <;> first | assumption | (rw [hbb.cell (by assumption)]; assumption) | (have := hbb.size; first | omega | (simp at this; omega))))
            ((go_at_call 26; refine (vBegins_any _ _ _ _ (by omega) (by omega) _).mono ?_; rintro e w' ⟨rfl, hbb⟩))
          all_goals
            have hB1 : Below W.heap.size W w' := bstep (bstep (Below.refl _ _).drew (by assumption)) hbb
            rename_i hh
            obtain ⟨m0', u0', z0', m1', u1', z1', -⟩ := hh
            have HB2 := hide (HB.out.trans (hB1.mono (Nat.le_of_lt z0)))
            clear hbb hB1 m0 u0 z0 m1 u1 z1 m2 u2 z2 m3 u3 z3
            generalize w' = W2 at *
            go_wp2
            refine wp_region_held_drew (S := (fun w' => w'.cell? ⟨g0, 0, none⟩ = some (.int .i64 (n : Int)) ∧ w'.cell? ⟨g0, 1, none⟩ = some (.int .u64 (b : Int)) ∧ w'.cell? ⟨g1, 0, none⟩ = some (.int .i64 (m : Int)) ∧ w'.cell? ⟨g1, 1, none⟩ = some (.int .u64 (c : Int)) ∧ g0 < w'.heap.size ∧ g1 < w'.heap.size)) (by kernel_rfl) ?_ (fun hHeld => ?_)
            · try dsimp only
              (first | go_keep | (go_split_ands; refine ⟨?_, ?_, ?_, ?_, ?_, ?_⟩ <;> first | assumption | (rw [hbb.cell (by assumption)]; assumption) | (have := hbb.size; first | omega | (simp at this; omega))))
            refine take_yes (v := ?_) 0 (some 51) rfl rfl (by kernel_rfl) (by kernel_rfl) (by kernel_rfl) (fun _ _ _ h => h) (by rfl) ?_ (by assumption) ?_
            rotate_left
            · intro w hSw
              try dsimp only at hSw
              go_simp
              try with_reducible rfl
            try simp only [Act.put, List.setIfInBounds_toArray, List.set_cons_zero, List.set_cons_succ]
            refine take_yes (v := ?_) 1 (some 52) rfl rfl (by kernel_rfl) (by kernel_rfl) (by kernel_rfl) (fun _ _ _ h => h) (by rfl) ?_ (by assumption) ?_
            rotate_left
            · intro w hSw
              try dsimp only at hSw
              go_simp
              try with_reducible rfl
            try simp only [Act.put, List.setIfInBounds_toArray, List.set_cons_zero, List.set_cons_succ]
            refine take_yes (v := ?_) 3 (some 54) rfl rfl (by kernel_rfl) (by kernel_rfl) (by kernel_rfl) (fun _ _ _ h => h) (by rfl) ?_ (by assumption) ?_
            rotate_left
            · intro w hSw
              try dsimp only at hSw
              go_simp
              try with_reducible rfl
            try simp only [Act.put, List.setIfInBounds_toArray, List.set_cons_zero, List.set_cons_succ]
            refine take_yes (v := ?_) 4 (some 55) rfl rfl (by kernel_rfl) (by kernel_rfl) (by kernel_rfl) (fun _ _ _ h => h) (by rfl) ?_ (by assumption) ?_
            rotate_left
            · intro w hSw
              try dsimp only at hSw
              go_simp
              try with_reducible rfl
            try simp only [Act.put, List.setIfInBounds_toArray, List.set_cons_zero, List.set_cons_succ]
            refine take_yes (v := ?_) 5 (some 56) rfl rfl (by kernel_rfl) (by kernel_rfl) (by kernel_rfl) (fun _ _ _ h => h) (by rfl) ?_ (by assumption) ?_
            rotate_left
            · intro w hSw
              try dsimp only at hSw
              go_simp
              try with_reducible rfl
            try simp only [Act.put, List.setIfInBounds_toArray, List.set_cons_zero, List.set_cons_succ]
            refine wpAnyH_ready (rs := [2]) (by kernel_rfl) (by simp) ?_
            refine AllReadyH.cons rfl (fun K hK => ?_) AllReadyH.nil
            go_simp
            go_at_call 26; refine (vBegins_any _ _ _ _ (by omega) (by omega) _).mono ?_; rintro e w' ⟨rfl, hbb⟩
            first | refine hK.out _ _ ?_ (fun hHeld => ?_) | (go_wp2_with fail; refine hK.out _ _ ?_ (fun hHeld => ?_))
            · try dsimp only
              (first | go_keep | (go_split_ands; refine ⟨?_, ?_, ?_, ?_, ?_, ?_⟩ <;> first | assumption | (rw [hbb.cell (by assumption)]; assumption) | (have := hbb.size; first | omega | (simp at this; omega))))
            clear hK K
            try simp only [Act.put, List.setIfInBounds_toArray, List.set_cons_zero, List.set_cons_succ]
            refine take_yes (v := ?_) 6 (some 57) rfl rfl (by kernel_rfl) (by kernel_rfl) (by kernel_rfl) (fun _ _ _ h => h) (by rfl) ?_ (by assumption) ?_
            rotate_left
            · intro w hSw
              try dsimp only at hSw
              go_simp
              try with_reducible rfl
            try simp only [Act.put, List.setIfInBounds_toArray, List.set_cons_zero, List.set_cons_succ]
            first
              | refine take_no 7 (some 58) rfl rfl (by kernel_rfl) (by kernel_rfl) (by kernel_rfl) (fun _ _ _ h => h) (by rfl) (by assumption) ?_
              | (refine take_yes (v := ?_) 7 (some 58) rfl rfl (by kernel_rfl) (by kernel_rfl) (by kernel_rfl) (fun _ _ _ h => h) (by rfl) ?_ (by assumption) ?_
                 rotate_left
                 · intro w hSw
                   try dsimp only at hSw
                   go_simp
                   try with_reducible rfl)
            try simp only [Act.put, List.setIfInBounds_toArray, List.set_cons_zero, List.set_cons_succ]
            refine take_yes (v := ?_) 8 (some 59) rfl rfl (by kernel_rfl) (by kernel_rfl) (by kernel_rfl) (fun _ _ _ h => h) (by rfl) ?_ (by assumption) ?_
            rotate_left
            · intro w hSw
              try dsimp only at hSw
              go_simp
              try with_reducible rfl
            try simp only [Act.put, List.setIfInBounds_toArray, List.set_cons_zero, List.set_cons_succ]
            refine take_yes (v := ?_) 9 (some 60) rfl rfl (by kernel_rfl) (by kernel_rfl) (by kernel_rfl) (fun _ _ _ h => h) (by rfl) ?_ (by assumption) ?_
            rotate_left
            · intro w hSw
              try dsimp only at hSw
              go_simp
              try with_reducible rfl
            try simp only [Act.put, List.setIfInBounds_toArray, List.set_cons_zero, List.set_cons_succ]
            first
              | refine take_no 10 (some 61) rfl rfl (by kernel_rfl) (by kernel_rfl) (by kernel_rfl) (fun _ _ _ h => h) (by rfl) (by assumption) ?_
              | (refine take_yes (v := ?_) 10 (some 61) rfl rfl (by kernel_rfl) (by kernel_rfl) (by kernel_rfl) (fun _ _ _ h => h) (by rfl) ?_ (by assumption) ?_
                 rotate_left
                 · intro w hSw
                   try dsimp only at hSw
                   go_simp
                   try with_reducible rfl)
            try simp only [Act.put, List.setIfInBounds_toArray, List.set_cons_zero, List.set_cons_succ]
            refine take_yes (v := ?_) 11 (some 62) rfl rfl (by kernel_rfl) (by kernel_rfl) (by kernel_rfl) (fun _ _ _ h => h) (by rfl) ?_ (by assumption) ?_
            rotate_left
            · intro w hSw
              try dsimp only at hSw
              go_simp
              try with_reducible rfl
            try simp only [Act.put, List.setIfInBounds_toArray, List.set_cons_zero, List.set_cons_succ]
            refine take_yes (v := ?_) 12 (some 63) rfl rfl (by kernel_rfl) (by kernel_rfl) (by kernel_rfl) (fun _ _ _ h => h) (by rfl) ?_ (by assumption) ?_
            rotate_left
            · intro w hSw
              try dsimp only at hSw
              go_simp
              try with_reducible rfl
            try simp only [Act.put, List.setIfInBounds_toArray, List.set_cons_zero, List.set_cons_succ]
            refine take_yes (v := ?_) 13 (some 64) rfl rfl (by kernel_rfl) (by kernel_rfl) (by kernel_rfl) (fun _ _ _ h => h) (by rfl) ?_ (by assumption) ?_
            rotate_left
            · intro w hSw
              try dsimp only at hSw
              go_simp
              try with_reducible rfl
            try simp only [Act.put, List.setIfInBounds_toArray, List.set_cons_zero, List.set_cons_succ]
            first
              | refine take_no 14 (some 65) rfl rfl (by kernel_rfl) (by kernel_rfl) (by kernel_rfl) (fun _ _ _ h => h) (by rfl) (by assumption) ?_
              | (refine take_yes (v := ?_) 14 (some 65) rfl rfl (by kernel_rfl) (by kernel_rfl) (by kernel_rfl) (fun _ _ _ h => h) (by rfl) ?_ (by assumption) ?_
                 rotate_left
                 · intro w hSw
                   try dsimp only at hSw
                   go_simp
                   try with_reducible rfl)
            try simp only [Act.put, List.setIfInBounds_toArray, List.set_cons_zero, List.set_cons_succ]
            first
              | refine take_no 15 (some 66) rfl rfl (by kernel_rfl) (by kernel_rfl) (by kernel_rfl) (fun _ _ _ h => h) (by rfl) (by assumption) ?_
              | (refine take_yes (v := ?_) 15 (some 66) rfl rfl (by kernel_rfl) (by kernel_rfl) (by kernel_rfl) (fun _ _ _ h => h) (by rfl) ?_ (by assumption) ?_
                 rotate_left
                 · intro w hSw
                   try dsimp only at hSw
                   go_simp
                   try with_reducible rfl)
            try simp only [Act.put, List.setIfInBounds_toArray, List.set_cons_zero, List.set_cons_succ]
            first
              | refine take_no 16 (some 67) rfl rfl (by kernel_rfl) (by kernel_rfl) (by kernel_rfl) (fun _ _ _ h => h) (by rfl) (by assumption) ?_
              | (refine take_yes (v := ?_) 16 (some 67) rfl rfl (by kernel_rfl) (by kernel_rfl) (by kernel_rfl) (fun _ _ _ h => h) (by rfl) ?_ (by assumption) ?_
                 rotate_left
                 · intro w hSw
                   try dsimp only at hSw
                   go_simp
                   try with_reducible rfl)
            try simp only [Act.put, List.setIfInBounds_toArray, List.set_cons_zero, List.set_cons_succ]
            first
              | refine take_no 17 (some 68) rfl rfl (by kernel_rfl) (by kernel_rfl) (by kernel_rfl) (fun _ _ _ h => h) (by rfl) (by assumption) ?_
              | (refine take_yes (v := ?_) 17 (some 68) rfl rfl (by kernel_rfl) (by kernel_rfl) (by kernel_rfl) (fun _ _ _ h => h) (by rfl) ?_ (by assumption) ?_
                 rotate_left
                 · intro w hSw
                   try dsimp only at hSw
                   go_simp
                   try with_reducible rfl)
            try simp only [Act.put, List.setIfInBounds_toArray, List.set_cons_zero, List.set_cons_succ]
            first
              | refine take_no 18 (some 69) rfl rfl (by kernel_rfl) (by kernel_rfl) (by kernel_rfl) (fun _ _ _ h => h) (by rfl) (by assumption) ?_
              | (refine take_yes (v := ?_) 18 (some 69) rfl rfl (by kernel_rfl) (by kernel_rfl) (by kernel_rfl) (fun _ _ _ h => h) (by rfl) ?_ (by assumption) ?_
                 rotate_left
                 · intro w hSw
                   try dsimp only at hSw
                   go_simp
                   try with_reducible rfl)
            try simp only [Act.put, List.setIfInBounds_toArray, List.set_cons_zero, List.set_cons_succ]
            refine take_yes (v := ?_) 19 (some 70) rfl rfl (by kernel_rfl) (by kernel_rfl) (by kernel_rfl) (fun _ _ _ h => h) (by rfl) ?_ (by assumption) ?_
            rotate_left
            · intro w hSw
              try dsimp only at hSw
              go_simp
              try with_reducible rfl
            try simp only [Act.put, List.setIfInBounds_toArray, List.set_cons_zero, List.set_cons_succ]
            refine take_yes (v := ?_) 20 (some 71) rfl rfl (by kernel_rfl) (by kernel_rfl) (by kernel_rfl) (fun _ _ _ h => h) (by rfl) ?_ (by assumption) ?_
            rotate_left
            · intro w hSw
              try dsimp only at hSw
              go_simp
              try with_reducible rfl
            try simp only [Act.put, List.setIfInBounds_toArray, List.set_cons_zero, List.set_cons_succ]
            first
              | refine take_no 21 (some 72) rfl rfl (by kernel_rfl) (by kernel_rfl) (by kernel_rfl) (fun _ _ _ h => h) (by rfl) (by assumption) ?_
              | (refine take_yes (v := ?_) 21 (some 72) rfl rfl (by kernel_rfl) (by kernel_rfl) (by kernel_rfl) (fun _ _ _ h => h) (by rfl) ?_ (by assumption) ?_
                 rotate_left
                 · intro w hSw
                   try dsimp only at hSw
                   go_simp
                   try with_reducible rfl)
            try simp only [Act.put, List.setIfInBounds_toArray, List.set_cons_zero, List.set_cons_succ]
            first
              | refine take_no 22 (some 73) rfl rfl (by kernel_rfl) (by kernel_rfl) (by kernel_rfl) (fun _ _ _ h => h) (by rfl) (by assumption) ?_
              | (refine take_yes (v := ?_) 22 (some 73) rfl rfl (by kernel_rfl) (by kernel_rfl) (by kernel_rfl) (fun _ _ _ h => h) (by rfl) ?_ (by assumption) ?_
                 rotate_left
                 · intro w hSw
                   try dsimp only at hSw
                   go_simp
                   try with_reducible rfl)
            try simp only [Act.put, List.setIfInBounds_toArray, List.set_cons_zero, List.set_cons_succ]
            first
              | refine take_no 23 (some 74) rfl rfl (by kernel_rfl) (by kernel_rfl) (by kernel_rfl) (fun _ _ _ h => h) (by rfl) (by assumption) ?_
              | (refine take_yes (v := ?_) 23 (some 74) rfl rfl (by kernel_rfl) (by kernel_rfl) (by kernel_rfl) (fun _ _ _ h => h) (by rfl) ?_ (by assumption) ?_
                 rotate_left
                 · intro w hSw
                   try dsimp only at hSw
                   go_simp
                   try with_reducible rfl)
            try simp only [Act.put, List.setIfInBounds_toArray, List.set_cons_zero, List.set_cons_succ]
            first
              | refine take_no 24 (some 75) rfl rfl (by kernel_rfl) (by kernel_rfl) (by kernel_rfl) (fun _ _ _ h => h) (by rfl) (by assumption) ?_
              | (refine take_yes (v := ?_) 24 (some 75) rfl rfl (by kernel_rfl) (by kernel_rfl) (by kernel_rfl) (fun _ _ _ h => h) (by rfl) ?_ (by assumption) ?_
                 rotate_left
                 · intro w hSw
                   try dsimp only at hSw
                   go_simp
                   try with_reducible rfl)
            try simp only [Act.put, List.setIfInBounds_toArray, List.set_cons_zero, List.set_cons_succ]
            first
              | refine take_no 25 (some 76) rfl rfl (by kernel_rfl) (by kernel_rfl) (by kernel_rfl) (fun _ _ _ h => h) (by rfl) (by assumption) ?_
              | (refine take_yes (v := ?_) 25 (some 76) rfl rfl (by kernel_rfl) (by kernel_rfl) (by kernel_rfl) (fun _ _ _ h => h) (by rfl) ?_ (by assumption) ?_
                 rotate_left
                 · intro w hSw
                   try dsimp only at hSw
                   go_simp
                   try with_reducible rfl)
            try simp only [Act.put, List.setIfInBounds_toArray, List.set_cons_zero, List.set_cons_succ]
            first
              | refine take_no 26 (some 77) rfl rfl (by kernel_rfl) (by kernel_rfl) (by kernel_rfl) (fun _ _ _ h => h) (by rfl) (by assumption) ?_
              | (refine take_yes (v := ?_) 26 (some 77) rfl rfl (by kernel_rfl) (by kernel_rfl) (by kernel_rfl) (fun _ _ _ h => h) (by rfl) ?_ (by assumption) ?_
                 rotate_left
                 · intro w hSw
                   try dsimp only at hSw
                   go_simp
                   try with_reducible rfl)
            try simp only [Act.put, List.setIfInBounds_toArray, List.set_cons_zero, List.set_cons_succ]
            first
              | refine take_no 27 (some 78) rfl rfl (by kernel_rfl) (by kernel_rfl) (by kernel_rfl) (fun _ _ _ h => h) (by rfl) (by assumption) ?_
              | (refine take_yes (v := ?_) 27 (some 78) rfl rfl (by kernel_rfl) (by kernel_rfl) (by kernel_rfl) (fun _ _ _ h => h) (by rfl) ?_ (by assumption) ?_
                 rotate_left
                 · intro w hSw
                   try dsimp only at hSw
                   go_simp
                   try with_reducible rfl)
            try simp only [Act.put, List.setIfInBounds_toArray, List.set_cons_zero, List.set_cons_succ]
            first
              | refine take_no 28 (some 79) rfl rfl (by kernel_rfl) (by kernel_rfl) (by kernel_rfl) (fun _ _ _ h => h) (by rfl) (by assumption) ?_
              | (refine take_yes (v := ?_) 28 (some 79) rfl rfl (by kernel_rfl) (by kernel_rfl) (by kernel_rfl) (fun _ _ _ h => h) (by rfl) ?_ (by assumption) ?_
                 rotate_left
                 · intro w hSw
                   try dsimp only at hSw
                   go_simp
                   try with_reducible rfl)
            try simp only [Act.put, List.setIfInBounds_toArray, List.set_cons_zero, List.set_cons_succ]
            first
              | refine take_no 29 (some 80) rfl rfl (by kernel_rfl) (by kernel_rfl) (by kernel_rfl) (fun _ _ _ h => h) (by rfl) (by assumption) ?_
              | (refine take_yes (v := ?_) 29 (some 80) rfl rfl (by kernel_rfl) (by kernel_rfl) (by kernel_rfl) (fun _ _ _ h => h) (by rfl) ?_ (by assumption) ?_
                 rotate_left
                 · intro w hSw
                   try dsimp only at hSw
                   go_simp
                   try with_reducible rfl)
            try simp only [Act.put, List.setIfInBounds_toArray, List.set_cons_zero, List.set_cons_succ]
            first
              | refine take_no 30 (some 81) rfl rfl (by kernel_rfl) (by kernel_rfl) (by kernel_rfl) (fun _ _ _ h => h) (by rfl) (by assumption) ?_
              | (refine take_yes (v := ?_) 30 (some 81) rfl rfl (by kernel_rfl) (by kernel_rfl) (by kernel_rfl) (fun _ _ _ h => h) (by rfl) ?_ (by assumption) ?_
                 rotate_left
                 · intro w hSw
                   try dsimp only at hSw
                   go_simp
                   try with_reducible rfl)
            try simp only [Act.put, List.setIfInBounds_toArray, List.set_cons_zero, List.set_cons_succ]
            first
              | refine take_no 31 (some 82) rfl rfl (by kernel_rfl) (by kernel_rfl) (by kernel_rfl) (fun _ _ _ h => h) (by rfl) (by assumption) ?_
              | (refine take_yes (v := ?_) 31 (some 82) rfl rfl (by kernel_rfl) (by kernel_rfl) (by kernel_rfl) (fun _ _ _ h => h) (by rfl) ?_ (by assumption) ?_
                 rotate_left
                 · intro w hSw
                   try dsimp only at hSw
                   go_simp
                   try with_reducible rfl)
            try simp only [Act.put, List.setIfInBounds_toArray, List.set_cons_zero, List.set_cons_succ]
            refine take_yes (v := ?_) 32 (some 83) rfl rfl (by kernel_rfl) (by kernel_rfl) (by kernel_rfl) (fun _ _ _ h => h) (by rfl) ?_ (by assumption) ?_
            rotate_left
            · intro w hSw
              try dsimp only at hSw
              go_simp
              try with_reducible rfl
            try simp only [Act.put, List.setIfInBounds_toArray, List.set_cons_zero, List.set_cons_succ]
            refine take_yes (v := ?_) 33 (some 84) rfl rfl (by kernel_rfl) (by kernel_rfl) (by kernel_rfl) (fun _ _ _ h => h) (by rfl) ?_ (by assumption) ?_
            rotate_left
            · intro w hSw
              try dsimp only at hSw
              go_simp
              try with_reducible rfl
            try simp only [Act.put, List.setIfInBounds_toArray, List.set_cons_zero, List.set_cons_succ]
            first
              | refine take_no 34 (some 85) rfl rfl (by kernel_rfl) (by kernel_rfl) (by kernel_rfl) (fun _ _ _ h => h) (by rfl) (by assumption) ?_
              | (refine wpAnyH_ready (rs := [34]) (by kernel_rfl) (by simp) ?_
                 refine AllReadyH.cons rfl (fun K hK => ?_) AllReadyH.nil
                 go_simp
                 go_at_call 19; refine (alive_any _).mono ?_; rintro e w' ⟨rfl, hbb⟩
                 first | refine hK.out _ _ ?_ (fun hHeld => ?_) | (go_wp2_with fail; refine hK.out _ _ ?_ (fun hHeld => ?_))
                 · try dsimp only
                   (first | go_keep | (go_split_ands; refine ⟨?_, ?_, ?_, ?_, ?_, ?_⟩ <;> first | assumption | (rw [hbb.cell (by assumption)]; assumption) | (have := hbb.size; first | omega | (simp at this; omega))))
                 clear hK K)
            try simp only [Act.put, List.setIfInBounds_toArray, List.set_cons_zero, List.set_cons_succ]
            refine take_yes (v := ?_) 35 (some 86) rfl rfl (by kernel_rfl) (by kernel_rfl) (by kernel_rfl) (fun _ _ _ h => h) (by rfl) ?_ (by assumption) ?_
            rotate_left
            · intro w hSw
              try dsimp only at hSw
              go_simp
              try with_reducible rfl
            try simp only [Act.put, List.setIfInBounds_toArray, List.set_cons_zero, List.set_cons_succ]
            refine take_yes (v := ?_) 36 (some 4) rfl rfl (by kernel_rfl) (by kernel_rfl) (by kernel_rfl) (fun _ _ _ h => h) (by rfl) ?_ (by assumption) ?_
            rotate_left
            · intro w hSw
              try dsimp only at hSw
              go_simp
              try with_reducible rfl
            try simp only [Act.put, List.setIfInBounds_toArray, List.set_cons_zero, List.set_cons_succ]
            refine wpAnyH_done (by kernel_rfl) ?_ _
            have hB3 : Below W2.heap.size W2 w' := bstep (bstep (Below.refl _ _).drew (by assumption)) hbb
            have hf : Below w.heap.size w w' := by rw [HG0.out]; exact HB2.out.trans (hB3.mono (Nat.le_of_lt z0'))
            have HF := hide hf
            clear hB3 hf hbb
            go_wp2
            go_ret
            first
              | exact ⟨rfl, HF.out⟩
              | (rw [← HG0.out]; exact ⟨rfl, HF.out⟩)

end Go.Proofs.Ytdjlmmgnknfkfaa
