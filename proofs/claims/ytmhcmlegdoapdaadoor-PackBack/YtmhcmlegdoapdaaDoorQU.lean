/- Package pack: a number is read of its bytes. -/
import Derived.Test.YtmhcmlegdoapdaaDoorQM
import Derived.Test.YtmhcmlegdoapdaaDoorQE
namespace Go.Proofs.YtmhcmlegdoapdaaDoor
open Go.RowKit

theorem rd_next {w1 : World} {R b o' len cap k : Nat} {at' : Int} {fl : Value} (h : Rd w1 R (some ⟨b, o', none⟩) (len - k - 1) (cap - k - 1) (at' + (k : Int) + 1) fl) : Rd w1.drew R (some ⟨b, o', none⟩) (len - (k + 1)) (cap - (k + 1)) (at' + ((k + 1 : Nat) : Int)) fl := by
  rw [Nat.sub_sub, Nat.sub_sub, Int.add_assoc] at h
  exact h
theorem andNot128 (c : Nat) (h : c < 256) : bits .andNot .u8 (c : Int) 128 = ((c % 128 : Nat) : Int) := by
  have : ∀ c, c < 256 → bits .andNot .u8 ((c : Nat) : Int) 128 = ((c % 128 : Nat) : Int) := by decide +kernel
  exact this c h
theorem nb_pos (n : Nat) : 1 ≤ (nb n).length := by
  by_cases h : n < 128
  · rw [nb_small h]; simp
  · rw [nb_big h]; simp
theorem nb_len10 (x : Nat) (h : x < 18446744073709551616) : (nb x).length ≤ 10 := by
  rcases Nat.eq_zero_or_pos x with h' | h'
  · subst h'; rw [nb_small (by omega)]; simp
  · have a := Nat.log2_self_le (n := x) (by omega)
    have b := Nat.lt_log2_self (n := x)
    generalize Nat.log2 x = k at a b
    have hk : k < 64 := by
      rcases Nat.lt_or_ge k 64 with h' | h'
      · exact h'
      · have := Nat.pow_le_pow_right (n := 2) (by omega) h'; omega
    rw [nb_pow k x a b]; omega
theorem pow7 (k : Nat) : 2 ^ (7 * (k + 1)) = 2 ^ (7 * k) * 128 := by rw [Nat.mul_add, Nat.pow_add]
theorem split_x (y m k : Nat) : y * 2 ^ (7 * k) + m = y / 128 * 2 ^ (7 * (k + 1)) + (m + y % 128 * 2 ^ (7 * k)) := by
  rw [pow7]
  generalize 2 ^ (7 * k) = P
  have e : y = y / 128 * 128 + y % 128 := by omega
  have e2 : y * P = (y / 128 * 128 + y % 128) * P := by rw [← e]
  rw [e2, Nat.add_mul, Nat.mul_assoc (y / 128) 128 P, Nat.mul_comm 128 P]
  omega
theorem split_lt (y m k : Nat) (h : m < 2 ^ (7 * k)) : m + y % 128 * 2 ^ (7 * k) < 2 ^ (7 * (k + 1)) := by
  rw [pow7]
  have h1 : y % 128 * 2 ^ (7 * k) ≤ 127 * 2 ^ (7 * k) := Nat.mul_le_mul_right _ (by omega)
  omega
theorem step_val {x y m k : Nat} {C : Int} {rest : List Int} (hxy : x = y * 2 ^ (7 * k) + m) (hx : x < 18446744073709551616) (hnb : nb y = C :: rest) :
    IntKind.u64.wrap ((m : Int) + IntKind.u64.wrap (IntKind.u64.wrap (bits .andNot .u8 C 128) * 2 ^ (7 * k))) = ((m + (y % 128) * 2 ^ (7 * k) : Nat) : Int) := by
  have hC : ∃ c : Nat, C = (c : Int) ∧ c < 256 ∧ c % 128 = y % 128 := by
    by_cases h128 : y < 128
    · rw [nb_small h128] at hnb; cases hnb; exact ⟨y, rfl, by omega, rfl⟩
    · rw [nb_big h128] at hnb; cases hnb; exact ⟨y % 128 + 128, rfl, by omega, by omega⟩
  obtain ⟨c, rfl, hc, hcm⟩ := hC
  rw [andNot128 c hc, hcm]
  have hle : y % 128 * 2 ^ (7 * k) ≤ y * 2 ^ (7 * k) := Nat.mul_le_mul_right _ (by omega)
  have e : ((y % 128 : Nat) : Int) * 2 ^ (7 * k) = ((y % 128 * 2 ^ (7 * k) : Nat) : Int) := by rw [Int.natCast_mul, Int.natCast_pow]; rfl
  have w1 : IntKind.u64.wrap ((y % 128 : Nat) : Int) = ((y % 128 : Nat) : Int) := by rw [IntKind.wrap_u64]; omega
  rw [w1, e]
  rw [IntKind.wrap_u64, IntKind.wrap_u64]
  omega
theorem le_most {x most y k m : Nat} {C : Int} {rest : List Int} (hx : x ≤ most) (h : x = y * 2 ^ (7 * k) + m) (hnb : nb y = C :: rest) : decide (C ≤ ((most - m : Nat) : Int) / 2 ^ (7 * (k : Int)).toNat) = true := by
  have hCy : C ≤ (y : Int) := by
    by_cases h128 : y < 128
    · rw [nb_small h128] at hnb; cases hnb; omega
    · rw [nb_big h128] at hnb; cases hnb; omega
  have e : (7 * (k : Int)).toNat = 7 * k := by omega
  rw [e]
  have h2 : y ≤ (most - m) / 2 ^ (7 * k) := (Nat.le_div_iff_mul_le (Nat.two_pow_pos _)).2 (by omega)
  have h3 : (((most - m) / 2 ^ (7 * k) : Nat) : Int) = ((most - m : Nat) : Int) / 2 ^ (7 * k) := by
    rw [Int.natCast_ediv, Int.natCast_pow]; rfl
  refine decide_eq_true ?_
  rw [← h3]
  omega
theorem nb_bd (n : Nat) : ∀ c ∈ nb n, 0 ≤ c ∧ c < 256 := by
  induction n using Nat.strongRecOn with
  | ind n ih =>
    intro c hc
    by_cases h : n < 128
    · rw [nb_small h] at hc
      rw [List.mem_singleton.1 hc]; omega
    · rw [nb_big h] at hc
      rcases List.mem_cons.1 hc with rfl | hc
      · omega
      · exact ih (n / 128) (by omega) c hc

set_option maxHeartbeats 8000000 in
set_option maxRecDepth 100000 in
theorem number_ok (x most : Nat) (hx : x ≤ most) (hm : most < 18446744073709551616) (R b o len cap : Nat) (at' : Int) (h0 : 0 ≤ at') (h1 : at' ≤ 1000000000) (fl : Value) (w : World) (hR : Rd w R (some ⟨b, o, none⟩) len cap at' fl) (hne : b ≠ R)
    (hlen : (nb x).length ≤ len) (hcap : len ≤ cap) (hcap2 : cap ≤ 1000000000) (hC : ∀ j (hj : j < (nb x).length), w.cell? ⟨b, o + j, none⟩ = some (.int .u8 (nb x)[j])) :
    Calls Tryd.prog 65 #[.pointer (some ⟨R, 0, none⟩), .int .u64 (most : Int)] w fun e w' => e = .returned (.int .u64 (x : Int)) ∧ ∃ o', ((nb x).length < len → o' = o + (nb x).length) ∧ Rd w' R (some ⟨b, o', none⟩) (len - (nb x).length) (cap - (nb x).length) (at' + ((nb x).length : Int)) fl ∧ w.grownBy w' (some R) := by
  have mixed : Tryd.prog.follows .mixedOrders = true := by kernel_rfl
  have HR := hide hR
  have HC := hide hC
  clear hR hC
  go_enter Tryd.func65, Tryd.ntmps65
  go_wp2
  go_loopw [5, 6] (fun n s wr => ∃ (k y m : Nat) (l : List Int), n = .int .u64 (m : Int) ∧ s = .int .i64 ((7 * k : Nat) : Int) ∧ x = y * 2 ^ (7 * k) + m ∧ m < 2 ^ (7 * k) ∧ l.length = k ∧ l ++ nb y = nb x ∧ (k = 0 ∨ 1 ≤ y) ∧ k ≤ 9 ∧ Rd wr R (some ⟨b, o + k, none⟩) (len - k) (cap - k) (at' + (k : Int)) fl ∧ w.grownBy wr (some R)) (fun _ s _ => (64 - intOf s).toNat)
  case atStart => exact ⟨0, x, 0, [], rfl, rfl, by simp, by simp, rfl, rfl, Or.inl rfl, by omega, by simpa using HR.out, ⟨rfl, rfl, rfl, Nat.le_refl _, fun _ _ _ => rfl⟩⟩
  case round =>
    clear HR
    obtain ⟨k, y, m, l, rfl, rfl, hxy, hmk, hlk, hl, hk0, hk9, hr, hg⟩ := hrel
    have hll := congrArg List.length hl
    rw [List.length_append, hlk] at hll
    obtain ⟨C, rest, hnb⟩ : ∃ C rest, nb y = C :: rest := by
      by_cases h : y < 128
      · exact ⟨_, _, nb_small h⟩
      · exact ⟨_, _, nb_big h⟩
    have hkl : k < (nb x).length := by rw [hnb, List.length_cons] at hll; omega
    have hcell : w.cell? ⟨b, o + k, none⟩ = some (.int .u8 C) := by
      rw [HC.out k hkl]
      have e : (nb x)[k]? = some C := by rw [← hl, List.getElem?_append_right (by omega), hlk, Nat.sub_self, hnb]; rfl
      rw [List.getElem?_eq_getElem hkl] at e
      rw [Option.some.inj e]
    have hc1 : wr.cell? ⟨b, o + k, none⟩ = some (.int .u8 C) := hg.cell hcell (by simpa using hne)
    have h1o := one_ok R (len - k) (cap - k) b (o + k) (at' + (k : Int)) C (by omega) (by omega) fl wr hr (by omega) (by omega) (by omega) hne hc1
    have HG := hide hg
    have HXY := hide hxy
    have HMK := hide hmk
    have HL := hide hl
    have HLK := hide hlk
    clear hr hg hc1 hcell hxy hmk hl hlk
    go_wp2_with fail
    refine h1o.mono ?_; rintro e w1 ⟨rfl, o', ho, hr1, hg1⟩
    have HR1 := hide hr1
    have HO := hide ho
    replace HG := hide (grown_trans HG.out hg1)
    clear h1o hr1 hg1 ho
    have hCb : 0 ≤ C ∧ C < 256 := nb_bd y C (by rw [hnb]; exact List.mem_cons_self)
    have hw1 : IntKind.u64.wrap C = C := by rw [IntKind.wrap_u64]; omega
    have hmost : m ≤ most := by have := HXY.out; have := Nat.le_add_left m (y * 2 ^ (7 * k)); omega
    have hw2 : IntKind.u64.wrap ((most : Int) - (m : Int)) = ((most - m : Nat) : Int) := by rw [IntKind.wrap_u64]; omega
    have hle : decide (C ≤ ((most - m : Nat) : Int) / 2 ^ (7 * (k : Int)).toNat) = true := le_most hx HXY.out hnb
    have hp : 0 < 2 ^ (7 * k) := Nat.two_pow_pos _
    have hx64 : x < 18446744073709551616 := by omega
    have hval : IntKind.u64.wrap ((m : Int) + IntKind.u64.wrap (IntKind.u64.wrap (bits .andNot .u8 C 128) * 2 ^ (7 * k))) = ((m + (y % 128) * 2 ^ (7 * k) : Nat) : Int) := step_val HXY.out hx64 hnb
    by_cases h128 : y < 128
    · have hCy : C = (y : Int) := by rw [nb_small h128] at hnb; cases hnb; rfl
      have hxe : m + (y % 128) * 2 ^ (7 * k) = x := by rw [Nat.mod_eq_of_lt h128]; have := HXY.out; omega
      rw [hxe] at hval
      have hnk : (nb x).length = k + 1 := by rw [← hll, nb_small h128, List.length_singleton]
      have HV := hide hval
      have HNK := hide hnk
      have HCy := hide hCy
      clear hval hxe hCy hnk hll
      by_cases hz : C = 0
      · have hk00 : k = 0 := by
          have := HCy.out
          rcases hk0 with h | h
          · exact h
          · omega
        subst hk00
        subst hz
        clear HCy hk0 hnb hw1
        go_wp2
        refine wp_region_held_drew (S := (fun w' => w' = w1.drew)) (by kernel_rfl) ?_ (fun hHeld => ?_)
        · try dsimp only
          try rfl
        refine take_yes (v := ?_) 0 (some 14) rfl rfl (by kernel_rfl) (by kernel_rfl) (by kernel_rfl) (fun _ _ _ h => h) (by rfl) ?_ (by assumption) ?_
        rotate_left
        · intro w hSw
          try dsimp only at hSw
          go_simp
          try with_reducible rfl
        try simp only [Act.put, List.setIfInBounds_toArray, List.set_cons_zero, List.set_cons_succ]
        refine take_yes (v := ?_) 1 (some 15) rfl rfl (by kernel_rfl) (by kernel_rfl) (by kernel_rfl) (fun _ _ _ h => h) (by rfl) ?_ (by assumption) ?_
        rotate_left
        · intro w hSw
          try dsimp only at hSw
          go_simp
          try with_reducible rfl
        try simp only [Act.put, List.setIfInBounds_toArray, List.set_cons_zero, List.set_cons_succ]
        refine take_yes (v := ?_) 2 (some 16) rfl rfl (by kernel_rfl) (by kernel_rfl) (by kernel_rfl) (fun _ _ _ h => h) (by rfl) ?_ (by assumption) ?_
        rotate_left
        · intro w hSw
          try dsimp only at hSw
          go_simp
          try with_reducible rfl
        try simp only [Act.put, List.setIfInBounds_toArray, List.set_cons_zero, List.set_cons_succ]
        refine take_yes (v := ?_) 3 (some 17) rfl rfl (by kernel_rfl) (by kernel_rfl) (by kernel_rfl) (fun _ _ _ h => h) (by rfl) ?_ (by assumption) ?_
        rotate_left
        · intro w hSw
          try dsimp only at hSw
          go_simp
          try with_reducible rfl
        try simp only [Act.put, List.setIfInBounds_toArray, List.set_cons_zero, List.set_cons_succ]
        refine take_yes (v := ?_) 4 (some 18) rfl rfl (by kernel_rfl) (by kernel_rfl) (by kernel_rfl) (fun _ _ _ h => h) (by rfl) ?_ (by assumption) ?_
        rotate_left
        · intro w hSw
          try dsimp only at hSw
          go_simp
          try with_reducible rfl
        try simp only [Act.put, List.setIfInBounds_toArray, List.set_cons_zero, List.set_cons_succ]
        refine take_yes (v := ?_) 5 (some 19) rfl rfl (by kernel_rfl) (by kernel_rfl) (by kernel_rfl) (fun _ _ _ h => h) (by rfl) ?_ (by assumption) ?_
        rotate_left
        · intro w hSw
          try dsimp only at hSw
          go_simp
          try with_reducible rfl
        try simp only [Act.put, List.setIfInBounds_toArray, List.set_cons_zero, List.set_cons_succ]
        refine take_yes (v := ?_) 6 (some 20) rfl rfl (by kernel_rfl) (by kernel_rfl) (by kernel_rfl) (fun _ _ _ h => h) (by rfl) ?_ (by assumption) ?_
        rotate_left
        · intro w hSw
          try dsimp only at hSw
          go_simp
          try with_reducible rfl
        try simp only [Act.put, List.setIfInBounds_toArray, List.set_cons_zero, List.set_cons_succ]
        refine take_yes (v := ?_) 7 (some 21) rfl rfl (by kernel_rfl) (by kernel_rfl) (by kernel_rfl) (fun _ _ _ h => h) (by rfl) ?_ (by assumption) ?_
        rotate_left
        · intro w hSw
          try dsimp only at hSw
          go_simp
          try with_reducible rfl
        try simp only [Act.put, List.setIfInBounds_toArray, List.set_cons_zero, List.set_cons_succ]
        refine take_yes (v := ?_) 8 (some 22) rfl rfl (by kernel_rfl) (by kernel_rfl) (by kernel_rfl) (fun _ _ _ h => h) (by rfl) ?_ (by assumption) ?_
        rotate_left
        · intro w hSw
          try dsimp only at hSw
          go_simp
          try with_reducible rfl
        try simp only [Act.put, List.setIfInBounds_toArray, List.set_cons_zero, List.set_cons_succ]
        refine take_yes (v := ?_) 9 (some 23) rfl rfl (by kernel_rfl) (by kernel_rfl) (by kernel_rfl) (fun _ _ _ h => h) (by rfl) ?_ (by assumption) ?_
        rotate_left
        · intro w hSw
          try dsimp only at hSw
          go_simp
          try with_reducible rfl
        try simp only [Act.put, List.setIfInBounds_toArray, List.set_cons_zero, List.set_cons_succ]
        refine take_yes (v := ?_) 10 (some 24) rfl rfl (by kernel_rfl) (by kernel_rfl) (by kernel_rfl) (fun _ _ _ h => h) (by rfl) ?_ (by assumption) ?_
        rotate_left
        · intro w hSw
          try dsimp only at hSw
          go_simp
          try with_reducible rfl
        try simp only [Act.put, List.setIfInBounds_toArray, List.set_cons_zero, List.set_cons_succ]
        refine take_yes (v := ?_) 11 (some 25) rfl rfl (by kernel_rfl) (by kernel_rfl) (by kernel_rfl) (fun _ _ _ h => h) (by rfl) ?_ (by assumption) ?_
        rotate_left
        · intro w hSw
          try dsimp only at hSw
          go_simp
          try with_reducible rfl
        try simp only [Act.put, List.setIfInBounds_toArray, List.set_cons_zero, List.set_cons_succ]
        first
          | refine take_no 12 (some 26) rfl rfl (by kernel_rfl) (by kernel_rfl) (by kernel_rfl) (fun _ _ _ h => h) (by rfl) (by assumption) ?_
          | (refine take_yes (v := ?_) 12 (some 26) rfl rfl (by kernel_rfl) (by kernel_rfl) (by kernel_rfl) (fun _ _ _ h => h) (by rfl) ?_ (by assumption) ?_
             rotate_left
             · intro w hSw
               try dsimp only at hSw
               go_simp
               try with_reducible rfl)
        try simp only [Act.put, List.setIfInBounds_toArray, List.set_cons_zero, List.set_cons_succ]
        first
          | refine take_no 13 (some 27) rfl rfl (by kernel_rfl) (by kernel_rfl) (by kernel_rfl) (fun _ _ _ h => h) (by rfl) (by assumption) ?_
          | (refine take_yes (v := ?_) 13 (some 27) rfl rfl (by kernel_rfl) (by kernel_rfl) (by kernel_rfl) (fun _ _ _ h => h) (by rfl) ?_ (by assumption) ?_
             rotate_left
             · intro w hSw
               try dsimp only at hSw
               go_simp
               try with_reducible rfl)
        try simp only [Act.put, List.setIfInBounds_toArray, List.set_cons_zero, List.set_cons_succ]
        first
          | refine take_no 14 (some 28) rfl rfl (by kernel_rfl) (by kernel_rfl) (by kernel_rfl) (fun _ _ _ h => h) (by rfl) (by assumption) ?_
          | (refine take_yes (v := ?_) 14 (some 28) rfl rfl (by kernel_rfl) (by kernel_rfl) (by kernel_rfl) (fun _ _ _ h => h) (by rfl) ?_ (by assumption) ?_
             rotate_left
             · intro w hSw
               try dsimp only at hSw
               go_simp
               try with_reducible rfl)
        try simp only [Act.put, List.setIfInBounds_toArray, List.set_cons_zero, List.set_cons_succ]
        first
          | refine take_no 15 (some 29) rfl rfl (by kernel_rfl) (by kernel_rfl) (by kernel_rfl) (fun _ _ _ h => h) (by rfl) (by assumption) ?_
          | (refine take_yes (v := ?_) 15 (some 29) rfl rfl (by kernel_rfl) (by kernel_rfl) (by kernel_rfl) (fun _ _ _ h => h) (by rfl) ?_ (by assumption) ?_
             rotate_left
             · intro w hSw
               try dsimp only at hSw
               go_simp
               try with_reducible rfl)
        try simp only [Act.put, List.setIfInBounds_toArray, List.set_cons_zero, List.set_cons_succ]
        first
          | refine take_no 16 (some 30) rfl rfl (by kernel_rfl) (by kernel_rfl) (by kernel_rfl) (fun _ _ _ h => h) (by rfl) (by assumption) ?_
          | (refine take_yes (v := ?_) 16 (some 30) rfl rfl (by kernel_rfl) (by kernel_rfl) (by kernel_rfl) (fun _ _ _ h => h) (by rfl) ?_ (by assumption) ?_
             rotate_left
             · intro w hSw
               try dsimp only at hSw
               go_simp
               try with_reducible rfl)
        try simp only [Act.put, List.setIfInBounds_toArray, List.set_cons_zero, List.set_cons_succ]
        first
          | refine take_no 17 (some 31) rfl rfl (by kernel_rfl) (by kernel_rfl) (by kernel_rfl) (fun _ _ _ h => h) (by rfl) (by assumption) ?_
          | (refine take_yes (v := ?_) 17 (some 31) rfl rfl (by kernel_rfl) (by kernel_rfl) (by kernel_rfl) (fun _ _ _ h => h) (by rfl) ?_ (by assumption) ?_
             rotate_left
             · intro w hSw
               try dsimp only at hSw
               go_simp
               try with_reducible rfl)
        try simp only [Act.put, List.setIfInBounds_toArray, List.set_cons_zero, List.set_cons_succ]
        refine take_yes (v := ?_) 18 (some 32) rfl rfl (by kernel_rfl) (by kernel_rfl) (by kernel_rfl) (fun _ _ _ h => h) (by rfl) ?_ (by assumption) ?_
        rotate_left
        · intro w hSw
          try dsimp only at hSw
          go_simp
          try with_reducible rfl
        try simp only [Act.put, List.setIfInBounds_toArray, List.set_cons_zero, List.set_cons_succ]
        refine wpAnyH_ready (rs := [19]) (by kernel_rfl) (by simp) ?_
        refine AllReadyH.cons rfl (fun K hK => ?_) AllReadyH.nil
        go_simp
        (go_at_call 76; refine (must_yes _ _).mono ?_; rintro e w2 ⟨rfl, rfl⟩)
        first | refine hK.out _ _ ?_ (fun hHeld => ?_) | (go_wp2_with fail; refine hK.out _ _ ?_ (fun hHeld => ?_))
        · try dsimp only
          try rfl
        clear hK K
        try simp only [Act.put, List.setIfInBounds_toArray, List.set_cons_zero, List.set_cons_succ]
        refine wpAnyH_done (by kernel_rfl) ?_ _
        go_wp2
        have hv := HV.out
        simp only [Nat.mul_zero, Int.pow_zero, Int.mul_one] at hv
        rw [hv]
        go_ret
        rw [HNK.out]
        exact ⟨rfl, o', fun h => (HO.out (by omega)).trans (by omega), rd_next HR1.out, grown_trans HG.out (grown_of_gr ((Gr.refl _).drew) _)⟩
      · have hnz : (C != 0) = true := by simp [hz]
        have hlt : C < 128 := by have := HCy.out; omega
        clear hnb
        go_wp2
        refine wp_region_held_drew (S := (fun w' => w' = w1.drew)) (by kernel_rfl) ?_ (fun hHeld => ?_)
        · try dsimp only
          try rfl
        refine take_yes (v := ?_) 0 (some 14) rfl rfl (by kernel_rfl) (by kernel_rfl) (by kernel_rfl) (fun _ _ _ h => h) (by rfl) ?_ (by assumption) ?_
        rotate_left
        · intro w hSw
          try dsimp only at hSw
          go_simp
          try with_reducible rfl
        try simp only [Act.put, List.setIfInBounds_toArray, List.set_cons_zero, List.set_cons_succ]
        refine take_yes (v := ?_) 1 (some 15) rfl rfl (by kernel_rfl) (by kernel_rfl) (by kernel_rfl) (fun _ _ _ h => h) (by rfl) ?_ (by assumption) ?_
        rotate_left
        · intro w hSw
          try dsimp only at hSw
          go_simp
          try with_reducible rfl
        try simp only [Act.put, List.setIfInBounds_toArray, List.set_cons_zero, List.set_cons_succ]
        refine take_yes (v := ?_) 2 (some 16) rfl rfl (by kernel_rfl) (by kernel_rfl) (by kernel_rfl) (fun _ _ _ h => h) (by rfl) ?_ (by assumption) ?_
        rotate_left
        · intro w hSw
          try dsimp only at hSw
          go_simp
          try with_reducible rfl
        try simp only [Act.put, List.setIfInBounds_toArray, List.set_cons_zero, List.set_cons_succ]
        refine take_yes (v := ?_) 3 (some 17) rfl rfl (by kernel_rfl) (by kernel_rfl) (by kernel_rfl) (fun _ _ _ h => h) (by rfl) ?_ (by assumption) ?_
        rotate_left
        · intro w hSw
          try dsimp only at hSw
          go_simp
          try with_reducible rfl
        try simp only [Act.put, List.setIfInBounds_toArray, List.set_cons_zero, List.set_cons_succ]
        refine take_yes (v := ?_) 4 (some 18) rfl rfl (by kernel_rfl) (by kernel_rfl) (by kernel_rfl) (fun _ _ _ h => h) (by rfl) ?_ (by assumption) ?_
        rotate_left
        · intro w hSw
          try dsimp only at hSw
          go_simp
          try with_reducible rfl
        try simp only [Act.put, List.setIfInBounds_toArray, List.set_cons_zero, List.set_cons_succ]
        refine take_yes (v := ?_) 5 (some 19) rfl rfl (by kernel_rfl) (by kernel_rfl) (by kernel_rfl) (fun _ _ _ h => h) (by rfl) ?_ (by assumption) ?_
        rotate_left
        · intro w hSw
          try dsimp only at hSw
          go_simp
          try with_reducible rfl
        try simp only [Act.put, List.setIfInBounds_toArray, List.set_cons_zero, List.set_cons_succ]
        refine take_yes (v := ?_) 6 (some 20) rfl rfl (by kernel_rfl) (by kernel_rfl) (by kernel_rfl) (fun _ _ _ h => h) (by rfl) ?_ (by assumption) ?_
        rotate_left
        · intro w hSw
          try dsimp only at hSw
          go_simp
          try with_reducible rfl
        try simp only [Act.put, List.setIfInBounds_toArray, List.set_cons_zero, List.set_cons_succ]
        refine take_yes (v := ?_) 7 (some 21) rfl rfl (by kernel_rfl) (by kernel_rfl) (by kernel_rfl) (fun _ _ _ h => h) (by rfl) ?_ (by assumption) ?_
        rotate_left
        · intro w hSw
          try dsimp only at hSw
          go_simp
          try with_reducible rfl
        try simp only [Act.put, List.setIfInBounds_toArray, List.set_cons_zero, List.set_cons_succ]
        refine take_yes (v := ?_) 8 (some 22) rfl rfl (by kernel_rfl) (by kernel_rfl) (by kernel_rfl) (fun _ _ _ h => h) (by rfl) ?_ (by assumption) ?_
        rotate_left
        · intro w hSw
          try dsimp only at hSw
          go_simp
          try with_reducible rfl
        try simp only [Act.put, List.setIfInBounds_toArray, List.set_cons_zero, List.set_cons_succ]
        refine take_yes (v := ?_) 9 (some 23) rfl rfl (by kernel_rfl) (by kernel_rfl) (by kernel_rfl) (fun _ _ _ h => h) (by rfl) ?_ (by assumption) ?_
        rotate_left
        · intro w hSw
          try dsimp only at hSw
          go_simp
          try with_reducible rfl
        try simp only [Act.put, List.setIfInBounds_toArray, List.set_cons_zero, List.set_cons_succ]
        refine take_yes (v := ?_) 10 (some 24) rfl rfl (by kernel_rfl) (by kernel_rfl) (by kernel_rfl) (fun _ _ _ h => h) (by rfl) ?_ (by assumption) ?_
        rotate_left
        · intro w hSw
          try dsimp only at hSw
          go_simp
          try with_reducible rfl
        try simp only [Act.put, List.setIfInBounds_toArray, List.set_cons_zero, List.set_cons_succ]
        refine take_yes (v := ?_) 11 (some 25) rfl rfl (by kernel_rfl) (by kernel_rfl) (by kernel_rfl) (fun _ _ _ h => h) (by rfl) ?_ (by assumption) ?_
        rotate_left
        · intro w hSw
          try dsimp only at hSw
          go_simp
          try with_reducible rfl
        try simp only [Act.put, List.setIfInBounds_toArray, List.set_cons_zero, List.set_cons_succ]
        first
          | refine take_no 12 (some 26) rfl rfl (by kernel_rfl) (by kernel_rfl) (by kernel_rfl) (fun _ _ _ h => h) (by rfl) (by assumption) ?_
          | (refine take_yes (v := ?_) 12 (some 26) rfl rfl (by kernel_rfl) (by kernel_rfl) (by kernel_rfl) (fun _ _ _ h => h) (by rfl) ?_ (by assumption) ?_
             rotate_left
             · intro w hSw
               try dsimp only at hSw
               go_simp
               try with_reducible rfl)
        try simp only [Act.put, List.setIfInBounds_toArray, List.set_cons_zero, List.set_cons_succ]
        first
          | refine take_no 13 (some 27) rfl rfl (by kernel_rfl) (by kernel_rfl) (by kernel_rfl) (fun _ _ _ h => h) (by rfl) (by assumption) ?_
          | (refine take_yes (v := ?_) 13 (some 27) rfl rfl (by kernel_rfl) (by kernel_rfl) (by kernel_rfl) (fun _ _ _ h => h) (by rfl) ?_ (by assumption) ?_
             rotate_left
             · intro w hSw
               try dsimp only at hSw
               go_simp
               try with_reducible rfl)
        try simp only [Act.put, List.setIfInBounds_toArray, List.set_cons_zero, List.set_cons_succ]
        first
          | refine take_no 14 (some 28) rfl rfl (by kernel_rfl) (by kernel_rfl) (by kernel_rfl) (fun _ _ _ h => h) (by rfl) (by assumption) ?_
          | (refine take_yes (v := ?_) 14 (some 28) rfl rfl (by kernel_rfl) (by kernel_rfl) (by kernel_rfl) (fun _ _ _ h => h) (by rfl) ?_ (by assumption) ?_
             rotate_left
             · intro w hSw
               try dsimp only at hSw
               go_simp
               try with_reducible rfl)
        try simp only [Act.put, List.setIfInBounds_toArray, List.set_cons_zero, List.set_cons_succ]
        first
          | refine take_no 15 (some 29) rfl rfl (by kernel_rfl) (by kernel_rfl) (by kernel_rfl) (fun _ _ _ h => h) (by rfl) (by assumption) ?_
          | (refine take_yes (v := ?_) 15 (some 29) rfl rfl (by kernel_rfl) (by kernel_rfl) (by kernel_rfl) (fun _ _ _ h => h) (by rfl) ?_ (by assumption) ?_
             rotate_left
             · intro w hSw
               try dsimp only at hSw
               go_simp
               try with_reducible rfl)
        try simp only [Act.put, List.setIfInBounds_toArray, List.set_cons_zero, List.set_cons_succ]
        first
          | refine take_no 16 (some 30) rfl rfl (by kernel_rfl) (by kernel_rfl) (by kernel_rfl) (fun _ _ _ h => h) (by rfl) (by assumption) ?_
          | (refine take_yes (v := ?_) 16 (some 30) rfl rfl (by kernel_rfl) (by kernel_rfl) (by kernel_rfl) (fun _ _ _ h => h) (by rfl) ?_ (by assumption) ?_
             rotate_left
             · intro w hSw
               try dsimp only at hSw
               go_simp
               try with_reducible rfl)
        try simp only [Act.put, List.setIfInBounds_toArray, List.set_cons_zero, List.set_cons_succ]
        first
          | refine take_no 17 (some 31) rfl rfl (by kernel_rfl) (by kernel_rfl) (by kernel_rfl) (fun _ _ _ h => h) (by rfl) (by assumption) ?_
          | (refine take_yes (v := ?_) 17 (some 31) rfl rfl (by kernel_rfl) (by kernel_rfl) (by kernel_rfl) (fun _ _ _ h => h) (by rfl) ?_ (by assumption) ?_
             rotate_left
             · intro w hSw
               try dsimp only at hSw
               go_simp
               try with_reducible rfl)
        try simp only [Act.put, List.setIfInBounds_toArray, List.set_cons_zero, List.set_cons_succ]
        refine take_yes (v := ?_) 18 (some 32) rfl rfl (by kernel_rfl) (by kernel_rfl) (by kernel_rfl) (fun _ _ _ h => h) (by rfl) ?_ (by assumption) ?_
        rotate_left
        · intro w hSw
          try dsimp only at hSw
          go_simp
          try with_reducible rfl
        try simp only [Act.put, List.setIfInBounds_toArray, List.set_cons_zero, List.set_cons_succ]
        refine wpAnyH_ready (rs := [19]) (by kernel_rfl) (by simp) ?_
        refine AllReadyH.cons rfl (fun K hK => ?_) AllReadyH.nil
        go_simp
        (go_at_call 76; refine (must_yes _ _).mono ?_; rintro e w2 ⟨rfl, rfl⟩)
        first | refine hK.out _ _ ?_ (fun hHeld => ?_) | (go_wp2_with fail; refine hK.out _ _ ?_ (fun hHeld => ?_))
        · try dsimp only
          try rfl
        clear hK K
        try simp only [Act.put, List.setIfInBounds_toArray, List.set_cons_zero, List.set_cons_succ]
        refine wpAnyH_done (by kernel_rfl) ?_ _
        go_wp2
        rw [HV.out]
        go_ret
        rw [HNK.out]
        exact ⟨rfl, o', fun h => (HO.out (by omega)).trans (by omega), rd_next HR1.out, grown_trans HG.out (grown_of_gr ((Gr.refl _).drew) _)⟩
    · have hCy : C = ((y % 128 + 128 : Nat) : Int) := by rw [nb_big h128] at hnb; cases hnb; rfl
      have hre : rest = nb (y / 128) := by rw [nb_big h128] at hnb; cases hnb; rfl
      have hnz : (C != 0) = true := by simp; omega
      have hge : ¬ C < 128 := by omega
      have hn10 := nb_len10 x hx64
      have hrl : 1 ≤ rest.length := by rw [hre]; exact nb_pos _
      have hk1 : k + 2 ≤ (nb x).length := by rw [← hll, hnb, List.length_cons]; omega
      have HV := hide hval
      have HCy := hide hCy
      clear hval hCy
      go_wp2
      refine wp_region_held_drew (S := (fun w' => w' = w1.drew)) (by kernel_rfl) ?_ (fun hHeld => ?_)
      · try dsimp only
        try rfl
      refine take_yes (v := ?_) 0 (some 14) rfl rfl (by kernel_rfl) (by kernel_rfl) (by kernel_rfl) (fun _ _ _ h => h) (by rfl) ?_ (by assumption) ?_
      rotate_left
      · intro w hSw
        try dsimp only at hSw
        go_simp
        try with_reducible rfl
      try simp only [Act.put, List.setIfInBounds_toArray, List.set_cons_zero, List.set_cons_succ]
      refine take_yes (v := ?_) 1 (some 15) rfl rfl (by kernel_rfl) (by kernel_rfl) (by kernel_rfl) (fun _ _ _ h => h) (by rfl) ?_ (by assumption) ?_
      rotate_left
      · intro w hSw
        try dsimp only at hSw
        go_simp
        try with_reducible rfl
      try simp only [Act.put, List.setIfInBounds_toArray, List.set_cons_zero, List.set_cons_succ]
      refine take_yes (v := ?_) 2 (some 16) rfl rfl (by kernel_rfl) (by kernel_rfl) (by kernel_rfl) (fun _ _ _ h => h) (by rfl) ?_ (by assumption) ?_
      rotate_left
      · intro w hSw
        try dsimp only at hSw
        go_simp
        try with_reducible rfl
      try simp only [Act.put, List.setIfInBounds_toArray, List.set_cons_zero, List.set_cons_succ]
      refine take_yes (v := ?_) 3 (some 17) rfl rfl (by kernel_rfl) (by kernel_rfl) (by kernel_rfl) (fun _ _ _ h => h) (by rfl) ?_ (by assumption) ?_
      rotate_left
      · intro w hSw
        try dsimp only at hSw
        go_simp
        try with_reducible rfl
      try simp only [Act.put, List.setIfInBounds_toArray, List.set_cons_zero, List.set_cons_succ]
      refine take_yes (v := ?_) 4 (some 18) rfl rfl (by kernel_rfl) (by kernel_rfl) (by kernel_rfl) (fun _ _ _ h => h) (by rfl) ?_ (by assumption) ?_
      rotate_left
      · intro w hSw
        try dsimp only at hSw
        go_simp
        try with_reducible rfl
      try simp only [Act.put, List.setIfInBounds_toArray, List.set_cons_zero, List.set_cons_succ]
      refine take_yes (v := ?_) 5 (some 19) rfl rfl (by kernel_rfl) (by kernel_rfl) (by kernel_rfl) (fun _ _ _ h => h) (by rfl) ?_ (by assumption) ?_
      rotate_left
      · intro w hSw
        try dsimp only at hSw
        go_simp
        try with_reducible rfl
      try simp only [Act.put, List.setIfInBounds_toArray, List.set_cons_zero, List.set_cons_succ]
      refine take_yes (v := ?_) 6 (some 20) rfl rfl (by kernel_rfl) (by kernel_rfl) (by kernel_rfl) (fun _ _ _ h => h) (by rfl) ?_ (by assumption) ?_
      rotate_left
      · intro w hSw
        try dsimp only at hSw
        go_simp
        try with_reducible rfl
      try simp only [Act.put, List.setIfInBounds_toArray, List.set_cons_zero, List.set_cons_succ]
      refine take_yes (v := ?_) 7 (some 21) rfl rfl (by kernel_rfl) (by kernel_rfl) (by kernel_rfl) (fun _ _ _ h => h) (by rfl) ?_ (by assumption) ?_
      rotate_left
      · intro w hSw
        try dsimp only at hSw
        go_simp
        try with_reducible rfl
      try simp only [Act.put, List.setIfInBounds_toArray, List.set_cons_zero, List.set_cons_succ]
      refine take_yes (v := ?_) 8 (some 22) rfl rfl (by kernel_rfl) (by kernel_rfl) (by kernel_rfl) (fun _ _ _ h => h) (by rfl) ?_ (by assumption) ?_
      rotate_left
      · intro w hSw
        try dsimp only at hSw
        go_simp
        try with_reducible rfl
      try simp only [Act.put, List.setIfInBounds_toArray, List.set_cons_zero, List.set_cons_succ]
      refine take_yes (v := ?_) 9 (some 23) rfl rfl (by kernel_rfl) (by kernel_rfl) (by kernel_rfl) (fun _ _ _ h => h) (by rfl) ?_ (by assumption) ?_
      rotate_left
      · intro w hSw
        try dsimp only at hSw
        go_simp
        try with_reducible rfl
      try simp only [Act.put, List.setIfInBounds_toArray, List.set_cons_zero, List.set_cons_succ]
      refine take_yes (v := ?_) 10 (some 24) rfl rfl (by kernel_rfl) (by kernel_rfl) (by kernel_rfl) (fun _ _ _ h => h) (by rfl) ?_ (by assumption) ?_
      rotate_left
      · intro w hSw
        try dsimp only at hSw
        go_simp
        try with_reducible rfl
      try simp only [Act.put, List.setIfInBounds_toArray, List.set_cons_zero, List.set_cons_succ]
      refine take_yes (v := ?_) 11 (some 25) rfl rfl (by kernel_rfl) (by kernel_rfl) (by kernel_rfl) (fun _ _ _ h => h) (by rfl) ?_ (by assumption) ?_
      rotate_left
      · intro w hSw
        try dsimp only at hSw
        go_simp
        try with_reducible rfl
      try simp only [Act.put, List.setIfInBounds_toArray, List.set_cons_zero, List.set_cons_succ]
      first
        | refine take_no 12 (some 26) rfl rfl (by kernel_rfl) (by kernel_rfl) (by kernel_rfl) (fun _ _ _ h => h) (by rfl) (by assumption) ?_
        | (refine take_yes (v := ?_) 12 (some 26) rfl rfl (by kernel_rfl) (by kernel_rfl) (by kernel_rfl) (fun _ _ _ h => h) (by rfl) ?_ (by assumption) ?_
           rotate_left
           · intro w hSw
             try dsimp only at hSw
             go_simp
             try with_reducible rfl)
      try simp only [Act.put, List.setIfInBounds_toArray, List.set_cons_zero, List.set_cons_succ]
      first
        | refine take_no 13 (some 27) rfl rfl (by kernel_rfl) (by kernel_rfl) (by kernel_rfl) (fun _ _ _ h => h) (by rfl) (by assumption) ?_
        | (refine take_yes (v := ?_) 13 (some 27) rfl rfl (by kernel_rfl) (by kernel_rfl) (by kernel_rfl) (fun _ _ _ h => h) (by rfl) ?_ (by assumption) ?_
           rotate_left
           · intro w hSw
             try dsimp only at hSw
             go_simp
             try with_reducible rfl)
      try simp only [Act.put, List.setIfInBounds_toArray, List.set_cons_zero, List.set_cons_succ]
      first
        | refine take_no 14 (some 28) rfl rfl (by kernel_rfl) (by kernel_rfl) (by kernel_rfl) (fun _ _ _ h => h) (by rfl) (by assumption) ?_
        | (refine take_yes (v := ?_) 14 (some 28) rfl rfl (by kernel_rfl) (by kernel_rfl) (by kernel_rfl) (fun _ _ _ h => h) (by rfl) ?_ (by assumption) ?_
           rotate_left
           · intro w hSw
             try dsimp only at hSw
             go_simp
             try with_reducible rfl)
      try simp only [Act.put, List.setIfInBounds_toArray, List.set_cons_zero, List.set_cons_succ]
      first
        | refine take_no 15 (some 29) rfl rfl (by kernel_rfl) (by kernel_rfl) (by kernel_rfl) (fun _ _ _ h => h) (by rfl) (by assumption) ?_
        | (refine take_yes (v := ?_) 15 (some 29) rfl rfl (by kernel_rfl) (by kernel_rfl) (by kernel_rfl) (fun _ _ _ h => h) (by rfl) ?_ (by assumption) ?_
           rotate_left
           · intro w hSw
             try dsimp only at hSw
             go_simp
             try with_reducible rfl)
      try simp only [Act.put, List.setIfInBounds_toArray, List.set_cons_zero, List.set_cons_succ]
      first
        | refine take_no 16 (some 30) rfl rfl (by kernel_rfl) (by kernel_rfl) (by kernel_rfl) (fun _ _ _ h => h) (by rfl) (by assumption) ?_
        | (refine take_yes (v := ?_) 16 (some 30) rfl rfl (by kernel_rfl) (by kernel_rfl) (by kernel_rfl) (fun _ _ _ h => h) (by rfl) ?_ (by assumption) ?_
           rotate_left
           · intro w hSw
             try dsimp only at hSw
             go_simp
             try with_reducible rfl)
      try simp only [Act.put, List.setIfInBounds_toArray, List.set_cons_zero, List.set_cons_succ]
      first
        | refine take_no 17 (some 31) rfl rfl (by kernel_rfl) (by kernel_rfl) (by kernel_rfl) (fun _ _ _ h => h) (by rfl) (by assumption) ?_
        | (refine take_yes (v := ?_) 17 (some 31) rfl rfl (by kernel_rfl) (by kernel_rfl) (by kernel_rfl) (fun _ _ _ h => h) (by rfl) ?_ (by assumption) ?_
           rotate_left
           · intro w hSw
             try dsimp only at hSw
             go_simp
             try with_reducible rfl)
      try simp only [Act.put, List.setIfInBounds_toArray, List.set_cons_zero, List.set_cons_succ]
      refine take_yes (v := ?_) 18 (some 32) rfl rfl (by kernel_rfl) (by kernel_rfl) (by kernel_rfl) (fun _ _ _ h => h) (by rfl) ?_ (by assumption) ?_
      rotate_left
      · intro w hSw
        try dsimp only at hSw
        go_simp
        try with_reducible rfl
      try simp only [Act.put, List.setIfInBounds_toArray, List.set_cons_zero, List.set_cons_succ]
      refine wpAnyH_ready (rs := [19]) (by kernel_rfl) (by simp) ?_
      refine AllReadyH.cons rfl (fun K hK => ?_) AllReadyH.nil
      go_simp
      (go_at_call 76; refine (must_yes _ _).mono ?_; rintro e w2 ⟨rfl, rfl⟩)
      first | refine hK.out _ _ ?_ (fun hHeld => ?_) | (go_wp2_with fail; refine hK.out _ _ ?_ (fun hHeld => ?_))
      · try dsimp only
        try rfl
      clear hK K
      try simp only [Act.put, List.setIfInBounds_toArray, List.set_cons_zero, List.set_cons_succ]
      refine wpAnyH_done (by kernel_rfl) ?_ _
      go_wp2
      go_roundw
      case rel =>
        refine ⟨k + 1, y / 128, m + (y % 128) * 2 ^ (7 * k), l ++ [C], by rw [HV.out], by go_num, ?_, ?_, by rw [List.length_append, HLK.out]; rfl, by rw [List.append_assoc, ← HL.out, hnb, hre]; rfl, Or.inr (by omega), by omega, ?_, grown_trans HG.out (grown_of_gr ((Gr.refl _).drew) _)⟩
        · rw [HXY.out]; exact split_x y m k
        · exact split_lt y m k HMK.out
        · have h := HR1.out
          rw [HO.out (by omega), Nat.sub_sub, Nat.sub_sub, Int.add_assoc, Nat.add_assoc] at h
          exact h
      case measure => simp [intOf]; omega

end Go.Proofs.YtmhcmlegdoapdaaDoor
