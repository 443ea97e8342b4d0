/- Package pack: what is read of a field's own bytes; and whose bytes were read. -/
import Derived.Test.YtmhcmlegdoapdaaDoorRL
import Derived.Test.YtmhcmlegdoapdaaDoorRM
import Derived.Test.YtmhcmlegdoapdaaDoorRT
namespace Go.Proofs.YtmhcmlegdoapdaaDoor
open Go.RowKit

theorem nb_cons (y : Nat) : ∃ c rest, nb y = c :: rest ∧ 0 ≤ c ∧ c < 256 ∧ c.toNat % 128 = y % 128 ∧ ((c < 128 ∧ rest = [] ∧ y < 128 ∧ c = (y : Int)) ∨ (¬ c < 128 ∧ rest = nb (y / 128) ∧ ¬ y < 128 ∧ c ≤ (y : Int))) := by
  by_cases h : y < 128
  · exact ⟨y, [], nb_small h, by omega, by omega, by omega, Or.inl ⟨by omega, rfl, h, rfl⟩⟩
  · exact ⟨((y % 128 + 128 : Nat) : Int), nb (y / 128), nb_big h, by omega, by omega, by omega, Or.inr ⟨by omega, rfl, h, by omega⟩⟩
theorem pnum_nb (most : Nat) (r : List Int) : ∀ (y k m : Nat), m + y * 2 ^ (7 * k) ≤ most → (k = 0 ∨ 1 ≤ y) → pnum most k m (nb y ++ r) = .ok (m + y * 2 ^ (7 * k)) (k + (nb y).length) := by
  intro y
  induction y using Nat.strongRecOn with
  | ind y ih =>
    intro k m hm hk
    obtain ⟨c, rest, hnb, hc0, hc1, hcm, hcase⟩ := nb_cons y
    have hle : decide (c ≤ (((most - m) / 2 ^ (7 * k) : Nat) : Int)) = true := by
      have h2 : y ≤ (most - m) / 2 ^ (7 * k) := (Nat.le_div_iff_mul_le (Nat.two_pow_pos _)).2 (by omega)
      refine decide_eq_true ?_
      rcases hcase with ⟨_, _, _, h⟩ | ⟨_, _, _, h⟩ <;> omega
    have hnz : c ≠ 0 ∨ k = 0 := by
      rcases hk with h | h
      · exact Or.inr h
      · left; rcases hcase with ⟨_, _, _, h'⟩ | ⟨h', _⟩ <;> omega
    rw [hnb, List.cons_append]
    rcases hcase with ⟨h1, h2, h3, h4⟩ | ⟨h1, h2, h3, h4⟩
    · rw [pnum_end most k m c _ ⟨hle, hnz⟩ h1, hcm, Nat.mod_eq_of_lt h3, h2, List.length_singleton]
    · rw [pnum_more most k m c _ ⟨hle, hnz⟩ h1, hcm, h2]
      have hs := split_x y m k
      rw [ih (y / 128) (by omega) (k + 1) (m + y % 128 * 2 ^ (7 * k)) (by omega) (Or.inr (by omega)), List.length_cons]
      congr 1 <;> omega
theorem pnum_enc (most x : Nat) (hx : x ≤ most) (r : List Int) : pnum most 0 0 (nb x ++ r) = .ok x (nb x).length := by
  have := pnum_nb most r x 0 0 (by simpa using hx) (Or.inl rfl)
  simpa using this
theorem pnum_dec (most : Nat) : ∀ (l : List Int) (k m x n : Nat), (∀ c ∈ l, 0 ≤ c ∧ c < 256) → pnum most k m l = .ok x n → ∃ y, x = m + y * 2 ^ (7 * k) ∧ n = k + (nb y).length ∧ l.take (nb y).length = nb y ∧ (k = 0 ∨ 1 ≤ y) := by
  intro l
  induction l with
  | nil => intro k m x n _ h; rw [pnum_nil] at h; cases h
  | cons c r ih =>
    intro k m x n hb h
    have hcb := hb c List.mem_cons_self
    by_cases hc : decide (c ≤ (((most - m) / 2 ^ (7 * k) : Nat) : Int)) = true ∧ (c ≠ 0 ∨ k = 0)
    · by_cases h128 : c < 128
      · rw [pnum_end most k m c r hc h128] at h
        cases h
        have hs : c.toNat < 128 := by omega
        refine ⟨c.toNat, by rw [Nat.mod_eq_of_lt hs], by rw [nb_small hs]; rfl, ?_, ?_⟩
        · rw [nb_small hs, List.length_singleton, List.take_succ_cons, List.take_zero, Int.toNat_of_nonneg hcb.1]
        · rcases hc.2 with h | h
          · right; omega
          · exact Or.inl h
      · rw [pnum_more most k m c r hc h128] at h
        obtain ⟨y, h1, h2, h3, h4⟩ := ih (k + 1) _ x n (fun c' h' => hb c' (List.mem_cons_of_mem _ h')) h
        have hy : 1 ≤ y := by rcases h4 with h4 | h4 <;> omega
        have hyc : (c.toNat % 128 + y * 128) % 128 = c.toNat % 128 := by omega
        have hyd : (c.toNat % 128 + y * 128) / 128 = y := by omega
        have hbig : ¬ (c.toNat % 128 + y * 128) < 128 := by omega
        have hnb := nb_big hbig
        rw [hyc, hyd] at hnb
        have hcc : ((c.toNat % 128 + 128 : Nat) : Int) = c := by omega
        rw [hcc] at hnb
        refine ⟨c.toNat % 128 + y * 128, ?_, by rw [hnb, List.length_cons]; omega, ?_, Or.inr (by omega)⟩
        · rw [h1, pow7, Nat.add_mul, Nat.mul_assoc y 128, Nat.mul_comm 128]; omega
        · rw [hnb, List.length_cons, List.take_succ_cons, h3]
    · rw [pnum_bad most k m c r hc] at h; cases h
theorem unf_fold (i : Int) : unf (fold i) = i := by
  unfold unf fold
  by_cases h : i < 0
  · rw [if_pos h, if_pos (by omega)]; omega
  · rw [if_neg h, if_neg (by omega)]; omega
theorem fold_unf (x : Nat) : fold (unf x) = x := by
  unfold unf fold
  by_cases h : x % 2 = 1
  · rw [if_pos h, if_pos (by omega)]; omega
  · rw [if_neg h, if_neg (by omega)]; omega

theorem hval_cons (c : Int) (l : List Int) : hval (c :: l) = c * 256 ^ l.length + hval l := by
  have h : ∀ (l : List Int) (a : Int), l.foldl (fun x c => x * 256 + c) a = a * 256 ^ l.length + hval l := by
    intro l
    induction l with
    | nil => intro a; simp [hval]
    | cons d l ih =>
      intro a
      have e : hval (d :: l) = (0 * 256 + d) * 256 ^ l.length + hval l := by
        show l.foldl (fun x c => x * 256 + c) (0 * 256 + d) = _
        exact ih _
      rw [List.foldl_cons, ih, e, List.length_cons, Int.pow_succ, Int.add_mul, Int.zero_mul, Int.zero_add, Int.mul_assoc, Int.mul_comm 256, Int.add_assoc]
  show l.foldl (fun x c => x * 256 + c) (0 * 256 + c) = _
  rw [h, Int.zero_mul, Int.zero_add]
theorem hval_hb (x : Nat) : ∀ n, hval (hb (x : Int) n) = ((x % 256 ^ n : Nat) : Int) := by
  intro n
  induction n with
  | zero => simp [hb, hval, Nat.mod_one]
  | succ n ih =>
    have e : (x : Int) / 256 ^ n % 256 = ((x / 256 ^ n % 256 : Nat) : Int) := by
      rw [Int.natCast_emod, Int.natCast_ediv, Int.natCast_pow]; rfl
    have e2 : ((256 : Int) ^ n) = ((256 ^ n : Nat) : Int) := by rw [Int.natCast_pow]; rfl
    rw [hb, hval_cons, hb_len, ih, e, e2, ← Int.natCast_mul, ← Int.natCast_add, Nat.pow_succ, Nat.mod_mul, Nat.mul_comm, Nat.add_comm]
theorem hb_shift (a y : Int) : ∀ (n k : Nat), k ≤ n → hb (a * 256 ^ n + y) k = hb y k := by
  intro n k
  induction k with
  | zero => intro _; rfl
  | succ k ih =>
    intro hk
    have hp : (256 : Int) ^ k ≠ 0 := by have := Int.pow_pos (n := (256 : Int)) (m := k) (by omega); omega
    have e : a * 256 ^ n + y = y + a * 256 ^ (n - k - 1) * 256 * 256 ^ k := by
      have : n = (n - k - 1) + 1 + k := by omega
      conv => lhs; rw [this, Int.pow_add, Int.pow_succ]
      rw [Int.add_comm, Int.mul_assoc, Int.mul_assoc, Int.mul_assoc]
    rw [hb, hb, ih (by omega), e, Int.add_mul_ediv_right _ _ hp, Int.add_mul_emod_self_right]
theorem hb_hval : ∀ (l : List Int), (∀ c ∈ l, 0 ≤ c ∧ c < 256) → hb (hval l) l.length = l := by
  intro l
  induction l with
  | nil => intro _; rfl
  | cons c l ih =>
    intro h
    have hc := h c List.mem_cons_self
    have hl := hval_bd l (fun d hd => h d (List.mem_cons_of_mem _ hd))
    have hp : (256 : Int) ^ l.length ≠ 0 := by omega
    rw [List.length_cons, hb, hval_cons, hb_shift c (hval l) l.length l.length (Nat.le_refl _), ih (fun d hd => h d (List.mem_cons_of_mem _ hd))]
    have e : (c * 256 ^ l.length + hval l) / 256 ^ l.length = c := by
      rw [Int.add_comm, Int.add_mul_ediv_right _ _ hp, Int.ediv_eq_zero_of_lt hl.1 hl.2, Int.zero_add]
    rw [e, Int.emod_eq_of_lt hc.1 hc.2]
theorem phigh_hb (x : Nat) (n : Nat) (hx : x < 256 ^ n) (r : List Int) : phigh n (hb (x : Int) n ++ r) = .ok (x : Int) n := by
  unfold phigh
  rw [if_pos (by rw [List.length_append, hb_len]; omega), List.take_append_of_le_length (by rw [hb_len]; exact Nat.le_refl _), List.take_of_length_le (by rw [hb_len]; exact Nat.le_refl _), hval_hb, Nat.mod_eq_of_lt hx]
theorem phigh_dec (n : Nat) (l : List Int) (hb0 : ∀ c ∈ l, 0 ≤ c ∧ c < 256) (x : Int) (m : Nat) (h : phigh n l = .ok x m) : m = n ∧ n ≤ l.length ∧ l.take n = hb x n ∧ 0 ≤ x ∧ x < 256 ^ n := by
  unfold phigh at h
  by_cases hn : n ≤ l.length
  · rw [if_pos hn] at h
    cases h
    have hl : (l.take n).length = n := by rw [List.length_take]; omega
    have h1 := hb_hval (l.take n) (fun c hc => hb0 c (List.mem_of_mem_take hc))
    have h2 := hval_bd (l.take n) (fun c hc => hb0 c (List.mem_of_mem_take hc))
    rw [hl] at h1 h2
    exact ⟨rfl, hn, h1.symm, h2.1, h2.2⟩
  · rw [if_neg hn] at h; cases h
theorem key_ok2 (r x : Int) : (1 ≤ r ∧ r ≤ 3 ∧ ckE r x = 0 ∧ 0 ≤ x ∧ x < 18446744073709551616) → ∃ m X : Nat, (if r = 2 then 8 else 0) = m ∧ x = (X : Int) ∧ X < 256 ^ m := by
  rintro ⟨h1, h2, h3, h4, h5⟩
  obtain ⟨X, rfl⟩ := Int.eq_ofNat_of_zero_le h4
  by_cases hr : r = 2
  · refine ⟨8, X, if_pos hr, rfl, ?_⟩
    have : (256 : Nat) ^ 8 = 18446744073709551616 := by decide
    rw [this]; omega
  · refine ⟨0, X, if_neg hr, rfl, ?_⟩
    unfold ckE at h3
    split at h3
    · simp; omega
    · omega
theorem pkey_enc (r x : Int) (h : 1 ≤ r ∧ r ≤ 3 ∧ ckE r x = 0 ∧ 0 ≤ x ∧ x < 18446744073709551616) (rest : List Int) : pkey (kyb r x ++ rest) = .ok (r, x) (kyb r x).length := by
  obtain ⟨m, X, hm, rfl, hX⟩ := key_ok2 r x h
  have e : pkey (kyb r (X : Int) ++ rest) = match phigh m (hb (X : Int) m ++ rest) with
    | .ok x n => .ok (r, x) (n + 1)
    | .bad i e => .bad (i + 1) e := by
      unfold kyb
      rw [hm, List.cons_append]
      show (if 1 ≤ r ∧ r ≤ 3 then _ else _) = _
      rw [if_pos ⟨h.1, h.2.1⟩, hm]
      rcases phigh m (hb (X : Int) m ++ rest) with _ | _ <;> rfl
  rw [e, phigh_hb X m hX]
  unfold kyb
  rw [hm, List.length_cons, hb_len]
theorem pkey_dec (l : List Int) (hb0 : ∀ c ∈ l, 0 ≤ c ∧ c < 256) (r x : Int) (n : Nat) (h : pkey l = .ok (r, x) n) : l.take n = kyb r x ∧ n ≤ l.length ∧ (1 ≤ r ∧ r ≤ 3 ∧ ckE r x = 0 ∧ 0 ≤ x ∧ x < 18446744073709551616) := by
  rcases l with _ | ⟨c, l⟩
  · cases h
  · by_cases hc : 1 ≤ c ∧ c ≤ 3
    · have e : (match phigh (if c = 2 then 8 else 0) l with
        | .ok x n => PR.ok (c, x) (n + 1)
        | .bad i e => .bad (i + 1) e) = .ok (r, x) n := by rw [← h]; exact (if_pos hc).symm
      obtain ⟨m, hm⟩ : ∃ m : Nat, (if c = 2 then 8 else 0) = m := ⟨_, rfl⟩
      rw [hm] at e
      rcases hq : phigh m l with ⟨y, n'⟩ | ⟨i, er⟩
      · rw [hq] at e
        cases e
        obtain ⟨h1, h2, h3, h4, h5⟩ := phigh_dec m l (fun d hd => hb0 d (List.mem_cons_of_mem _ hd)) _ _ hq
        subst h1
        refine ⟨?_, by rw [List.length_cons]; omega, hc.1, hc.2, ?_, h4, ?_⟩
        · unfold kyb; rw [List.take_succ_cons, h3, hm]
        · unfold ckE
          by_cases hr : r = 2
          · rw [if_pos (Or.inl hr)]
          · rw [if_neg hr] at hm
            subst hm
            simp at h5
            rw [if_pos (Or.inr ⟨by omega, by omega⟩)]
        · by_cases hr : r = 2
          · rw [if_pos hr] at hm
            subst hm
            have : (256 : Int) ^ 8 = 18446744073709551616 := by decide
            omega
          · rw [if_neg hr] at hm
            subst hm
            simp at h5
            omega
      · rw [hq] at e; cases e
    · have e : pkey (c :: l) = .bad 0 31 := if_neg hc
      rw [e] at h; cases h

theorem pvec_enc (n b : Nat) (hn : n ≤ 32) (hb2 : b < 2 ^ n) (rest : List Int) : pvec (vb n b ++ rest) = .ok ((n : Int), (b : Int)) (vb n b).length := by
  obtain ⟨m, s, hm, hs, hms⟩ : ∃ m s, (n + 7) / 8 = m ∧ 8 * ((n + 7) / 8) - n = s ∧ 8 * m = n + s := ⟨_, _, rfl, rfl, by omega⟩
  have hsp : spare n = s := hs
  have hx : (b : Int) * 2 ^ s = ((b * 2 ^ s : Nat) : Int) := by rw [Int.natCast_mul, Int.natCast_pow]; rfl
  have hlt : b * 2 ^ s < 256 ^ m := by
    have e : (256 : Nat) ^ m = 2 ^ n * 2 ^ s := by
      rw [← Nat.pow_add, ← hms, Nat.pow_mul]
    rw [e]
    exact Nat.mul_lt_mul_of_pos_right hb2 (Nat.two_pow_pos _)
  have e : pvec (vb n b ++ rest) = match phigh m (hb ((b * 2 ^ s : Nat) : Int) m ++ rest) with
    | .ok x k => if x % 2 ^ s = 0 then .ok ((n : Int), x / 2 ^ s) (k + 1) else .bad k 31
    | .bad i e => .bad (i + 1) e := by
      unfold vb
      rw [hs, hm, hx, List.cons_append]
      show (if (n : Int) ≤ 32 then _ else _) = _
      rw [if_pos (by omega), Int.toNat_natCast, hm, hsp]
      rcases phigh m (hb ((b * 2 ^ s : Nat) : Int) m ++ rest) with _ | _ <;> rfl
  rw [e, phigh_hb _ m hlt]
  have hp : (2 : Int) ^ s ≠ 0 := by have := Int.pow_pos (n := (2 : Int)) (m := s) (by omega); omega
  have h1 : ((b * 2 ^ s : Nat) : Int) % 2 ^ s = 0 := by rw [← hx]; exact Int.mul_emod_left _ _
  have h2 : ((b * 2 ^ s : Nat) : Int) / 2 ^ s = (b : Int) := by rw [← hx]; exact Int.mul_ediv_cancel _ hp
  simp only []
  rw [if_pos h1, h2]
  unfold vb
  rw [hm, List.length_cons, hb_len]
theorem pvec_dec (l : List Int) (hb0 : ∀ c ∈ l, 0 ≤ c ∧ c < 256) (c x : Int) (n : Nat) (h : pvec l = .ok (c, x) n) : l.take n = vb c.toNat x ∧ n ≤ l.length ∧ 0 ≤ c ∧ 0 ≤ x ∧ c.toNat ≤ 32 ∧ x.toNat < 2 ^ c.toNat := by
  rcases l with _ | ⟨d, r⟩
  · cases h
  · have hd := (hb0 d List.mem_cons_self).1
    by_cases h32 : d ≤ 32
    · have e : (match phigh ((d.toNat + 7) / 8) r with
        | .ok x n => if x % 2 ^ spare d.toNat = 0 then PR.ok (d, x / 2 ^ spare d.toNat) (n + 1) else .bad n 31
        | .bad i e => .bad (i + 1) e) = .ok (c, x) n := by rw [← h]; exact (if_pos h32).symm
      rcases hq : phigh ((d.toNat + 7) / 8) r with ⟨y, n'⟩ | ⟨i, er⟩
      · rw [hq] at e
        simp only [] at e
        by_cases hz : y % 2 ^ spare d.toNat = 0
        · rw [if_pos hz] at e
          cases e
          obtain ⟨h1, h2, h3, h4, h5⟩ := phigh_dec _ r (fun z hz => hb0 z (List.mem_cons_of_mem _ hz)) _ _ hq
          have hp : (0 : Int) < 2 ^ spare c.toNat := Int.pow_pos (by omega)
          have hy : y / 2 ^ spare c.toNat * 2 ^ spare c.toNat = y := Int.ediv_mul_cancel (Int.dvd_of_emod_eq_zero hz)
          have hq0 : 0 ≤ y / 2 ^ spare c.toNat := Int.ediv_nonneg h4 (Int.le_of_lt hp)
          subst h1
          refine ⟨?_, by rw [List.length_cons]; omega, hd, hq0, by omega, ?_⟩
          · unfold vb
            rw [List.take_succ_cons, h3, Int.toNat_of_nonneg hd]
            congr 2
            exact hy.symm
          · have e8 : (256 : Int) ^ ((c.toNat + 7) / 8) = 2 ^ c.toNat * 2 ^ spare c.toNat := by
              rw [← pow_hb, ← Int.pow_add]
              congr 1
              unfold spare
              omega
            rw [e8] at h5
            have h6 : y / 2 ^ spare c.toNat < 2 ^ c.toNat := by
              rw [← hy] at h5
              exact Int.lt_of_mul_lt_mul_right h5 (Int.le_of_lt hp)
            have h7 : ((y / 2 ^ spare c.toNat).toNat : Int) < ((2 ^ c.toNat : Nat) : Int) := by
              rw [Int.toNat_of_nonneg hq0, Int.natCast_pow]; exact h6
            exact Int.ofNat_lt.1 h7
        · rw [if_neg hz] at e; cases e
      · rw [hq] at e; cases e
    · have e : pvec (d :: r) = .bad 0 31 := if_neg h32
      rw [e] at h; cases h

theorem pwhole_enc (i : Int) (h : -9223372036854775808 ≤ i ∧ i ≤ 9223372036854775807) (rest : List Int) : pwhole (nb (fold i) ++ rest) = .ok i (nb (fold i)).length := by
  unfold pwhole
  rw [pnum_enc M64 (fold i) (by have := fold_lt i h.1 h.2; have e : M64 = 18446744073709551615 := rfl; omega)]
  simp only [unf_fold]
theorem pnum_dec0 (most : Nat) (l : List Int) (hb0 : ∀ c ∈ l, 0 ≤ c ∧ c < 256) (x n : Nat) (h : pnum most 0 0 l = .ok x n) : l.take n = nb x ∧ n ≤ l.length ∧ x ≤ most := by
  obtain ⟨y, h1, h2, h3, _⟩ := pnum_dec most l 0 0 x n hb0 h
  simp only [Nat.mul_zero, Nat.pow_zero, Nat.mul_one, Nat.zero_add] at h1 h2
  subst h1 h2
  have := (pnum_n most l 0 0 _ _ h).1
  exact ⟨h3, by omega, pnum_le most l 0 0 _ _ hb0 (by omega) h⟩
theorem unf_bd (x : Nat) (h : x ≤ M64) : -9223372036854775808 ≤ unf x ∧ unf x ≤ 9223372036854775807 := by
  have e : M64 = 18446744073709551615 := rfl
  unfold unf
  split <;> omega
theorem pwhole_dec (l : List Int) (hb0 : ∀ c ∈ l, 0 ≤ c ∧ c < 256) (i : Int) (n : Nat) (h : pwhole l = .ok i n) : l.take n = nb (fold i) ∧ n ≤ l.length ∧ -9223372036854775808 ≤ i ∧ i ≤ 9223372036854775807 := by
  unfold pwhole at h
  rcases hq : pnum M64 0 0 l with ⟨x, m⟩ | ⟨j, er⟩
  · rw [hq] at h
    cases h
    obtain ⟨h1, h2, h3⟩ := pnum_dec0 M64 l hb0 _ _ hq
    rw [fold_unf]
    exact ⟨h1, h2, unf_bd _ h3⟩
  · rw [hq] at h; cases h
theorem prow_enc (l rest : List Int) (hl : l.length ≤ 65536) : prow ((nb l.length ++ l) ++ rest) = .ok l (nb l.length ++ l).length := by
  unfold prow
  rw [List.append_assoc, pnum_enc 65536 l.length hl]
  simp only []
  have e : (nb l.length ++ (l ++ rest)).drop (nb l.length).length = l ++ rest := List.drop_left
  rw [e, if_pos (by rw [List.length_append]; omega), List.take_left, List.length_append]
theorem prow_dec (l : List Int) (hb0 : ∀ c ∈ l, 0 ≤ c ∧ c < 256) (x : List Int) (n : Nat) (h : prow l = .ok x n) : l.take n = nb x.length ++ x ∧ n ≤ l.length ∧ x.length ≤ 65536 ∧ ∀ c ∈ x, 0 ≤ c ∧ c < 256 := by
  unfold prow at h
  rcases hq : pnum 65536 0 0 l with ⟨y, m⟩ | ⟨j, er⟩
  · rw [hq] at h
    simp only [] at h
    obtain ⟨h1, h2, h3⟩ := pnum_dec0 65536 l hb0 _ _ hq
    by_cases hy : y ≤ (l.drop m).length
    · rw [if_pos hy] at h
      cases h
      have hyl : ((l.drop m).take y).length = y := by rw [List.length_take]; omega
      rw [List.length_drop] at hy
      refine ⟨?_, by omega, by omega, fun c hc => hb0 c (List.mem_of_mem_drop (List.mem_of_mem_take hc))⟩
      rw [hyl, ← h1, List.take_add]
    · rw [if_neg hy] at h; cases h
  · rw [hq] at h; cases h
theorem take_two {l a b : List Int} {n m : Nat} (h1 : l.take n = a) (h2 : (l.drop n).take m = b) : l.take (n + m) = a ++ b := by
  rw [List.take_add, h1, h2]
theorem mem_drop {l : List Int} (hb0 : ∀ c ∈ l, 0 ≤ c ∧ c < 256) (n : Nat) : ∀ c ∈ l.drop n, 0 ≤ c ∧ c < 256 := fun c hc => hb0 c (List.mem_of_mem_drop hc)
theorem drop_enc (a rest : List Int) : (a ++ rest).drop a.length = rest := List.drop_left
/-- A field is read of its own bytes. -/
theorem pfield_enc (v : FV) (hv : v.ok) (rest : List Int) : pfield v.kind (v.enc ++ rest) = .ok v v.enc.length := by
  cases v with
  | num n =>
    show (pnum M64 0 0 (nb n ++ rest)).map FV.num = _
    rw [pnum_enc M64 n (by have e : M64 = 18446744073709551615 := rfl; have : n < 18446744073709551616 := hv; omega)]
    rfl
  | int i =>
    show (pwhole (nb (fold i) ++ rest)).map FV.int = _
    rw [pwhole_enc i hv]
    rfl
  | truth t =>
    show (ptruth ((if t then 1 else 0) :: rest)).map FV.truth = _
    cases t <;> rfl
  | bytes l =>
    show (prow ((nb l.length ++ l) ++ rest)).map FV.bytes = _
    rw [prow_enc l rest hv.1]
    rfl
  | vec n b =>
    show (pvec (vb n b ++ rest)).map (fun x => FV.vec x.1.toNat x.2.toNat) = _
    rw [pvec_enc n b hv.1 hv.2]
    rfl
  | key r x =>
    show (pkey (kyb r x ++ rest)).map (fun x => FV.key x.1 x.2) = _
    rw [pkey_enc r x hv]
    rfl
  | ref i r x n b =>
    show (pref ((nb (fold i) ++ (kyb r x ++ vb n b)) ++ rest)).map (fun x => FV.ref x.1 x.2.1.1 x.2.1.2 x.2.2.1.toNat x.2.2.2.toNat) = _
    have e : pref ((nb (fold i) ++ (kyb r x ++ vb n b)) ++ rest) = .ok (i, (r, x), ((n : Int), (b : Int))) ((nb (fold i)).length + (kyb r x).length + (vb n b).length) := by
      unfold pref
      rw [List.append_assoc, pwhole_enc i hv.1]
      simp only [drop_enc]
      rw [List.append_assoc, pkey_enc r x hv.2.1]
      simp only [drop_enc]
      rw [pvec_enc n b hv.2.2.1 hv.2.2.2]
    rw [e]
    show PR.ok (FV.ref i r x n b) _ = PR.ok _ (nb (fold i) ++ (kyb r x ++ vb n b)).length
    rw [List.length_append, List.length_append, Nat.add_assoc]
/-- Whose bytes were read. -/
theorem pfield_dec (k : Int) (hk : 1 ≤ k ∧ k ≤ 7) (l : List Int) (hb0 : ∀ c ∈ l, 0 ≤ c ∧ c < 256) (v : FV) (n : Nat) (h : pfield k l = .ok v n) : l.take n = v.enc ∧ n ≤ l.length ∧ v.ok ∧ v.kind = k := by
  obtain rfl | rfl | rfl | rfl | rfl | rfl | rfl : k = 1 ∨ k = 2 ∨ k = 3 ∨ k = 4 ∨ k = 5 ∨ k = 6 ∨ k = 7 := by omega
  · have h' : (pnum M64 0 0 l).map FV.num = .ok v n := h
    rcases hq : pnum M64 0 0 l with ⟨x, m⟩ | ⟨j, er⟩
    · rw [hq] at h'
      cases h'
      obtain ⟨h1, h2, h3⟩ := pnum_dec0 M64 l hb0 _ _ hq
      exact ⟨h1, h2, (by have e : M64 = 18446744073709551615 := rfl; show x < 18446744073709551616; omega), rfl⟩
    · rw [hq] at h'; cases h'
  · have h' : (pwhole l).map FV.int = .ok v n := h
    rcases hq : pwhole l with ⟨x, m⟩ | ⟨j, er⟩
    · rw [hq] at h'
      cases h'
      obtain ⟨h1, h2, h3⟩ := pwhole_dec l hb0 _ _ hq
      exact ⟨h1, h2, h3, rfl⟩
    · rw [hq] at h'; cases h'
  · have h' : (ptruth l).map FV.truth = .ok v n := h
    rcases l with _ | ⟨c, r⟩
    · cases h'
    · by_cases hc : c ≤ 1
      · have e : ptruth (c :: r) = .ok (decide (c = 1)) 1 := if_pos hc
        rw [e] at h'
        cases h'
        have hc0 := hb0 c List.mem_cons_self
        refine ⟨?_, by simp, trivial, rfl⟩
        show [c] = [if decide (c = 1) = true then 1 else 0]
        by_cases h1 : c = 1
        · subst h1; rfl
        · have : c = 0 := by omega
          subst this; rfl
      · have e : ptruth (c :: r) = .bad 0 31 := if_neg hc
        rw [e] at h'; cases h'
  · have h' : (prow l).map FV.bytes = .ok v n := h
    rcases hq : prow l with ⟨x, m⟩ | ⟨j, er⟩
    · rw [hq] at h'
      cases h'
      obtain ⟨h1, h2, h3, h4⟩ := prow_dec l hb0 _ _ hq
      exact ⟨h1, h2, ⟨h3, h4⟩, rfl⟩
    · rw [hq] at h'; cases h'
  · have h' : (pvec l).map (fun x => FV.vec x.1.toNat x.2.toNat) = .ok v n := h
    rcases hq : pvec l with ⟨⟨c, x⟩, m⟩ | ⟨j, er⟩
    · rw [hq] at h'
      cases h'
      obtain ⟨h1, h2, h3, h4, h5, h6⟩ := pvec_dec l hb0 _ _ _ hq
      exact ⟨by rw [h1]; show vb c.toNat x = vb c.toNat (x.toNat : Int); rw [Int.toNat_of_nonneg h4], h2, ⟨h5, h6⟩, rfl⟩
    · rw [hq] at h'; cases h'
  · have h' : (pkey l).map (fun x => FV.key x.1 x.2) = .ok v n := h
    rcases hq : pkey l with ⟨⟨r, x⟩, m⟩ | ⟨j, er⟩
    · rw [hq] at h'
      cases h'
      obtain ⟨h1, h2, h3⟩ := pkey_dec l hb0 _ _ _ hq
      exact ⟨h1, h2, h3, rfl⟩
    · rw [hq] at h'; cases h'
  · have h' : (pref l).map (fun x => FV.ref x.1 x.2.1.1 x.2.1.2 x.2.2.1.toNat x.2.2.2.toNat) = .ok v n := h
    unfold pref at h'
    rcases hq1 : pwhole l with ⟨i, n1⟩ | ⟨j, er⟩
    · rw [hq1] at h'
      simp only [] at h'
      rcases hq2 : pkey (l.drop n1) with ⟨⟨r, x⟩, n2⟩ | ⟨j, er⟩
      · rw [hq2] at h'
        simp only [] at h'
        rcases hq3 : pvec ((l.drop n1).drop n2) with ⟨⟨c, y⟩, n3⟩ | ⟨j, er⟩
        · rw [hq3] at h'
          cases h'
          obtain ⟨a1, a2, a3⟩ := pwhole_dec l hb0 _ _ hq1
          obtain ⟨b1, b2, b3⟩ := pkey_dec _ (mem_drop hb0 _) _ _ _ hq2
          obtain ⟨c1, c2, c3, c4, c5, c6⟩ := pvec_dec _ (mem_drop (mem_drop hb0 _) _) _ _ _ hq3
          rw [List.length_drop] at b2
          rw [List.length_drop, List.length_drop] at c2
          refine ⟨?_, by omega, ⟨a3, b3, c5, c6⟩, rfl⟩
          rw [Nat.add_assoc, take_two a1 (take_two b1 c1)]
          show _ = nb (fold i) ++ (kyb r x ++ vb c.toNat (y.toNat : Int))
          rw [Int.toNat_of_nonneg c4]
        · rw [hq3] at h'; cases h'
      · rw [hq2] at h'; cases h'
    · rw [hq1] at h'; cases h'
/-- Fields are read of their own bytes. -/
theorem pfields_enc (vs : List FV) (hv : ∀ v ∈ vs, v.ok) (rest : List Int) : pfields (vs.map FV.kind) (encs vs ++ rest) = .ok vs (encs vs).length := by
  induction vs with
  | nil => rfl
  | cons v vs ih =>
    have e : encs (v :: vs) = v.enc ++ encs vs := by unfold encs; rw [List.flatMap_cons]
    rw [List.map_cons, e, List.append_assoc, pfields, pfield_enc v (hv v List.mem_cons_self)]
    simp only [drop_enc]
    rw [ih (fun u hu => hv u (List.mem_cons_of_mem _ hu)), List.length_append]
/-- Whose bytes were read. -/
theorem pfields_dec (ks : List Int) (hk : ∀ k ∈ ks, 1 ≤ k ∧ k ≤ 7) : ∀ (l : List Int), (∀ c ∈ l, 0 ≤ c ∧ c < 256) → ∀ (vs : List FV) (n : Nat), pfields ks l = .ok vs n → l.take n = encs vs ∧ n ≤ l.length ∧ (∀ v ∈ vs, v.ok) ∧ vs.map FV.kind = ks := by
  induction ks with
  | nil => intro l _ vs n h; cases h; exact ⟨rfl, by omega, fun v hv => by simp at hv, rfl⟩
  | cons k ks ih =>
    intro l hb0 vs n h
    rw [pfields] at h
    rcases hq : pfield k l with ⟨v, m⟩ | ⟨j, er⟩
    · rw [hq] at h
      simp only [] at h
      obtain ⟨h1, h2, h3, h4⟩ := pfield_dec k (hk k List.mem_cons_self) l hb0 v m hq
      rcases hq2 : pfields ks (l.drop m) with ⟨us, q⟩ | ⟨j, er⟩
      · rw [hq2] at h
        cases h
        obtain ⟨g1, g2, g3, g4⟩ := ih (fun k' hk' => hk k' (List.mem_cons_of_mem _ hk')) (l.drop m) (mem_drop hb0 _) us q hq2
        rw [List.length_drop] at g2
        refine ⟨?_, by omega, ?_, by rw [List.map_cons, h4, g4]⟩
        · rw [take_two h1 g1]; unfold encs; rw [List.flatMap_cons]
        · intro u hu
          rcases List.mem_cons.1 hu with rfl | hu
          · exact h3
          · exact g3 u hu
      · rw [hq2] at h; cases h
    · rw [hq] at h; cases h

end Go.Proofs.YtmhcmlegdoapdaaDoor
