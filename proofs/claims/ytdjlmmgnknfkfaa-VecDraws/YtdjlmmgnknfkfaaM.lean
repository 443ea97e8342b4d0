/- Plain facts on rows of bits: a row's bits, its number, its first bits and the others. Nothing of the program is named here. -/
namespace Go.Proofs.Ytdjlmmgnknfkfaa

/-- Bit i of the row of n bits whose number is b. -/
def bt (n b i : Nat) : Nat := b / 2 ^ (n - 1 - i) % 2
/-- The row. -/
def bl (n b : Nat) : List Nat := (List.range n).map (bt n b)
/-- The number of a row. -/
def ofl (l : List Nat) : Nat := l.foldl (fun a x => a * 2 + x) 0
/-- May a vector be? -/
def rt (n b : Int) : Bool := decide (0 ≤ n ∧ n ≤ 32 ∧ b < 2 ^ n.toNat)
/-- The number of a vector's first k bits. -/
def pre (n b k : Nat) : Nat := b / 2 ^ (n - k)
/-- That of the others. -/
def rst (n b k : Nat) : Nat := b % 2 ^ (n - k)
/-- That of the vector with bit i turned. -/
def flp (n b i : Nat) : Nat := b ^^^ 2 ^ (n - 1 - i)
/-- That of two, one behind the other. -/
def jn (b m c : Nat) : Nat := b * 2 ^ m + c
/-- How many first ones two rows have in common. -/
def cmn : List Nat → List Nat → Nat
  | a :: s, b :: t => if a = b then cmn s t + 1 else 0
  | _, _ => 0

theorem bl_length (n b : Nat) : (bl n b).length = n := by simp [bl]
theorem bl_get (n b i : Nat) (h : i < n) : (bl n b)[i]? = some (bt n b i) := by simp [bl, h]
theorem bt_le (n b i : Nat) : bt n b i ≤ 1 := by unfold bt; omega
theorem bt_test (n b i : Nat) : bt n b i = (b.testBit (n - 1 - i)).toNat := by rw [Nat.toNat_testBit]; rfl

theorem foldl_ofl (m : List Nat) (a : Nat) : m.foldl (fun a x => a * 2 + x) a = a * 2 ^ m.length + ofl m := by
  unfold ofl
  induction m generalizing a with
  | nil => simp
  | cons x t ih =>
    simp only [List.foldl_cons, List.length_cons]
    rw [ih, ih (0 * 2 + x), Nat.pow_succ]
    simp only [Nat.add_mul, Nat.mul_assoc, Nat.zero_mul, Nat.zero_add, Nat.mul_comm 2]
    omega

theorem ofl_append (l m : List Nat) : ofl (l ++ m) = ofl l * 2 ^ m.length + ofl m := by
  rw [ofl, List.foldl_append, foldl_ofl]; rfl
theorem ofl_snoc (l : List Nat) (x : Nat) : ofl (l ++ [x]) = ofl l * 2 + x := by
  rw [ofl_append]; simp [ofl]
theorem ofl_lt (l : List Nat) (h : ∀ x ∈ l, x ≤ 1) : ofl l < 2 ^ l.length := by
  induction l with
  | nil => simp [ofl]
  | cons x t ih =>
    have e : x :: t = [x] ++ t := rfl
    rw [e, ofl_append]
    have := ih (fun y hy => h y (by simp [hy]))
    have hx := h x (by simp)
    simp only [List.length_append, List.length_cons, List.length_nil]
    rw [Nat.pow_add]
    have e1 : ofl [x] = x := by simp [ofl]
    rw [e1]
    rcases Nat.le_one_iff_eq_zero_or_eq_one.1 hx with rfl | rfl <;> omega

theorem bl_take (n b k : Nat) (h : k ≤ n) : (bl n b).take k = bl k (b / 2 ^ (n - k)) := by
  apply List.ext_getElem?
  intro i
  by_cases hi : i < k
  · rw [List.getElem?_take, if_pos hi, bl_get _ _ _ (by omega), bl_get _ _ _ hi]
    unfold bt
    rw [Nat.div_div_eq_div_mul, ← Nat.pow_add]
    have : n - k + (k - 1 - i) = n - 1 - i := by omega
    rw [this]
  · rw [List.getElem?_eq_none (by simp [bl_length]; omega), List.getElem?_eq_none (by simp [bl_length]; omega)]

theorem bl_drop (n b k : Nat) (h : k ≤ n) : (bl n b).drop k = bl (n - k) (b % 2 ^ (n - k)) := by
  apply List.ext_getElem?
  intro i
  by_cases hi : i < n - k
  · rw [List.getElem?_drop, bl_get _ _ _ (by omega), bl_get _ _ _ hi, bt_test, bt_test, Nat.testBit_mod_two_pow]
    have e : n - 1 - (k + i) = n - k - 1 - i := by omega
    rw [e, decide_eq_true (by omega)]
    simp
  · rw [List.getElem?_eq_none (by simp [bl_length]; omega), List.getElem?_eq_none (by simp [bl_length]; omega)]

theorem bl_succ (n b : Nat) : bl (n + 1) b = bl n (b / 2) ++ [b % 2] := by
  have h1 := bl_take (n + 1) b n (by omega)
  have h2 := bl_drop (n + 1) b n (by omega)
  have e : n + 1 - n = 1 := by omega
  rw [e, Nat.pow_one] at h1 h2
  rw [← List.take_append_drop n (bl (n + 1) b), h1, h2]
  simp [bl, bt]

theorem ofl_bl (n b : Nat) (h : b < 2 ^ n) : ofl (bl n b) = b := by
  induction n generalizing b with
  | zero => simp [bl, ofl] at *; omega
  | succ n ih =>
    rw [bl_succ, ofl_snoc, ih (b / 2) (by rw [Nat.pow_succ] at h; omega)]
    omega

theorem ofl_bl_take (n b k : Nat) (hb : b < 2 ^ n) (h : k ≤ n) : ofl ((bl n b).take k) = b / 2 ^ (n - k) := by
  rw [bl_take n b k h, ofl_bl]
  rw [Nat.div_lt_iff_lt_mul (Nat.two_pow_pos _), ← Nat.pow_add]
  have : k + (n - k) = n := by omega
  rw [this]; exact hb
theorem ofl_bl_drop (n b k : Nat) (h : k ≤ n) : ofl ((bl n b).drop k) = b % 2 ^ (n - k) := by
  rw [bl_drop n b k h, ofl_bl]
  exact Nat.mod_lt _ (Nat.two_pow_pos _)

theorem bl_mem (n b : Nat) : ∀ x ∈ bl n b, x ≤ 1 := by
  intro x hx; simp only [bl, List.mem_map] at hx; obtain ⟨i, _, rfl⟩ := hx; exact bt_le _ _ _

theorem bl_flip (n b i : Nat) (h : i < n) : (bl n b).set i (1 - bt n b i) = bl n (b ^^^ 2 ^ (n - 1 - i)) := by
  apply List.ext_getElem?
  intro j
  by_cases hj : j < n
  · rw [List.getElem?_set, bl_get _ _ _ hj, bl_get _ _ _ hj]
    by_cases e : i = j
    · subst e
      rw [if_pos rfl, if_pos (by rw [bl_length]; exact h), bt_test, bt_test, Nat.testBit_xor, Nat.testBit_two_pow_self]
      cases b.testBit (n - 1 - i) <;> rfl
    · rw [if_neg e, bt_test, bt_test, Nat.testBit_xor, Nat.testBit_two_pow_of_ne (by omega)]
      simp
  · rw [List.getElem?_eq_none (by simp [bl_length]; omega), List.getElem?_eq_none (by simp [bl_length]; omega)]

theorem xor_lt (n b i : Nat) (hb : b < 2 ^ n) (h : i < n) : b ^^^ 2 ^ (n - 1 - i) < 2 ^ n :=
  Nat.xor_lt_two_pow hb (Nat.pow_lt_pow_right (by omega) (by omega))

theorem ofl_flip (n b i : Nat) (hb : b < 2 ^ n) (h : i < n) : ofl ((bl n b).set i (1 - bt n b i)) = b ^^^ 2 ^ (n - 1 - i) := by
  rw [bl_flip n b i h, ofl_bl _ _ (xor_lt n b i hb h)]

theorem shl_or (b c m : Nat) (hc : c < 2 ^ m) : b * 2 ^ m ||| c = b * 2 ^ m + c := by
  rw [Nat.mul_comm]; exact (Nat.two_pow_add_eq_or_of_lt hc b).symm

theorem cmn_le (a b : List Nat) : cmn a b ≤ a.length ∧ cmn a b ≤ b.length := by
  induction a generalizing b with
  | nil => simp [cmn]
  | cons x s ih =>
    cases b with
    | nil => simp [cmn]
    | cons y t =>
      simp only [cmn]
      have := ih t
      split <;> simp <;> omega

theorem cmn_same (a b : List Nat) : ∀ i, i < cmn a b → a[i]? = b[i]? := by
  induction a generalizing b with
  | nil => simp [cmn]
  | cons x s ih =>
    cases b with
    | nil => simp [cmn]
    | cons y t =>
      intro i hi
      simp only [cmn] at hi
      split at hi
      · rename_i e
        cases i with
        | zero => simp [e]
        | succ i => simpa using ih t i (by omega)
      · omega

theorem cmn_eq (a b : List Nat) (k : Nat) (h1 : k ≤ a.length) (h2 : k ≤ b.length) (h3 : ∀ i, i < k → a[i]? = b[i]?) (h4 : k = a.length ∨ k = b.length ∨ a[k]? ≠ b[k]?) : cmn a b = k := by
  induction a generalizing b k with
  | nil => simp at h1; simp [cmn, h1]
  | cons x s ih =>
    cases b with
    | nil => simp at h2; simp [cmn, h2]
    | cons y t =>
      cases k with
      | zero =>
        have : x ≠ y := by
          rcases h4 with h4 | h4 | h4
          · simp at h4
          · simp at h4
          · simpa using h4
        simp [cmn, this]
      | succ k =>
        have e : x = y := by simpa using h3 0 (by omega)
        simp only [cmn, if_pos e]
        rw [ih t k (by simpa using h1) (by simpa using h2) (fun i hi => by simpa using h3 (i + 1) (by omega)) (by simpa using h4)]

theorem pre_lt (n b k : Nat) (hb : b < 2 ^ n) (h : k ≤ n) : pre n b k < 2 ^ k := by
  unfold pre
  rw [Nat.div_lt_iff_lt_mul (Nat.two_pow_pos _), ← Nat.pow_add]
  have : k + (n - k) = n := by omega
  rw [this]; exact hb
theorem rst_lt (n b k : Nat) : rst n b k < 2 ^ (n - k) := Nat.mod_lt _ (Nat.two_pow_pos _)
theorem jn_lt (n b m c : Nat) (hb : b < 2 ^ n) (hc : c < 2 ^ m) : jn b m c < 2 ^ (n + m) := by
  unfold jn
  rw [Nat.pow_add]
  have : (b + 1) * 2 ^ m ≤ 2 ^ n * 2 ^ m := Nat.mul_le_mul_right _ hb
  rw [Nat.add_mul] at this
  omega
theorem jn_pre_rst (n b k : Nat) : jn (pre n b k) (n - k) (rst n b k) = b := by
  unfold jn pre rst
  rw [Nat.mul_comm]; exact Nat.div_add_mod _ _
theorem pre_all (n b : Nat) : pre n b n = b := by simp [pre]
theorem p32 (n : Nat) (h : n ≤ 32) : 2 ^ n ≤ 4294967296 := Nat.le_trans (Nat.pow_le_pow_right (by omega) h) (by decide)

theorem rt_nat {n b : Int} (h : rt n b = true) (h0 : 0 ≤ b) : ∃ m c : Nat, n = (m : Int) ∧ b = (c : Int) ∧ m ≤ 32 ∧ c < 2 ^ m := by
  have h := of_decide_eq_true h
  obtain ⟨m, rfl⟩ := Int.eq_ofNat_of_zero_le h.1
  obtain ⟨c, rfl⟩ := Int.eq_ofNat_of_zero_le h0
  refine ⟨m, c, rfl, rfl, by omega, ?_⟩
  have := h.2.2
  rw [Int.toNat_natCast] at this
  exact_mod_cast this
theorem rt_of (m c : Nat) (h : m ≤ 32) (hc : c < 2 ^ m) : rt (m : Int) (c : Int) = true := by
  refine decide_eq_true ⟨by omega, by omega, ?_⟩
  rw [Int.toNat_natCast]
  exact_mod_cast hc

end Go.Proofs.Ytdjlmmgnknfkfaa
