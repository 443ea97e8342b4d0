/- Rows of bits; the document's Right, Bits, Of, Prefix, Begins; rows of references of one's own. -/
import Derived.Test.YtfcmmchppcffmaaDoorMZA
namespace Go.Proofs.YtfcmmchppcffmaaDoor
open Go.RowKit Go.Maps Go.ChangeMaps

/-- The row. -/
def bl (n b : Nat) : List Nat := (List.range n).map (bt n b)
/-- The number of a row. -/
def ofl (l : List Nat) : Nat := l.foldl (fun a x => a * 2 + x) 0
/-- That of the others. -/
def rst (n b k : Nat) : Nat := b % 2 ^ (n - k)
/-- That of the vector with bit i turned. -/
def flp (n b i : Nat) : Nat := b ^^^ 2 ^ (n - 1 - i)
/-- That of two, one behind the other. -/
def jn (b m c : Nat) : Nat := b * 2 ^ m + c
/-- How many first ones two rows have in common. -/
def cmn : List Nat → List Nat → Nat
  | a :: s, b :: t => if a = b then cmn s t + 1 else 0
  | _, _ => 0

theorem bl_length (n b : Nat) : (bl n b).length = n := by simp [bl]
theorem bl_get (n b i : Nat) (h : i < n) : (bl n b)[i]? = some (bt n b i) := by simp [bl, h]
theorem bt_le (n b i : Nat) : bt n b i ≤ 1 := by unfold bt; omega
theorem bt_test (n b i : Nat) : bt n b i = (b.testBit (n - 1 - i)).toNat := by rw [Nat.toNat_testBit]; rfl

theorem foldl_ofl (m : List Nat) (a : Nat) : m.foldl (fun a x => a * 2 + x) a = a * 2 ^ m.length + ofl m := by
  unfold ofl
  induction m generalizing a with
  | nil => simp
  | cons x t ih =>
    simp only [List.foldl_cons, List.length_cons]
    rw [ih, ih (0 * 2 + x), Nat.pow_succ]
    simp only [Nat.add_mul, Nat.mul_assoc, Nat.zero_mul, Nat.zero_add, Nat.mul_comm 2]
    omega

theorem ofl_append (l m : List Nat) : ofl (l ++ m) = ofl l * 2 ^ m.length + ofl m := by
  rw [ofl, List.foldl_append, foldl_ofl]; rfl
theorem ofl_snoc (l : List Nat) (x : Nat) : ofl (l ++ [x]) = ofl l * 2 + x := by
  rw [ofl_append]; simp [ofl]
theorem ofl_lt (l : List Nat) (h : ∀ x ∈ l, x ≤ 1) : ofl l < 2 ^ l.length := by
  induction l with
  | nil => simp [ofl]
  | cons x t ih =>
    have e : x :: t = [x] ++ t := rfl
    rw [e, ofl_append]
    have := ih (fun y hy => h y (by simp [hy]))
    have hx := h x (by simp)
    simp only [List.length_append, List.length_cons, List.length_nil]
    rw [Nat.pow_add]
    have e1 : ofl [x] = x := by simp [ofl]
    rw [e1]
    rcases Nat.le_one_iff_eq_zero_or_eq_one.1 hx with rfl | rfl <;> omega

theorem bl_take (n b k : Nat) (h : k ≤ n) : (bl n b).take k = bl k (b / 2 ^ (n - k)) := by
  apply List.ext_getElem?
  intro i
  by_cases hi : i < k
  · rw [List.getElem?_take, if_pos hi, bl_get _ _ _ (by omega), bl_get _ _ _ hi]
    unfold bt
    rw [Nat.div_div_eq_div_mul, ← Nat.pow_add]
    have : n - k + (k - 1 - i) = n - 1 - i := by omega
    rw [this]
  · rw [List.getElem?_eq_none (by simp [bl_length]; omega), List.getElem?_eq_none (by simp [bl_length]; omega)]

theorem bl_drop (n b k : Nat) (h : k ≤ n) : (bl n b).drop k = bl (n - k) (b % 2 ^ (n - k)) := by
  apply List.ext_getElem?
  intro i
  by_cases hi : i < n - k
  · rw [List.getElem?_drop, bl_get _ _ _ (by omega), bl_get _ _ _ hi, bt_test, bt_test, Nat.testBit_mod_two_pow]
    have e : n - 1 - (k + i) = n - k - 1 - i := by omega
    rw [e, decide_eq_true (by omega)]
    simp
  · rw [List.getElem?_eq_none (by simp [bl_length]; omega), List.getElem?_eq_none (by simp [bl_length]; omega)]

theorem bl_succ (n b : Nat) : bl (n + 1) b = bl n (b / 2) ++ [b % 2] := by
  have h1 := bl_take (n + 1) b n (by omega)
  have h2 := bl_drop (n + 1) b n (by omega)
  have e : n + 1 - n = 1 := by omega
  rw [e, Nat.pow_one] at h1 h2
  rw [← List.take_append_drop n (bl (n + 1) b), h1, h2]
  simp [bl, bt]

theorem ofl_bl (n b : Nat) (h : b < 2 ^ n) : ofl (bl n b) = b := by
  induction n generalizing b with
  | zero => simp [bl, ofl] at *; omega
  | succ n ih =>
    rw [bl_succ, ofl_snoc, ih (b / 2) (by rw [Nat.pow_succ] at h; omega)]
    omega

theorem ofl_bl_take (n b k : Nat) (hb : b < 2 ^ n) (h : k ≤ n) : ofl ((bl n b).take k) = b / 2 ^ (n - k) := by
  rw [bl_take n b k h, ofl_bl]
  rw [Nat.div_lt_iff_lt_mul (Nat.two_pow_pos _), ← Nat.pow_add]
  have : k + (n - k) = n := by omega
  rw [this]; exact hb
theorem ofl_bl_drop (n b k : Nat) (h : k ≤ n) : ofl ((bl n b).drop k) = b % 2 ^ (n - k) := by
  rw [bl_drop n b k h, ofl_bl]
  exact Nat.mod_lt _ (Nat.two_pow_pos _)

theorem bl_mem (n b : Nat) : ∀ x ∈ bl n b, x ≤ 1 := by
  intro x hx; simp only [bl, List.mem_map] at hx; obtain ⟨i, _, rfl⟩ := hx; exact bt_le _ _ _

theorem bl_flip (n b i : Nat) (h : i < n) : (bl n b).set i (1 - bt n b i) = bl n (b ^^^ 2 ^ (n - 1 - i)) := by
  apply List.ext_getElem?
  intro j
  by_cases hj : j < n
  · rw [List.getElem?_set, bl_get _ _ _ hj, bl_get _ _ _ hj]
    by_cases e : i = j
    · subst e
      rw [if_pos rfl, if_pos (by rw [bl_length]; exact h), bt_test, bt_test, Nat.testBit_xor, Nat.testBit_two_pow_self]
      cases b.testBit (n - 1 - i) <;> rfl
    · rw [if_neg e, bt_test, bt_test, Nat.testBit_xor, Nat.testBit_two_pow_of_ne (by omega)]
      simp
  · rw [List.getElem?_eq_none (by simp [bl_length]; omega), List.getElem?_eq_none (by simp [bl_length]; omega)]

theorem xor_lt (n b i : Nat) (hb : b < 2 ^ n) (h : i < n) : b ^^^ 2 ^ (n - 1 - i) < 2 ^ n :=
  Nat.xor_lt_two_pow hb (Nat.pow_lt_pow_right (by omega) (by omega))

theorem ofl_flip (n b i : Nat) (hb : b < 2 ^ n) (h : i < n) : ofl ((bl n b).set i (1 - bt n b i)) = b ^^^ 2 ^ (n - 1 - i) := by
  rw [bl_flip n b i h, ofl_bl _ _ (xor_lt n b i hb h)]

theorem shl_or (b c m : Nat) (hc : c < 2 ^ m) : b * 2 ^ m ||| c = b * 2 ^ m + c := by
  rw [Nat.mul_comm]; exact (Nat.two_pow_add_eq_or_of_lt hc b).symm

theorem cmn_le (a b : List Nat) : cmn a b ≤ a.length ∧ cmn a b ≤ b.length := by
  induction a generalizing b with
  | nil => simp [cmn]
  | cons x s ih =>
    cases b with
    | nil => simp [cmn]
    | cons y t =>
      simp only [cmn]
      have := ih t
      split <;> simp <;> omega

theorem cmn_same (a b : List Nat) : ∀ i, i < cmn a b → a[i]? = b[i]? := by
  induction a generalizing b with
  | nil => simp [cmn]
  | cons x s ih =>
    cases b with
    | nil => simp [cmn]
    | cons y t =>
      intro i hi
      simp only [cmn] at hi
      split at hi
      · rename_i e
        cases i with
        | zero => simp [e]
        | succ i => simpa using ih t i (by omega)
      · omega

theorem cmn_eq (a b : List Nat) (k : Nat) (h1 : k ≤ a.length) (h2 : k ≤ b.length) (h3 : ∀ i, i < k → a[i]? = b[i]?) (h4 : k = a.length ∨ k = b.length ∨ a[k]? ≠ b[k]?) : cmn a b = k := by
  induction a generalizing b k with
  | nil => simp at h1; simp [cmn, h1]
  | cons x s ih =>
    cases b with
    | nil => simp at h2; simp [cmn, h2]
    | cons y t =>
      cases k with
      | zero =>
        have : x ≠ y := by
          rcases h4 with h4 | h4 | h4
          · simp at h4
          · simp at h4
          · simpa using h4
        simp [cmn, this]
      | succ k =>
        have e : x = y := by simpa using h3 0 (by omega)
        simp only [cmn, if_pos e]
        rw [ih t k (by simpa using h1) (by simpa using h2) (fun i hi => by simpa using h3 (i + 1) (by omega)) (by simpa using h4)]

theorem pre_lt (n b k : Nat) (hb : b < 2 ^ n) (h : k ≤ n) : pre n b k < 2 ^ k := by
  unfold pre
  rw [Nat.div_lt_iff_lt_mul (Nat.two_pow_pos _), ← Nat.pow_add]
  have : k + (n - k) = n := by omega
  rw [this]; exact hb
theorem rst_lt (n b k : Nat) : rst n b k < 2 ^ (n - k) := Nat.mod_lt _ (Nat.two_pow_pos _)
theorem jn_lt (n b m c : Nat) (hb : b < 2 ^ n) (hc : c < 2 ^ m) : jn b m c < 2 ^ (n + m) := by
  unfold jn
  rw [Nat.pow_add]
  have : (b + 1) * 2 ^ m ≤ 2 ^ n * 2 ^ m := Nat.mul_le_mul_right _ hb
  rw [Nat.add_mul] at this
  omega
theorem jn_pre_rst (n b k : Nat) : jn (pre n b k) (n - k) (rst n b k) = b := by
  unfold jn pre rst
  rw [Nat.mul_comm]; exact Nat.div_add_mod _ _
theorem pre_all (n b : Nat) : pre n b n = b := by simp [pre]
theorem p32 (n : Nat) (h : n ≤ 32) : 2 ^ n ≤ 4294967296 := Nat.le_trans (Nat.pow_le_pow_right (by omega) h) (by decide)

theorem rt_nat {n b : Int} (h : rt n b = true) (h0 : 0 ≤ b) : ∃ m c : Nat, n = (m : Int) ∧ b = (c : Int) ∧ m ≤ 32 ∧ c < 2 ^ m := by
  have h := of_decide_eq_true h
  obtain ⟨m, rfl⟩ := Int.eq_ofNat_of_zero_le h.1
  obtain ⟨c, rfl⟩ := Int.eq_ofNat_of_zero_le h0
  refine ⟨m, c, rfl, rfl, by omega, ?_⟩
  have := h.2.2
  rw [Int.toNat_natCast] at this
  exact_mod_cast this
theorem rt_of (m c : Nat) (h : m ≤ 32) (hc : c < 2 ^ m) : rt (m : Int) (c : Int) = true := by
  refine decide_eq_true ⟨by omega, by omega, ?_⟩
  rw [Int.toNat_natCast]
  exact_mod_cast hc

theorem pow_step (k : Nat) (h : k < 63) : IntKind.u64.wrap (2 ^ k * 2) = ((2 ^ (k + 1) : Nat) : Int) := by
  have hp : 2 ^ (k + 1) ≤ 2 ^ 63 := Nat.pow_le_pow_right (by omega) (by omega)
  have e : ((2 : Int) ^ k * 2) = ((2 ^ (k + 1) : Nat) : Int) := by rw [Nat.pow_succ]; simp
  rw [e]
  have hq : 0 < 2 ^ (k + 1) := Nat.two_pow_pos _
  generalize 2 ^ (k + 1) = y at *
  exact wrap_u64 (by omega) (by omega)

set_option maxHeartbeats 400000 in
theorem power_any (n : Int) (h0 : 0 ≤ n) (h1 : n ≤ 63) (w : World) :
    Calls Tryd.prog 28 #[.int .i64 n] w fun e w' => e = .returned (.int .u64 (2 ^ n.toNat : Nat)) ∧ w' = w := by
  obtain ⟨m, rfl⟩ := Int.eq_ofNat_of_zero_le h0
  rw [Int.toNat_natCast]
  have hm : m ≤ 63 := by omega
  clear h0 h1
  go_enter Tryd.func28, Tryd.ntmps28
  go_wp2
  go_loop [0, 3] (fun i x => ∃ k : Nat, k ≤ m ∧ i = .int .i64 ((m - k : Nat) : Int) ∧ x = .int .u64 ((2 ^ k : Nat) : Int)) (fun i _ => (intOf i).toNat)
  case atStart => exact ⟨0, by omega, by simp, rfl⟩
  case round =>
    obtain ⟨k, hk, rfl, rfl⟩ := hrel
    by_cases hlt : k < m
    · have H : Hid (IntKind.u64.wrap (2 ^ k * 2) = ((2 ^ (k + 1) : Nat) : Int)) := pow_step k (by omega)
      go_wp2
      refine ⟨⟨k + 1, by omega, ?_, ?_⟩, ?_⟩
      · rw [show ((m - k : Nat) : Int) - 1 = ((m - (k + 1) : Nat) : Int) from by omega]
      · rw [H.out]
      · simp [intOf]; omega
    · go_wp2
      go_ret
      have e : k = m := by omega
      rw [e]; simp

set_option maxHeartbeats 400000 in
theorem rright_in (n b : Int) (h0 : 0 ≤ n) (h1 : n ≤ 32) (w : World) :
    Calls Tryd.prog 11 #[(.agg #[.int .i64 (n), .int .u64 (b)])] w fun e w' => e = .returned (.bool (decide (b < 2 ^ n.toNat))) ∧ Below w.heap.size w w' := by
  go_enter Tryd.func11, Tryd.ntmps11
  go_wp2
  go_quiet ((go_at_call 28; exact Calls.quiet_of_same (power_any _ (by omega) (by omega) _)))
  go_wp2
  go_ret
  exact ⟨rfl, below_drewN ((Below.refl _ _).alloc (Nat.le_refl _) _) _⟩

set_option maxHeartbeats 400000 in
theorem rright_out (n b : Int) (h : n < 0 ∨ 32 < n) (w : World) :
    Calls Tryd.prog 11 #[(.agg #[.int .i64 (n), .int .u64 (b)])] w fun e w' => e = .returned (.bool false) ∧ Below w.heap.size w w' := by
  rcases h with h | h
  · have h1 : decide (0 ≤ n) = false := by simp; omega
    go_enter Tryd.func11, Tryd.ntmps11
    go_wp2
    go_quiet (fail)
    go_wp2
    go_ret
    exact ⟨rfl, below_drewN ((Below.refl _ _).alloc (Nat.le_refl _) _) _⟩
  · have h0 : 0 ≤ n := by omega
    have h1 : decide (n ≤ 32) = false := by simp; omega
    go_enter Tryd.func11, Tryd.ntmps11
    go_wp2
    go_quiet (fail)
    go_wp2
    go_ret
    exact ⟨rfl, below_drewN ((Below.refl _ _).alloc (Nat.le_refl _) _) _⟩

theorem rright_any (n b : Int) (w : World) :
    Calls Tryd.prog 11 #[(.agg #[.int .i64 (n), .int .u64 (b)])] w fun e w' => e = .returned (.bool (rt n b)) ∧ Below w.heap.size w w' := by
  by_cases h : n < 0 ∨ 32 < n
  · have e : rt n b = false := by unfold rt; simp; omega
    rw [e]; exact rright_out n b h w
  · have e : rt n b = decide (b < 2 ^ n.toNat) := by unfold rt; rw [decide_eq_decide]; constructor <;> intro h' <;> first | exact h'.2.2 | exact ⟨by omega, by omega, h'⟩
    rw [e]; exact rright_in n b (by omega) (by omega) w

theorem xbcell {W w1 : World} (hb : Below W.heap.size W w1) : (∀ b o, b < W.heap.size → w1.cell? ⟨b, o, none⟩ = W.cell? ⟨b, o, none⟩) ∧ (∀ b o, b < W.heap.size → w1.frozen? ⟨b, o, none⟩ = W.frozen? ⟨b, o, none⟩) :=
  ⟨fun b o h => hb.cell (p := ⟨b, o, none⟩) h, fun b o h => hb.frozen (p := ⟨b, o, none⟩) h⟩
theorem xbelow {w w1 : World} (h : w.grownBy w1 none) : Below w.heap.size w w1 := ⟨h.os, h.tape, h.output, h.size, fun k hk => h.block k hk (by simp)⟩
theorem xbx {w w1 : World} {o : Obj} (hb : Below (w.alloc o).heap.size (w.alloc o) w1) : Below w.heap.size w w1 :=
  ((Below.refl _ _).alloc (Nat.le_refl _) _).trans (hb.mono (by simp))

/-- A bit as a cell. -/
def bcel (x : Nat) : Value := .int .i64 (x : Int)
/-- The row of a vector when its last k bits are laid. -/
def rowK (n b k : Nat) : List Value := (List.range n).map fun j => bcel (if j + k < n then 0 else bt n b j)

theorem rowK_zero (n b : Nat) : rowK n b 0 = List.replicate n (.int .i64 0) := by
  apply List.ext_getElem?
  intro j
  by_cases hj : j < n <;> simp [rowK, hj, bcel]
theorem rowK_all (n b : Nat) : rowK n b n = (bl n b).map bcel := by
  simp only [rowK, bl, List.map_map]
  apply List.map_congr_left
  intro j _
  rw [if_neg (by omega)]; rfl
theorem rowK_step (n b k : Nat) (hk : k < n) : (rowK n b k).set (n - 1 - k) (.int .i64 ((b / 2 ^ k % 2 : Nat) : Int)) = rowK n b (k + 1) := by
  apply List.ext_getElem?
  intro j
  by_cases hj : j < n
  · rw [List.getElem?_set]
    by_cases e : n - 1 - k = j
    · have e2 : n - 1 - j = k := by omega
      rw [if_pos e, if_pos (by simp [rowK]; omega)]
      simp only [rowK, List.getElem?_map, List.getElem?_range hj, Option.map_some, bt, e2, bcel]
      rw [if_neg (by omega)]
    · rw [if_neg e]
      simp only [rowK, List.getElem?_map, List.getElem?_range hj, Option.map_some]
      by_cases e3 : j + k < n
      · rw [if_pos e3, if_pos (by omega)]
      · rw [if_neg e3, if_neg (by omega)]
  · simp [rowK, hj]

theorem Tryd.info3 : (Tryd.prog.info? 3).map (fun i => (i.zero, i.size, i.bytes)) = some (some (.int .i64 0), 1, 8) := by kernel_rfl

set_option maxHeartbeats 2000000 in
set_option maxRecDepth 100000 in
theorem bits_any (n b : Nat) (hn : n ≤ 32) (hb : b < 18446744073709551616) (w : World) :
    Calls Tryd.prog 27 #[(.agg #[.int .i64 ((n : Int)), .int .u64 ((b : Int))])] w fun e w' => ∃ g, e = .returned (.slice (some ⟨g, 0, none⟩) n n) ∧ w.heap.size ≤ g ∧
      w'.ownsRow w.heap.size 3 1 (.slice (some ⟨g, 0, none⟩) n n) n ((bl n b).map bcel) ∧ Below w.heap.size w w' := by
  obtain ⟨i0, hi, hz0, hz1, hz2⟩ := info_parts Tryd.info3
  go_enter Tryd.func27, Tryd.ntmps27
  go_wp2_with (at_make; refine wpList_make_full _ rfl _ _ 67 rfl w.heap.size 3 i0 (.int .i64 0) 1 Tryd.underlying67 hi hz0 hz1 .i64 .i64 _ _ n rfl rfl rfl rfl (by rw [hz2]; omega) (by unfold maxLen; omega) (by simp) ?_)
  intro w1 hown hgrow
  have hb1 := xbelow hgrow
  obtain ⟨hc, hf⟩ := xbcell hb1
  have hbw := xbx hb1
  have hz : w.heap.size + 1 + 1 ≤ w1.heap.size := by
    have := (hown.lt (w.heap.size + 1) (by simp [Value.ownBlock])).2
    omega
  clear hgrow hb1 hf
  have hown : w1.ownsRow w.heap.size 3 1 (.slice (some ⟨w.heap.size + 1, 0, none⟩) n n) n (rowK n b 0) := by
    rw [rowK_zero, ← toList_madeCells_one]
    simpa [Value.cells] using hown
  go_wp2
  go_loopw [4, 5] (fun x i wr => ∃ k : Nat, k ≤ n ∧ i = .int .i64 ((n : Int) - 1 - k) ∧ x = .int .u64 ((b / 2 ^ k : Nat) : Int) ∧
      wr.ownsRow w.heap.size 3 1 (.slice (some ⟨w.heap.size + 1, 0, none⟩) n n) n (rowK n b k) ∧ Below w.heap.size w wr)
    (fun _ i _ => (intOf i + 1).toNat)
  case atStart => exact ⟨0, by omega, by simp, by simp, hown, hbw⟩
  case round =>
    clear hown hbw hc hz
    obtain ⟨k, hk, rfl, rfl, hown, hbw⟩ := hrel
    by_cases hlt : k < n
    · have hst := hown.stored (n - 1 - k) (.int .i64 ((b / 2 ^ k % 2 : Nat) : Int))
      have hfz := hown.frozenAt (n - 1 - k)
      rw [rowK_step n b k hlt] at hst
      obtain ⟨hst, _⟩ := hst
      obtain ⟨u, hcl⟩ : ∃ u, wr.cell? ⟨w.heap.size + 1, n - 1 - k, none⟩ = some u := by
        rw [hown.cellAt (n - 1 - k) (by omega)]
        simp [rowK, show n - 1 - k < n from by omega]
      have em : ((b / 2 ^ k % 2 : Nat) : Int) = ((b / 2 ^ k : Nat) : Int) % 2 := by omega
      rw [em] at hst
      have HS := hide hst
      clear hst em
      have H2 : Hid (b / 2 ^ (k + 1) = b / 2 ^ k / 2) := by
        show _ = _
        rw [Nat.div_div_eq_div_mul, Nat.pow_succ]
      have hq : b / 2 ^ k < 18446744073709551616 := Nat.lt_of_le_of_lt (Nat.div_le_self _ _) hb
      rw [show ((n : Int) - 1 - k) = ((n - 1 - k : Nat) : Int) from by omega]
      generalize hj : n - 1 - k = j at *
      have hj2 : j < n := by omega
      have HJ := hide hj
      clear hj hb
      generalize b / 2 ^ k = q at *
      go_wp2
      refine ⟨⟨k + 1, by omega, ?_, ?_, HS.out, ?_⟩, ?_⟩
      · have := HJ.out; rw [show ((j : Int) - 1) = (n : Int) - 1 - ((k + 1 : Nat) : Int) from by omega]
      · rw [H2.out]; simp
      · exact hbw.setCell (by simp) _
      · simp [intOf]
    · go_wp2
      go_ret
      have e : k = n := by omega
      subst e
      rw [rowK_all] at hown
      exact ⟨_, rfl, by omega, hown, hbw⟩

/-- What a slice of numbers holds. -/
def Row (w : World) (g o : Nat) (l : List Nat) : Prop := ∀ j, j < l.length → w.cell? ⟨g, o + j, none⟩ = some (bcel (l.getD j 0))
theorem ownsRow_below {w w' : World} {B e size : Nat} {v : Value} {n : Nat} {xs : List Value} (h : w.ownsRow B e size v n xs) (hb : Below w.heap.size w w') : w'.ownsRow B e size v n xs :=
  h.kept (row := none) ⟨hb.os, hb.tape, hb.output, hb.size, fun k hk _ => hb.block k hk⟩ (by
    rcases h.2 with ⟨rfl, _⟩ | ⟨g, cap, cur, rfl, _⟩
    · exact Or.inl rfl
    · exact Or.inr (by simp [Value.ownBlock]))
theorem row_of {w : World} {base g n cap : Nat} {l : List Nat} (h : w.ownsRow base 3 1 (.slice (some ⟨g, 0, none⟩) n cap) n (l.map bcel)) : l.length = n ∧ Row w g 0 l ∧ g < w.heap.size ∧ (∀ j, w.frozen? ⟨g, j, none⟩ = false) := by
  have hl : l.length = n := by simpa using h.1
  refine ⟨hl, ?_, (h.lt g (by simp [Value.ownBlock])).2, fun j => h.frozenAt j⟩
  intro j hj
  rw [Nat.zero_add, h.cellAt j (by omega)]
  simp [hj]

section
attribute [local go_sem ↓] Go.wp_at_zero Go.wp_at_succ
theorem getD_get (l : List Nat) (i : Nat) (h : i < l.length) : l[i]? = some (l.getD i 0) := by simp [h]
theorem neb (x y : Nat) (h : x ≠ y) : ((x : Int) == (y : Int)) = false := by simp; omega

set_option maxHeartbeats 800000 in
theorem rcommon_any (g g2 n m cap cap2 : Nat) (l r : List Nat) (w : World) (hl : l.length = n) (hr : r.length = m) (hn : n ≤ 60) (hm : m ≤ 60) (hrow : Row w g 0 l) (hrow2 : Row w g2 0 r) :
    Calls Tryd.prog 26 #[.slice (some ⟨g, 0, none⟩) n cap, .slice (some ⟨g2, 0, none⟩) m cap2] w fun e w' => e = .returned (.int .i64 (cmn l r : Nat)) ∧ Below w.heap.size w w' := by
  go_enter Tryd.func26, Tryd.ntmps26
  go_wp2
  go_loopw [5] (fun i wr => ∃ k : Nat, k ≤ n ∧ k ≤ m ∧ i = .int .i64 (k : Int) ∧ (∀ j, j < k → l[j]? = r[j]?) ∧ Below w.heap.size w wr ∧ ∃ q, wr = w.drewN q)
    (fun i _ => n - (intOf i).toNat)
  case atStart => exact ⟨0, by omega, by omega, rfl, by omega, Below.refl _ _, 0, rfl⟩
  case round =>
    obtain ⟨k, hk, hk2, rfl, hsame, hb, q, rfl⟩ := hrel
    have HS := hide hsame
    clear hsame
    by_cases h1 : k < n
    · by_cases h2 : k < m
      · have c1 := hrow k (by omega)
        have c2 := hrow2 k (by omega)
        simp only [bcel, Nat.zero_add] at c1 c2
        have G1 := hide (getD_get l k (by omega))
        have G2 := hide (getD_get r k (by omega))
        have i1 : (k : Int) < n := by omega
        have i2 : (k : Int) < m := by omega
        have i3 : (0 : Int) ≤ k := by omega
        have HR := hide hrow
        have HR2 := hide hrow2
        clear hrow hrow2
        generalize l.getD k 0 = x at *
        generalize r.getD k 0 = y at *
        by_cases h3 : x = y
        · subst h3
          go_wp2
          go_quiet (fail)
          go_wp2
          refine ⟨⟨k + 1, by omega, by omega, by simp, ?_, below_drewN (Below.refl _ _) _, _, rfl⟩, ?_⟩
          · intro j hj
            by_cases e : j = k
            · rw [e, G1.out, G2.out]
            · exact HS.out j (by omega)
          · simp [intOf]; omega
        · have h4 := neb x y h3
          have HE : Hid (cmn l r = k) := cmn_eq l r k (by omega) (by omega) HS.out (by right; right; rw [G1.out, G2.out]; simpa using h3)
          go_wp2
          go_quiet (fail)
          go_wp2
          go_ret
          exact ⟨ret_int (by rw [HE.out]), below_drewN (below_drewN (Below.refl _ _) _) _⟩
      · have i1 : decide ((k : Int) < m) = false := by simp; omega
        have i2 : (k : Int) < n := by omega
        have HE : Hid (cmn l r = k) := cmn_eq l r k (by omega) (by omega) HS.out (by right; left; omega)
        go_wp2
        go_quiet (fail)
        go_wp2
        go_ret
        exact ⟨ret_int (by rw [HE.out]), below_drewN (below_drewN (Below.refl _ _) _) _⟩
    · have i1 : decide ((k : Int) < n) = false := by simp; omega
      have HE : Hid (cmn l r = k) := cmn_eq l r k (by omega) (by omega) HS.out (by left; omega)
      go_wp2
      go_quiet (fail)
      go_wp2
      go_ret
      exact ⟨ret_int (by rw [HE.out]), below_drewN (below_drewN (Below.refl _ _) _) _⟩

end

theorem cmn_pre (n b m c : Nat) (hb : b < 2 ^ n) (hc : c < 2 ^ m) : cmn (bl n b) (bl m c) = m ↔ m ≤ n ∧ pre n b m = c := by
  have hl := cmn_le (bl n b) (bl m c)
  rw [bl_length, bl_length] at hl
  constructor
  · intro h
    have hm : m ≤ n := by omega
    refine ⟨hm, ?_⟩
    have e : bl m (pre n b m) = bl m c := by
      unfold pre
      rw [← bl_take n b m hm]
      apply List.ext_getElem?
      intro i
      by_cases hi : i < m
      · rw [List.getElem?_take, if_pos hi]
        exact cmn_same _ _ i (by omega)
      · rw [List.getElem?_eq_none (by rw [List.length_take, bl_length]; omega), List.getElem?_eq_none (by rw [bl_length]; omega)]
    have h1 := congrArg ofl e
    rw [ofl_bl m c hc] at h1
    rw [ofl_bl _ _ (pre_lt n b m hb hm)] at h1
    exact h1
  · rintro ⟨hm, rfl⟩
    apply cmn_eq
    · rw [bl_length]; exact hm
    · rw [bl_length]; exact Nat.le_refl _
    · intro i hi
      have e : ((bl n b).take m)[i]? = (bl m (b / 2 ^ (n - m)))[i]? := by rw [bl_take n b m hm]
      rw [List.getElem?_take, if_pos hi] at e
      exact e
    · right; left; rw [bl_length]

/-- Two vectors that may both be, as numbers. -/
theorem both_nat {n b m c : Int} (h : rbS n b m c = 0) (hb : 0 ≤ b) (hc : 0 ≤ c) : ∃ n' b' m' c' : Nat, n = n' ∧ b = b' ∧ m = m' ∧ c = c' ∧ n' ≤ 32 ∧ m' ≤ 32 ∧ b' < 2 ^ n' ∧ c' < 2 ^ m' ∧ b' < 18446744073709551616 ∧ c' < 18446744073709551616 := by
  obtain ⟨h1, h2⟩ := rbS_zero.1 h
  obtain ⟨n', b', rfl, rfl, e1, e2⟩ := rt_nat h1 hb
  obtain ⟨m', c', rfl, rfl, e3, e4⟩ := rt_nat h2 hc
  have := p32 n' e1
  have := p32 m' e3
  exact ⟨n', b', m', c', rfl, rfl, rfl, rfl, e1, e3, e2, e4, by omega, by omega⟩

theorem ld_vec2 {w : World} {b : Nat} {r n : Int} (I : IsB w b #[.int .i64 r, .int .u64 n] 28) : (Instr.loadAt 28 (.pointer (some ⟨b, 0, none⟩))).run Tryd.prog w = .ok (.agg #[.int .i64 r, .int .u64 n]) w := load_mid (cs := [.int .i64 r, .int .u64 n]) I 0 _ [.int .i64 r, .int .u64 n] _ rfl Tryd.underlying28 rfl (by kernel_rfl)

theorem IsB.gr {w w' : World} {b : Nat} {cs : Array Value} {t : TypeId} (h : IsB w b cs t) (hg : Gr w w') : IsB w' b cs t := (hg.heap h.lt).trans h
theorem IsB.alloc {w : World} {b : Nat} {cs : Array Value} {t : TypeId} (h : IsB w b cs t) (o : Obj) : IsB (w.alloc o) b cs t := h.gr ((Gr.refl w).alloc o)
theorem IsB.set0of2 {w : World} {b : Nat} {x y : Value} {t : TypeId} (h : IsB w b #[x, y] t) (v : Value) : IsB (w.setCell ⟨b, 0, none⟩ v) b #[v, y] t := by
  unfold IsB at *
  rw [Sort.setCell_eq]
  simp only [Sort.mapBlock, Array.getElem?_modify, if_true, h, Option.map_some, Sort.onCells]
  rfl
theorem IsB.set1of2 {w : World} {b : Nat} {x y : Value} {t : TypeId} (h : IsB w b #[x, y] t) (v : Value) : IsB (w.setCell ⟨b, 1, none⟩ v) b #[x, v] t := by
  unfold IsB at *
  rw [Sort.setCell_eq]
  simp only [Sort.mapBlock, Array.getElem?_modify, if_true, h, Option.map_some, Sort.onCells]
  rfl







theorem vt_res {fn : Func} {p u : Tmp} (hf : fn.results = #[.cell p 28, .tmp u]) {Q : Ending → World → Prop} {tmps : Array Value} {w : World} {b : Nat} {cs : Array Value} {v : Value} (hs : cs.size = 2)
    (hp : tmps.getD p undef = .pointer (some ⟨b, 0, none⟩)) (hu : tmps.getD u undef = v) (I : IsB w b cs 28) (hQ : Q (.returned (.tuple #[.agg cs, v])) w) :
    bodyPost Tryd.prog fn Q .ret ⟨tmps, []⟩ w := ret_vt hf hs hp hu I hQ
theorem ld_v2 {w : World} {b : Nat} {x y : Int} (I : IsB w b #[.int .i64 x, .int .u64 y] 28) : (Instr.loadAt 28 (.pointer (some ⟨b, 0, none⟩))).run Tryd.prog w = .ok (.agg #[.int .i64 (x), .int .u64 (y)]) w := load_mid (cs := [.int .i64 x, .int .u64 y]) I 0 _ [.int .i64 x, .int .u64 y] _ rfl Tryd.underlying28 rfl (by kernel_rfl)



set_option maxHeartbeats 2000000 in
set_option maxRecDepth 100000 in
theorem rBegins_a (n b m c : Int) (h1 : rt n b = false) (w : World) : Calls Tryd.prog 10 #[(.agg #[.int .i64 (n), .int .u64 (b)]), (.agg #[.int .i64 (m), .int .u64 (c)])] w fun e w' => e = .returned (.bool false) ∧ Below w.heap.size w w' := by
  have Q1 := hide h1
  clear h1
  have mixed : Tryd.prog.follows .mixedOrders = true := by kernel_rfl
  have b1 := (((Below.refl w.heap.size w).alloc (Nat.le_refl _) (.cells #[.int .i64 n, .int .u64 b] 28)).alloc (by simp) (.cells #[.int .i64 m, .int .u64 c] 28)).drew
  have A0 := ((IsB.new w #[.int .i64 n, .int .u64 b] 28).below ((Below.refl _ _).alloc (Nat.le_refl _) (.cells #[.int .i64 m, .int .u64 c] 28))).below ((Below.refl _ _).drew)
  have C0 := (IsB.new (w.alloc (.cells #[.int .i64 n, .int .u64 b] 28)) #[.int .i64 m, .int .u64 c] 28).below ((Below.refl _ _).drew)
  rw [World.size_alloc] at C0
  have A := hide A0
  have C := hide C0
  have B := hide b1
  clear A0 C0 b1
  go_enter Tryd.func10, Tryd.ntmps10
  go_wp2_with fail
  obtain ⟨H, hH⟩ : ∃ H, w.heap.size = H := ⟨_, rfl⟩
  rw [hH] at A C ⊢
  replace hH := hide hH
  refine regionL 17 (fun w' => IsB w' H #[.int .i64 n, .int .u64 b] 28 ∧ IsB w' (H + 1) #[.int .i64 m, .int .u64 c] 28) mixed ⟨A.out, C.out⟩ (fun hHeld => ?_)
  generalize ((w.alloc (.cells #[.int .i64 n, .int .u64 b] 28)).alloc (.cells #[.int .i64 m, .int .u64 c] 28)).drew = WD at *
  refine pickL (v := .agg #[.int .i64 n, .int .u64 b]) 0 (some 5) rfl rfl (by kernel_rfl) (by kernel_rfl) (by kernel_rfl) (by decide) (by kernel_rfl) (by kernel_rfl) (fun _ _ _ h => h) (by rfl) ?_ (by assumption) ?_
  · intro w' hSw
    obtain ⟨q0, q1⟩ := hSw
    have z0 : w'.cell? ⟨H + 1, 0, none⟩ = some (.int .i64 m) := q1.cell 0
    exact exec_load rfl rfl (ld_vec2 q0)
  try simp only [Act.put, List.setIfInBounds_toArray, List.set_cons_zero, List.set_cons_succ]
  refine oneL (i := 1) (by kernel_rfl) rfl (fun K hK => ?_)
  go_simp
  refine (rright_any n b WD).mono ?_
  rintro e w2 ⟨rfl, hb⟩
  rw [Q1.out]
  replace A := hide (A.out.below hb)
  replace C := hide (C.out.below hb)
  replace B := hide (B.out.trans (hb.mono B.out.size))
  clear hb
  refine hK.out _ _ ?_ ?_
  · exact ⟨A.out, C.out⟩
  clear hK K
  try simp only [Act.put, List.setIfInBounds_toArray, List.set_cons_zero, List.set_cons_succ]
  clear hHeld
  have hHeld : (fun w' => IsB w' H #[.int .i64 n, .int .u64 b] 28 ∧ IsB w' (H + 1) #[.int .i64 m, .int .u64 c] 28) w2 := ⟨A.out, C.out⟩
  refine pickA (v := ?_) 2 (some 7) rfl rfl (by kernel_rfl) (by kernel_rfl) (by kernel_rfl) (by decide) (fun _ _ _ h => h) (by rfl) ?_ (by assumption) ?_
  rotate_left
  · intro w'
    go_simp
    try with_reducible rfl
  try simp only [Act.put, List.setIfInBounds_toArray, List.set_cons_zero, List.set_cons_succ]
  refine pickN 3 (some 8) rfl rfl (by kernel_rfl) (by kernel_rfl) (by kernel_rfl) (by decide) (fun _ _ _ h => h) (by rfl) (by assumption) ?_
  try simp only [Act.put, List.setIfInBounds_toArray, List.set_cons_zero, List.set_cons_succ]
  refine pickN 4 (some 9) rfl rfl (by kernel_rfl) (by kernel_rfl) (by kernel_rfl) (by decide) (fun _ _ _ h => h) (by rfl) (by assumption) ?_
  try simp only [Act.put, List.setIfInBounds_toArray, List.set_cons_zero, List.set_cons_succ]
  refine pickA (v := ?_) 5 (some 10) rfl rfl (by kernel_rfl) (by kernel_rfl) (by kernel_rfl) (by decide) (fun _ _ _ h => h) (by rfl) ?_ (by assumption) ?_
  rotate_left
  · intro w'
    go_simp
    try with_reducible rfl
  try simp only [Act.put, List.setIfInBounds_toArray, List.set_cons_zero, List.set_cons_succ]
  refine pickA (v := ?_) 6 (some 11) rfl rfl (by kernel_rfl) (by kernel_rfl) (by kernel_rfl) (by decide) (fun _ _ _ h => h) (by rfl) ?_ (by assumption) ?_
  rotate_left
  · intro w'
    go_simp
    try with_reducible rfl
  try simp only [Act.put, List.setIfInBounds_toArray, List.set_cons_zero, List.set_cons_succ]
  refine pickN 7 (some 12) rfl rfl (by kernel_rfl) (by kernel_rfl) (by kernel_rfl) (by decide) (fun _ _ _ h => h) (by rfl) (by assumption) ?_
  try simp only [Act.put, List.setIfInBounds_toArray, List.set_cons_zero, List.set_cons_succ]
  refine pickN 8 (some 13) rfl rfl (by kernel_rfl) (by kernel_rfl) (by kernel_rfl) (by decide) (fun _ _ _ h => h) (by rfl) (by assumption) ?_
  try simp only [Act.put, List.setIfInBounds_toArray, List.set_cons_zero, List.set_cons_succ]
  refine pickN 9 (some 14) rfl rfl (by kernel_rfl) (by kernel_rfl) (by kernel_rfl) (by decide) (fun _ _ _ h => h) (by rfl) (by assumption) ?_
  try simp only [Act.put, List.setIfInBounds_toArray, List.set_cons_zero, List.set_cons_succ]
  refine pickN 10 (some 15) rfl rfl (by kernel_rfl) (by kernel_rfl) (by kernel_rfl) (by decide) (fun _ _ _ h => h) (by rfl) (by assumption) ?_
  try simp only [Act.put, List.setIfInBounds_toArray, List.set_cons_zero, List.set_cons_succ]
  refine pickN 11 (some 16) rfl rfl (by kernel_rfl) (by kernel_rfl) (by kernel_rfl) (by decide) (fun _ _ _ h => h) (by rfl) (by assumption) ?_
  try simp only [Act.put, List.setIfInBounds_toArray, List.set_cons_zero, List.set_cons_succ]
  refine pickN 12 (some 17) rfl rfl (by kernel_rfl) (by kernel_rfl) (by kernel_rfl) (by decide) (fun _ _ _ h => h) (by rfl) (by assumption) ?_
  try simp only [Act.put, List.setIfInBounds_toArray, List.set_cons_zero, List.set_cons_succ]
  refine pickN 13 (some 18) rfl rfl (by kernel_rfl) (by kernel_rfl) (by kernel_rfl) (by decide) (fun _ _ _ h => h) (by rfl) (by assumption) ?_
  try simp only [Act.put, List.setIfInBounds_toArray, List.set_cons_zero, List.set_cons_succ]
  refine pickN 14 (some 19) rfl rfl (by kernel_rfl) (by kernel_rfl) (by kernel_rfl) (by decide) (fun _ _ _ h => h) (by rfl) (by assumption) ?_
  try simp only [Act.put, List.setIfInBounds_toArray, List.set_cons_zero, List.set_cons_succ]
  refine pickA (v := ?_) 15 (some 20) rfl rfl (by kernel_rfl) (by kernel_rfl) (by kernel_rfl) (by decide) (fun _ _ _ h => h) (by rfl) ?_ (by assumption) ?_
  rotate_left
  · intro w'
    go_simp
    try with_reducible rfl
  try simp only [Act.put, List.setIfInBounds_toArray, List.set_cons_zero, List.set_cons_succ]
  refine pickA (v := ?_) 16 (some 4) rfl rfl (by kernel_rfl) (by kernel_rfl) (by kernel_rfl) (by decide) (fun _ _ _ h => h) (by rfl) ?_ (by assumption) ?_
  rotate_left
  · intro w'
    go_simp
    try with_reducible rfl
  try simp only [Act.put, List.setIfInBounds_toArray, List.set_cons_zero, List.set_cons_succ]
  refine doneL (by kernel_rfl) ?_ _
  clear hHeld
  go_wp2
  go_ret
  exact ⟨rfl, B.out⟩

set_option maxHeartbeats 2000000 in
set_option maxRecDepth 100000 in
theorem rBegins_b (n b m c : Int) (h1 : rt n b = true) (h2 : rt m c = false) (w : World) : Calls Tryd.prog 10 #[(.agg #[.int .i64 (n), .int .u64 (b)]), (.agg #[.int .i64 (m), .int .u64 (c)])] w fun e w' => e = .returned (.bool false) ∧ Below w.heap.size w w' := by
  have Q1 := hide h1
  have Q2 := hide h2
  clear h1 h2
  have mixed : Tryd.prog.follows .mixedOrders = true := by kernel_rfl
  have b1 := (((Below.refl w.heap.size w).alloc (Nat.le_refl _) (.cells #[.int .i64 n, .int .u64 b] 28)).alloc (by simp) (.cells #[.int .i64 m, .int .u64 c] 28)).drew
  have A0 := ((IsB.new w #[.int .i64 n, .int .u64 b] 28).below ((Below.refl _ _).alloc (Nat.le_refl _) (.cells #[.int .i64 m, .int .u64 c] 28))).below ((Below.refl _ _).drew)
  have C0 := (IsB.new (w.alloc (.cells #[.int .i64 n, .int .u64 b] 28)) #[.int .i64 m, .int .u64 c] 28).below ((Below.refl _ _).drew)
  rw [World.size_alloc] at C0
  have A := hide A0
  have C := hide C0
  have B := hide b1
  clear A0 C0 b1
  go_enter Tryd.func10, Tryd.ntmps10
  go_wp2_with fail
  obtain ⟨H, hH⟩ : ∃ H, w.heap.size = H := ⟨_, rfl⟩
  rw [hH] at A C ⊢
  replace hH := hide hH
  refine regionL 17 (fun w' => IsB w' H #[.int .i64 n, .int .u64 b] 28 ∧ IsB w' (H + 1) #[.int .i64 m, .int .u64 c] 28) mixed ⟨A.out, C.out⟩ (fun hHeld => ?_)
  generalize ((w.alloc (.cells #[.int .i64 n, .int .u64 b] 28)).alloc (.cells #[.int .i64 m, .int .u64 c] 28)).drew = WD at *
  refine pickL (v := .agg #[.int .i64 n, .int .u64 b]) 0 (some 5) rfl rfl (by kernel_rfl) (by kernel_rfl) (by kernel_rfl) (by decide) (by kernel_rfl) (by kernel_rfl) (fun _ _ _ h => h) (by rfl) ?_ (by assumption) ?_
  · intro w' hSw
    obtain ⟨q0, q1⟩ := hSw
    have z0 : w'.cell? ⟨H + 1, 0, none⟩ = some (.int .i64 m) := q1.cell 0
    exact exec_load rfl rfl (ld_vec2 q0)
  try simp only [Act.put, List.setIfInBounds_toArray, List.set_cons_zero, List.set_cons_succ]
  refine oneL (i := 1) (by kernel_rfl) rfl (fun K hK => ?_)
  go_simp
  refine (rright_any n b WD).mono ?_
  rintro e w2 ⟨rfl, hb⟩
  rw [Q1.out]
  replace A := hide (A.out.below hb)
  replace C := hide (C.out.below hb)
  replace B := hide (B.out.trans (hb.mono B.out.size))
  clear hb
  refine hK.out _ _ ?_ ?_
  · exact ⟨A.out, C.out⟩
  clear hK K
  try simp only [Act.put, List.setIfInBounds_toArray, List.set_cons_zero, List.set_cons_succ]
  clear hHeld
  have hHeld : (fun w' => IsB w' H #[.int .i64 n, .int .u64 b] 28 ∧ IsB w' (H + 1) #[.int .i64 m, .int .u64 c] 28) w2 := ⟨A.out, C.out⟩
  refine pickA (v := ?_) 2 (some 7) rfl rfl (by kernel_rfl) (by kernel_rfl) (by kernel_rfl) (by decide) (fun _ _ _ h => h) (by rfl) ?_ (by assumption) ?_
  rotate_left
  · intro w'
    go_simp
    try with_reducible rfl
  try simp only [Act.put, List.setIfInBounds_toArray, List.set_cons_zero, List.set_cons_succ]
  refine pickL (v := .agg #[.int .i64 m, .int .u64 c]) 3 (some 8) rfl rfl (by kernel_rfl) (by kernel_rfl) (by kernel_rfl) (by decide) (by kernel_rfl) (by kernel_rfl) (fun _ _ _ h => h) (by rfl) ?_ (by assumption) ?_
  · intro w' hSw
    obtain ⟨q0, q1⟩ := hSw
    have z0 : w'.cell? ⟨H + 1, 0, none⟩ = some (.int .i64 m) := q1.cell 0
    exact exec_load rfl rfl (ld_vec2 q1)
  try simp only [Act.put, List.setIfInBounds_toArray, List.set_cons_zero, List.set_cons_succ]
  refine oneL (i := 4) (by kernel_rfl) rfl (fun K hK => ?_)
  go_simp
  refine (rright_any m c w2).mono ?_
  rintro e w3 ⟨rfl, hb⟩
  rw [Q2.out]
  replace A := hide (A.out.below hb)
  replace C := hide (C.out.below hb)
  replace B := hide (B.out.trans (hb.mono B.out.size))
  clear hb
  refine hK.out _ _ ?_ ?_
  · exact ⟨A.out, C.out⟩
  clear hK K
  try simp only [Act.put, List.setIfInBounds_toArray, List.set_cons_zero, List.set_cons_succ]
  clear hHeld
  have hHeld : (fun w' => IsB w' H #[.int .i64 n, .int .u64 b] 28 ∧ IsB w' (H + 1) #[.int .i64 m, .int .u64 c] 28) w3 := ⟨A.out, C.out⟩
  refine pickA (v := ?_) 5 (some 10) rfl rfl (by kernel_rfl) (by kernel_rfl) (by kernel_rfl) (by decide) (fun _ _ _ h => h) (by rfl) ?_ (by assumption) ?_
  rotate_left
  · intro w'
    go_simp
    try with_reducible rfl
  try simp only [Act.put, List.setIfInBounds_toArray, List.set_cons_zero, List.set_cons_succ]
  refine pickA (v := ?_) 6 (some 11) rfl rfl (by kernel_rfl) (by kernel_rfl) (by kernel_rfl) (by decide) (fun _ _ _ h => h) (by rfl) ?_ (by assumption) ?_
  rotate_left
  · intro w'
    go_simp
    try with_reducible rfl
  try simp only [Act.put, List.setIfInBounds_toArray, List.set_cons_zero, List.set_cons_succ]
  refine pickN 7 (some 12) rfl rfl (by kernel_rfl) (by kernel_rfl) (by kernel_rfl) (by decide) (fun _ _ _ h => h) (by rfl) (by assumption) ?_
  try simp only [Act.put, List.setIfInBounds_toArray, List.set_cons_zero, List.set_cons_succ]
  refine pickN 8 (some 13) rfl rfl (by kernel_rfl) (by kernel_rfl) (by kernel_rfl) (by decide) (fun _ _ _ h => h) (by rfl) (by assumption) ?_
  try simp only [Act.put, List.setIfInBounds_toArray, List.set_cons_zero, List.set_cons_succ]
  refine pickN 9 (some 14) rfl rfl (by kernel_rfl) (by kernel_rfl) (by kernel_rfl) (by decide) (fun _ _ _ h => h) (by rfl) (by assumption) ?_
  try simp only [Act.put, List.setIfInBounds_toArray, List.set_cons_zero, List.set_cons_succ]
  refine pickN 10 (some 15) rfl rfl (by kernel_rfl) (by kernel_rfl) (by kernel_rfl) (by decide) (fun _ _ _ h => h) (by rfl) (by assumption) ?_
  try simp only [Act.put, List.setIfInBounds_toArray, List.set_cons_zero, List.set_cons_succ]
  refine pickN 11 (some 16) rfl rfl (by kernel_rfl) (by kernel_rfl) (by kernel_rfl) (by decide) (fun _ _ _ h => h) (by rfl) (by assumption) ?_
  try simp only [Act.put, List.setIfInBounds_toArray, List.set_cons_zero, List.set_cons_succ]
  refine pickN 12 (some 17) rfl rfl (by kernel_rfl) (by kernel_rfl) (by kernel_rfl) (by decide) (fun _ _ _ h => h) (by rfl) (by assumption) ?_
  try simp only [Act.put, List.setIfInBounds_toArray, List.set_cons_zero, List.set_cons_succ]
  refine pickN 13 (some 18) rfl rfl (by kernel_rfl) (by kernel_rfl) (by kernel_rfl) (by decide) (fun _ _ _ h => h) (by rfl) (by assumption) ?_
  try simp only [Act.put, List.setIfInBounds_toArray, List.set_cons_zero, List.set_cons_succ]
  refine pickN 14 (some 19) rfl rfl (by kernel_rfl) (by kernel_rfl) (by kernel_rfl) (by decide) (fun _ _ _ h => h) (by rfl) (by assumption) ?_
  try simp only [Act.put, List.setIfInBounds_toArray, List.set_cons_zero, List.set_cons_succ]
  refine pickA (v := ?_) 15 (some 20) rfl rfl (by kernel_rfl) (by kernel_rfl) (by kernel_rfl) (by decide) (fun _ _ _ h => h) (by rfl) ?_ (by assumption) ?_
  rotate_left
  · intro w'
    go_simp
    try with_reducible rfl
  try simp only [Act.put, List.setIfInBounds_toArray, List.set_cons_zero, List.set_cons_succ]
  refine pickA (v := ?_) 16 (some 4) rfl rfl (by kernel_rfl) (by kernel_rfl) (by kernel_rfl) (by decide) (fun _ _ _ h => h) (by rfl) ?_ (by assumption) ?_
  rotate_left
  · intro w'
    go_simp
    try with_reducible rfl
  try simp only [Act.put, List.setIfInBounds_toArray, List.set_cons_zero, List.set_cons_succ]
  refine doneL (by kernel_rfl) ?_ _
  clear hHeld
  go_wp2
  go_ret
  exact ⟨rfl, B.out⟩

set_option maxHeartbeats 2000000 in
set_option maxRecDepth 100000 in
theorem rBegins_c (N Bn Mn Cn : Nat) (hN : N ≤ 32) (hM : Mn ≤ 32) (hBn : Bn < 18446744073709551616) (hCn : Cn < 18446744073709551616) (h1 : rt (N : Int) (Bn : Int) = true) (h2 : rt (Mn : Int) (Cn : Int) = true) (w : World) : Calls Tryd.prog 10 #[(.agg #[.int .i64 ((N : Int)), .int .u64 ((Bn : Int))]), (.agg #[.int .i64 ((Mn : Int)), .int .u64 ((Cn : Int))])] w fun e w' => e = .returned (.bool (((cmn (bl N Bn) (bl Mn Cn) : Nat) : Int) == (Mn : Int))) ∧ Below w.heap.size w w' := by
  have Q1 := hide h1
  have Q2 := hide h2
  clear h1 h2
  have mixed : Tryd.prog.follows .mixedOrders = true := by kernel_rfl
  have b1 := (((Below.refl w.heap.size w).alloc (Nat.le_refl _) (.cells #[.int .i64 (N : Int), .int .u64 (Bn : Int)] 28)).alloc (by simp) (.cells #[.int .i64 (Mn : Int), .int .u64 (Cn : Int)] 28)).drew
  have A0 := ((IsB.new w #[.int .i64 (N : Int), .int .u64 (Bn : Int)] 28).below ((Below.refl _ _).alloc (Nat.le_refl _) (.cells #[.int .i64 (Mn : Int), .int .u64 (Cn : Int)] 28))).below ((Below.refl _ _).drew)
  have C0 := (IsB.new (w.alloc (.cells #[.int .i64 (N : Int), .int .u64 (Bn : Int)] 28)) #[.int .i64 (Mn : Int), .int .u64 (Cn : Int)] 28).below ((Below.refl _ _).drew)
  rw [World.size_alloc] at C0
  have A := hide A0
  have C := hide C0
  have B := hide b1
  clear A0 C0 b1
  go_enter Tryd.func10, Tryd.ntmps10
  go_wp2_with fail
  obtain ⟨H, hH⟩ : ∃ H, w.heap.size = H := ⟨_, rfl⟩
  rw [hH] at A C ⊢
  replace hH := hide hH
  refine regionL 17 (fun w' => IsB w' H #[.int .i64 (N : Int), .int .u64 (Bn : Int)] 28 ∧ IsB w' (H + 1) #[.int .i64 (Mn : Int), .int .u64 (Cn : Int)] 28) mixed ⟨A.out, C.out⟩ (fun hHeld => ?_)
  generalize ((w.alloc (.cells #[.int .i64 (N : Int), .int .u64 (Bn : Int)] 28)).alloc (.cells #[.int .i64 (Mn : Int), .int .u64 (Cn : Int)] 28)).drew = WD at *
  refine pickL (v := .agg #[.int .i64 (N : Int), .int .u64 (Bn : Int)]) 0 (some 5) rfl rfl (by kernel_rfl) (by kernel_rfl) (by kernel_rfl) (by decide) (by kernel_rfl) (by kernel_rfl) (fun _ _ _ h => h) (by rfl) ?_ (by assumption) ?_
  · intro w' hSw
    obtain ⟨q0, q1⟩ := hSw
    have z0 : w'.cell? ⟨H + 1, 0, none⟩ = some (.int .i64 (Mn : Int)) := q1.cell 0
    exact exec_load rfl rfl (ld_vec2 q0)
  try simp only [Act.put, List.setIfInBounds_toArray, List.set_cons_zero, List.set_cons_succ]
  refine oneL (i := 1) (by kernel_rfl) rfl (fun K hK => ?_)
  go_simp
  refine (rright_any (N : Int) (Bn : Int) WD).mono ?_
  rintro e w2 ⟨rfl, hb⟩
  rw [Q1.out]
  replace A := hide (A.out.below hb)
  replace C := hide (C.out.below hb)
  replace B := hide (B.out.trans (hb.mono B.out.size))
  clear hb
  refine hK.out _ _ ?_ ?_
  · exact ⟨A.out, C.out⟩
  clear hK K
  try simp only [Act.put, List.setIfInBounds_toArray, List.set_cons_zero, List.set_cons_succ]
  clear hHeld
  have hHeld : (fun w' => IsB w' H #[.int .i64 (N : Int), .int .u64 (Bn : Int)] 28 ∧ IsB w' (H + 1) #[.int .i64 (Mn : Int), .int .u64 (Cn : Int)] 28) w2 := ⟨A.out, C.out⟩
  refine pickA (v := ?_) 2 (some 7) rfl rfl (by kernel_rfl) (by kernel_rfl) (by kernel_rfl) (by decide) (fun _ _ _ h => h) (by rfl) ?_ (by assumption) ?_
  rotate_left
  · intro w'
    go_simp
    try with_reducible rfl
  try simp only [Act.put, List.setIfInBounds_toArray, List.set_cons_zero, List.set_cons_succ]
  refine pickL (v := .agg #[.int .i64 (Mn : Int), .int .u64 (Cn : Int)]) 3 (some 8) rfl rfl (by kernel_rfl) (by kernel_rfl) (by kernel_rfl) (by decide) (by kernel_rfl) (by kernel_rfl) (fun _ _ _ h => h) (by rfl) ?_ (by assumption) ?_
  · intro w' hSw
    obtain ⟨q0, q1⟩ := hSw
    have z0 : w'.cell? ⟨H + 1, 0, none⟩ = some (.int .i64 (Mn : Int)) := q1.cell 0
    exact exec_load rfl rfl (ld_vec2 q1)
  try simp only [Act.put, List.setIfInBounds_toArray, List.set_cons_zero, List.set_cons_succ]
  refine oneL (i := 4) (by kernel_rfl) rfl (fun K hK => ?_)
  go_simp
  refine (rright_any (Mn : Int) (Cn : Int) w2).mono ?_
  rintro e w3 ⟨rfl, hb⟩
  rw [Q2.out]
  replace A := hide (A.out.below hb)
  replace C := hide (C.out.below hb)
  replace B := hide (B.out.trans (hb.mono B.out.size))
  clear hb
  refine hK.out _ _ ?_ ?_
  · exact ⟨A.out, C.out⟩
  clear hK K
  try simp only [Act.put, List.setIfInBounds_toArray, List.set_cons_zero, List.set_cons_succ]
  clear hHeld
  have hHeld : (fun w' => IsB w' H #[.int .i64 (N : Int), .int .u64 (Bn : Int)] 28 ∧ IsB w' (H + 1) #[.int .i64 (Mn : Int), .int .u64 (Cn : Int)] 28) w3 := ⟨A.out, C.out⟩
  refine pickA (v := ?_) 5 (some 10) rfl rfl (by kernel_rfl) (by kernel_rfl) (by kernel_rfl) (by decide) (fun _ _ _ h => h) (by rfl) ?_ (by assumption) ?_
  rotate_left
  · intro w'
    go_simp
    try with_reducible rfl
  try simp only [Act.put, List.setIfInBounds_toArray, List.set_cons_zero, List.set_cons_succ]
  refine pickA (v := ?_) 6 (some 11) rfl rfl (by kernel_rfl) (by kernel_rfl) (by kernel_rfl) (by decide) (fun _ _ _ h => h) (by rfl) ?_ (by assumption) ?_
  rotate_left
  · intro w'
    go_simp
    try with_reducible rfl
  try simp only [Act.put, List.setIfInBounds_toArray, List.set_cons_zero, List.set_cons_succ]
  refine pickL (v := .agg #[.int .i64 (N : Int), .int .u64 (Bn : Int)]) 7 (some 12) rfl rfl (by kernel_rfl) (by kernel_rfl) (by kernel_rfl) (by decide) (by kernel_rfl) (by kernel_rfl) (fun _ _ _ h => h) (by rfl) ?_ (by assumption) ?_
  · intro w' hSw
    obtain ⟨q0, q1⟩ := hSw
    have z0 : w'.cell? ⟨H + 1, 0, none⟩ = some (.int .i64 (Mn : Int)) := q1.cell 0
    exact exec_load rfl rfl (ld_vec2 q0)
  try simp only [Act.put, List.setIfInBounds_toArray, List.set_cons_zero, List.set_cons_succ]
  refine pickL (v := .agg #[.int .i64 (Mn : Int), .int .u64 (Cn : Int)]) 9 (some 14) rfl rfl (by kernel_rfl) (by kernel_rfl) (by kernel_rfl) (by decide) (by kernel_rfl) (by kernel_rfl) (fun _ _ _ h => h) (by rfl) ?_ (by assumption) ?_
  · intro w' hSw
    obtain ⟨q0, q1⟩ := hSw
    have z0 : w'.cell? ⟨H + 1, 0, none⟩ = some (.int .i64 (Mn : Int)) := q1.cell 0
    exact exec_load rfl rfl (ld_vec2 q1)
  try simp only [Act.put, List.setIfInBounds_toArray, List.set_cons_zero, List.set_cons_succ]
  refine pickA (v := ?_) 12 (some 17) rfl rfl (by kernel_rfl) (by kernel_rfl) (by kernel_rfl) (by decide) (fun _ _ _ h => h) (by rfl) ?_ (by assumption) ?_
  rotate_left
  · intro w'
    go_simp
    try with_reducible rfl
  try simp only [Act.put, List.setIfInBounds_toArray, List.set_cons_zero, List.set_cons_succ]
  refine pickL (v := ?_) 13 (some 18) rfl rfl (by kernel_rfl) (by kernel_rfl) (by kernel_rfl) (by decide) (by kernel_rfl) (by kernel_rfl) (fun _ _ _ h => h) (by rfl) ?_ (by assumption) ?_
  rotate_left
  · intro w' hSw
    obtain ⟨q0, q1⟩ := hSw
    have z0 : w'.cell? ⟨H + 1, 0, none⟩ = some (.int .i64 (Mn : Int)) := q1.cell 0
    go_simp
    try with_reducible rfl
  try simp only [Act.put, List.setIfInBounds_toArray, List.set_cons_zero, List.set_cons_succ]
  refine oneL (i := 8) (by kernel_rfl) rfl (fun K hK => ?_)
  go_simp
  refine (bits_any N Bn hN hBn w3).mono ?_
  rintro e w4 ⟨g, rfl, hg, hown, hb⟩
  replace A := hide (A.out.below hb)
  replace C := hide (C.out.below hb)
  replace B := hide (B.out.trans (hb.mono B.out.size))
  have O1 := hide hown
  clear hown hg
  clear hb
  refine hK.out _ _ ?_ ?_
  · exact ⟨A.out, C.out⟩
  clear hK K
  try simp only [Act.put, List.setIfInBounds_toArray, List.set_cons_zero, List.set_cons_succ]
  clear hHeld
  have hHeld : (fun w' => IsB w' H #[.int .i64 (N : Int), .int .u64 (Bn : Int)] 28 ∧ IsB w' (H + 1) #[.int .i64 (Mn : Int), .int .u64 (Cn : Int)] 28) w4 := ⟨A.out, C.out⟩
  refine oneL (i := 10) (by kernel_rfl) rfl (fun K hK => ?_)
  go_simp
  refine (bits_any Mn Cn hM hCn w4).mono ?_
  rintro e w5 ⟨g2, rfl, hg, hown, hb⟩
  replace A := hide (A.out.below hb)
  replace C := hide (C.out.below hb)
  replace B := hide (B.out.trans (hb.mono B.out.size))
  have O2 := hide hown
  replace O1 := hide (ownsRow_below O1.out hb)
  clear hown hg
  clear hb
  refine hK.out _ _ ?_ ?_
  · exact ⟨A.out, C.out⟩
  clear hK K
  try simp only [Act.put, List.setIfInBounds_toArray, List.set_cons_zero, List.set_cons_succ]
  clear hHeld
  have hHeld : (fun w' => IsB w' H #[.int .i64 (N : Int), .int .u64 (Bn : Int)] 28 ∧ IsB w' (H + 1) #[.int .i64 (Mn : Int), .int .u64 (Cn : Int)] 28) w5 := ⟨A.out, C.out⟩
  refine oneL (i := 11) (by kernel_rfl) rfl (fun K hK => ?_)
  go_simp
  refine (rcommon_any g g2 N Mn N Mn (bl N Bn) (bl Mn Cn) w5 (bl_length _ _) (bl_length _ _) (by omega) (by omega) (row_of O1.out).2.1 (row_of O2.out).2.1).mono ?_
  rintro e w6 ⟨rfl, hb⟩
  replace A := hide (A.out.below hb)
  replace C := hide (C.out.below hb)
  replace B := hide (B.out.trans (hb.mono B.out.size))
  clear hb
  refine hK.out _ _ ?_ ?_
  · exact ⟨A.out, C.out⟩
  clear hK K
  try simp only [Act.put, List.setIfInBounds_toArray, List.set_cons_zero, List.set_cons_succ]
  clear hHeld
  have hHeld : (fun w' => IsB w' H #[.int .i64 (N : Int), .int .u64 (Bn : Int)] 28 ∧ IsB w' (H + 1) #[.int .i64 (Mn : Int), .int .u64 (Cn : Int)] 28) w6 := ⟨A.out, C.out⟩
  refine pickA (v := ?_) 14 (some 19) rfl rfl (by kernel_rfl) (by kernel_rfl) (by kernel_rfl) (by decide) (fun _ _ _ h => h) (by rfl) ?_ (by assumption) ?_
  rotate_left
  · intro w'
    go_simp
    try with_reducible rfl
  try simp only [Act.put, List.setIfInBounds_toArray, List.set_cons_zero, List.set_cons_succ]
  refine pickA (v := ?_) 15 (some 20) rfl rfl (by kernel_rfl) (by kernel_rfl) (by kernel_rfl) (by decide) (fun _ _ _ h => h) (by rfl) ?_ (by assumption) ?_
  rotate_left
  · intro w'
    go_simp
    try with_reducible rfl
  try simp only [Act.put, List.setIfInBounds_toArray, List.set_cons_zero, List.set_cons_succ]
  refine pickA (v := ?_) 16 (some 4) rfl rfl (by kernel_rfl) (by kernel_rfl) (by kernel_rfl) (by decide) (fun _ _ _ h => h) (by rfl) ?_ (by assumption) ?_
  rotate_left
  · intro w'
    go_simp
    try with_reducible rfl
  try simp only [Act.put, List.setIfInBounds_toArray, List.set_cons_zero, List.set_cons_succ]
  refine doneL (by kernel_rfl) ?_ _
  clear hHeld
  go_wp2
  go_ret
  exact ⟨rfl, B.out⟩

theorem rBegins_any (n b m c : Int) (hb : 0 ≤ b) (hc : 0 ≤ c) (w : World) : Calls Tryd.prog 10 #[(.agg #[.int .i64 (n), .int .u64 (b)]), (.agg #[.int .i64 (m), .int .u64 (c)])] w fun e w' => e = .returned (.bool (bgS n b m c)) ∧ Below w.heap.size w w' := by
  cases q1 : rt n b with
  | false =>
    have e : bgS n b m c = false := by unfold bgS; rw [q1]; rfl
    rw [e]; exact rBegins_a n b m c q1 w
  | true =>
    cases q2 : rt m c with
    | false =>
      have e : bgS n b m c = false := by unfold bgS; rw [q1, q2]; rfl
      rw [e]; exact rBegins_b n b m c q1 q2 w
    | true =>
      obtain ⟨n, b, m, c, rfl, rfl, rfl, rfl, h1, h2, h3, h4, h5, h6⟩ := both_nat (rbS_zero.2 ⟨q1, q2⟩) hb hc
      have E : bgS (n : Int) b m c = ((cmn (bl n b) (bl m c) : Nat) == (m : Int)) := by
        have := cmn_pre n b m c h3 h4
        unfold bgS
        rw [q1, q2]
        simp only [Bool.true_and, Int.toNat_natCast]
        rw [Bool.eq_iff_iff]
        simp only [Bool.and_eq_true, decide_eq_true_eq, beq_iff_eq]
        omega
      rw [E]
      exact rBegins_c n b m c h1 h2 h5 h6 q1 q2 w

theorem infoRf : (Tryd.prog.info? 30).map (fun i => (i.zero, i.size, i.bytes)) = some (some (.agg #[.int .i64 0, .int .i64 0, .int .u64 0, .int .i64 0, .int .u64 0]), 5, 40) := by kernel_rfl

/-- A row of references of one's own, laid at base or behind. -/
structure Ro (base : Nat) (w : World) (v : Value) (l : List Rf) : Prop where
  row : Rw w 30 5 v l.length (rfs l)
  new : ∀ k, v.ownBlock = some k → base ≤ k

theorem Ro.nil (base : Nat) (w : World) : Ro base w (.slice none 0 0) [] := ⟨⟨rfl, Or.inl ⟨rfl, rfl⟩⟩, fun k hk => (by cases hk)⟩

theorem Ro.below {base : Nat} {w w' : World} {v : Value} {l : List Rf} (h : Ro base w v l) (hb : Below w.heap.size w w') : Ro base w' v l := ⟨h.row.below hb, h.new⟩

theorem Ro.kp {base : Nat} {w w' : World} {v : Value} {l : List Rf} {S : List Nat} (h : Ro base w v l) (hk : Kp S w w') (hS : ∀ k ∈ S, ∀ cs, ¬ IsB w k cs 30) : Ro base w' v l :=
  ⟨h.row.kp hk fun k hk2 hm => by obtain ⟨-, cur, hc⟩ := h.row.lt k hk2; exact hS k hm cur hc, h.new⟩

theorem Ro.ne {base : Nat} {w : World} {v : Value} {l : List Rf} (h : Ro base w v l) {b : Nat} {cs : Array Value} {t : TypeId} (I : IsB w b cs t) (ht : t ≠ 30) : ∀ k ∈ v.ownBlock.toList, k ≠ b := by
  intro k hk
  obtain ⟨-, cur, hc⟩ := h.row.lt k (by simpa using hk)
  exact fun e => IsB.ne_t I (show IsB w k cur 30 from hc) ht e.symm

theorem Ro.shape {base : Nat} {w : World} {v : Value} {l : List Rf} (h : Ro base w v l) : ∃ a c, v = .slice a l.length c ∧ l.length ≤ c ∧ c ≤ maxLen := h.row.shape

theorem Ro.push {base : Nat} {w : World} {v : Value} {l : List Rf} (h : Ro base w v l) (x : Rf) (hlen : l.length ≤ 100000) (hbs : base ≤ w.heap.size) (ty : TypeId) :
    ∃ qa qc w', (Builtin.append_ #[22, 22] ty #[v, .slice (some ⟨w.heap.size, 0, none⟩) 1 1]).run Tryd.prog (w.alloc (.cells x.cells 30)) = .ok (.slice qa (l.length + 1) qc) w' ∧ Ro base w' (.slice qa (l.length + 1) qc) (l ++ [x]) ∧ Kp v.ownBlock.toList w w' := by
  have hb := (Below.refl w.heap.size w).alloc (Nat.le_refl _) (.cells x.cells 30)
  have hg := IsB.new w x.cells 30
  have h' := h.below hb
  generalize w.alloc (.cells x.cells 30) = W at *
  obtain ⟨i0, hi0, hz0, hz1, hz2⟩ := info_parts infoRf
  have hcells : ∀ j u, (rfs [x])[j]? = some u → W.cell? ((⟨w.heap.size, 0, none⟩ : Addr).add j) = some u := fun j u hu => by
    rw [addn, Nat.zero_add, hg.cell j]
    simpa [rfs, Rf.cells] using hu
  obtain ⟨v', w', hrun, hrw, hgr, hat, -⟩ := run_append_rw (P := Tryd.prog) W 22 ty 30 i0 _ 5 40 Tryd.underlying22 hi0 hz0 hz1 hz2 rfl v l.length (rfs l) h'.row (.slice (some ⟨w.heap.size, 0, none⟩) 1 1) 1 (rfs [x]) rfl (Or.inl ⟨⟨w.heap.size, 0, none⟩, 1, rfl, hcells⟩) (rfs_one [x]) (by unfold maxLen; omega) (by omega)
  obtain ⟨qa, qc, rfl, -, -⟩ := hrw.shape
  have hl : (l ++ [x]).length = l.length + 1 := by simp
  refine ⟨qa, qc, w', hrun, ⟨?_, fun k hk => ?_⟩, ?_⟩
  · rw [rfs_app, hl]
    exact hrw
  · rcases hat with e | e
    · exact h.new k (by rw [← e]; exact hk)
    · rw [e] at hk
      injection hk with hk
      have := hb.size
      omega
  · exact (Kp.of_below (S := v.ownBlock.toList) hb).tr (Kp.of_grown (S := v.ownBlock.toList) hgr (fun k hk => Or.inl (by rw [hk]; simp)))

theorem cs_get (x : Rf) (l : List Rf) (j : Nat) (hj : j < l.length) (hx : l[j] = x) (k : Nat) (hk : k < 5) : (rfs l)[j * 5 + k]? = x.cs[k]? := by
  obtain ⟨g0, g1, g2, g3, g4⟩ := rfs_get l j hj
  have : k = 0 ∨ k = 1 ∨ k = 2 ∨ k = 3 ∨ k = 4 := by omega
  rcases this with rfl | rfl | rfl | rfl | rfl
  · simpa [Rf.cs, hx] using g0
  · simpa [Rf.cs, hx] using g1
  · simpa [Rf.cs, hx] using g2
  · simpa [Rf.cs, hx] using g3
  · simpa [Rf.cs, hx] using g4

theorem Rw.ldr {w : World} {g n cap : Nat} {l : List Rf} (h : Rw w 30 5 (.slice (some ⟨g, 0, none⟩) n cap) n (rfs l)) (hn : l.length = n) (j : Nat) (hj : j < l.length) : (Instr.loadAt 30 (.pointer (some ⟨g, j * 5, none⟩))).run Tryd.prog w = .ok (.agg #[.int .i64 l[j].id, .int .i64 l[j].rk, .int .u64 l[j].kn, .int .i64 l[j].ln, .int .u64 l[j].bt]) w := by
  refine run_loadAt_mid w g (j * 5) 30 l[j].cs _ (fun k v hk => ?_) Tryd.underlying30 rfl (by kernel_rfl)
  have hk2 : k < 5 := (List.getElem?_eq_some_iff.1 hk).1
  rw [h.cellAt (j * 5 + k) (by omega), cs_get _ l j hj rfl k hk2]
  exact hk

end Go.Proofs.YtfcmmchppcffmaaDoor
