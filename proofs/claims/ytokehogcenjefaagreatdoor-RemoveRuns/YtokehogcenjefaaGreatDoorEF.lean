/- The document's Right, Bits, common, Begins (chapter 1), on the road of stage 1's texts. -/
import Derived.Test.YtokehogcenjefaaGreatDoorEE
namespace Go.Proofs.YtokehogcenjefaaGreatDoor.Un
open Go.RowKit

/-- The row. -/
def bl (n b : Nat) : List Nat := (List.range n).map (bt n b)
/-- The number of a row. -/
def ofl (l : List Nat) : Nat := l.foldl (fun a x => a * 2 + x) 0
/-- That of the others. -/
def rst (n b k : Nat) : Nat := b % 2 ^ (n - k)
/-- That of the vector with bit i turned. -/
def flp (n b i : Nat) : Nat := b ^^^ 2 ^ (n - 1 - i)
/-- That of two, one behind the other. -/
def jn (b m c : Nat) : Nat := b * 2 ^ m + c
/-- How many first ones two rows have in common. -/
def cmn : List Nat → List Nat → Nat
  | a :: s, b :: t => if a = b then cmn s t + 1 else 0
  | _, _ => 0

theorem bl_length (n b : Nat) : (bl n b).length = n := by simp [bl]
theorem bl_get (n b i : Nat) (h : i < n) : (bl n b)[i]? = some (bt n b i) := by simp [bl, h]
theorem bt_le (n b i : Nat) : bt n b i ≤ 1 := by unfold bt; omega
theorem bt_test (n b i : Nat) : bt n b i = (b.testBit (n - 1 - i)).toNat := by rw [Nat.toNat_testBit]; rfl

theorem foldl_ofl (m : List Nat) (a : Nat) : m.foldl (fun a x => a * 2 + x) a = a * 2 ^ m.length + ofl m := by
  unfold ofl
  induction m generalizing a with
  | nil => simp
  | cons x t ih =>
    simp only [List.foldl_cons, List.length_cons]
    rw [ih, ih (0 * 2 + x), Nat.pow_succ]
    simp only [Nat.add_mul, Nat.mul_assoc, Nat.zero_mul, Nat.zero_add, Nat.mul_comm 2]
    omega

theorem ofl_append (l m : List Nat) : ofl (l ++ m) = ofl l * 2 ^ m.length + ofl m := by
  rw [ofl, List.foldl_append, foldl_ofl]; rfl
theorem ofl_snoc (l : List Nat) (x : Nat) : ofl (l ++ [x]) = ofl l * 2 + x := by
  rw [ofl_append]; simp [ofl]
theorem ofl_lt (l : List Nat) (h : ∀ x ∈ l, x ≤ 1) : ofl l < 2 ^ l.length := by
  induction l with
  | nil => simp [ofl]
  | cons x t ih =>
    have e : x :: t = [x] ++ t := rfl
    rw [e, ofl_append]
    have := ih (fun y hy => h y (by simp [hy]))
    have hx := h x (by simp)
    simp only [List.length_append, List.length_cons, List.length_nil]
    rw [Nat.pow_add]
    have e1 : ofl [x] = x := by simp [ofl]
    rw [e1]
    rcases Nat.le_one_iff_eq_zero_or_eq_one.1 hx with rfl | rfl <;> omega

theorem bl_take (n b k : Nat) (h : k ≤ n) : (bl n b).take k = bl k (b / 2 ^ (n - k)) := by
  apply List.ext_getElem?
  intro i
  by_cases hi : i < k
  · rw [List.getElem?_take, if_pos hi, bl_get _ _ _ (by omega), bl_get _ _ _ hi]
    unfold bt
    rw [Nat.div_div_eq_div_mul, ← Nat.pow_add]
    have : n - k + (k - 1 - i) = n - 1 - i := by omega
    rw [this]
  · rw [List.getElem?_eq_none (by simp [bl_length]; omega), List.getElem?_eq_none (by simp [bl_length]; omega)]

theorem bl_drop (n b k : Nat) (h : k ≤ n) : (bl n b).drop k = bl (n - k) (b % 2 ^ (n - k)) := by
  apply List.ext_getElem?
  intro i
  by_cases hi : i < n - k
  · rw [List.getElem?_drop, bl_get _ _ _ (by omega), bl_get _ _ _ hi, bt_test, bt_test, Nat.testBit_mod_two_pow]
    have e : n - 1 - (k + i) = n - k - 1 - i := by omega
    rw [e, decide_eq_true (by omega)]
    simp
  · rw [List.getElem?_eq_none (by simp [bl_length]; omega), List.getElem?_eq_none (by simp [bl_length]; omega)]

theorem bl_succ (n b : Nat) : bl (n + 1) b = bl n (b / 2) ++ [b % 2] := by
  have h1 := bl_take (n + 1) b n (by omega)
  have h2 := bl_drop (n + 1) b n (by omega)
  have e : n + 1 - n = 1 := by omega
  rw [e, Nat.pow_one] at h1 h2
  rw [← List.take_append_drop n (bl (n + 1) b), h1, h2]
  simp [bl, bt]

theorem ofl_bl (n b : Nat) (h : b < 2 ^ n) : ofl (bl n b) = b := by
  induction n generalizing b with
  | zero => simp [bl, ofl] at *; omega
  | succ n ih =>
    rw [bl_succ, ofl_snoc, ih (b / 2) (by rw [Nat.pow_succ] at h; omega)]
    omega

theorem ofl_bl_take (n b k : Nat) (hb : b < 2 ^ n) (h : k ≤ n) : ofl ((bl n b).take k) = b / 2 ^ (n - k) := by
  rw [bl_take n b k h, ofl_bl]
  rw [Nat.div_lt_iff_lt_mul (Nat.two_pow_pos _), ← Nat.pow_add]
  have : k + (n - k) = n := by omega
  rw [this]; exact hb
theorem ofl_bl_drop (n b k : Nat) (h : k ≤ n) : ofl ((bl n b).drop k) = b % 2 ^ (n - k) := by
  rw [bl_drop n b k h, ofl_bl]
  exact Nat.mod_lt _ (Nat.two_pow_pos _)

theorem bl_mem (n b : Nat) : ∀ x ∈ bl n b, x ≤ 1 := by
  intro x hx; simp only [bl, List.mem_map] at hx; obtain ⟨i, _, rfl⟩ := hx; exact bt_le _ _ _

theorem bl_flip (n b i : Nat) (h : i < n) : (bl n b).set i (1 - bt n b i) = bl n (b ^^^ 2 ^ (n - 1 - i)) := by
  apply List.ext_getElem?
  intro j
  by_cases hj : j < n
  · rw [List.getElem?_set, bl_get _ _ _ hj, bl_get _ _ _ hj]
    by_cases e : i = j
    · subst e
      rw [if_pos rfl, if_pos (by rw [bl_length]; exact h), bt_test, bt_test, Nat.testBit_xor, Nat.testBit_two_pow_self]
      cases b.testBit (n - 1 - i) <;> rfl
    · rw [if_neg e, bt_test, bt_test, Nat.testBit_xor, Nat.testBit_two_pow_of_ne (by omega)]
      simp
  · rw [List.getElem?_eq_none (by simp [bl_length]; omega), List.getElem?_eq_none (by simp [bl_length]; omega)]

theorem xor_lt (n b i : Nat) (hb : b < 2 ^ n) (h : i < n) : b ^^^ 2 ^ (n - 1 - i) < 2 ^ n :=
  Nat.xor_lt_two_pow hb (Nat.pow_lt_pow_right (by omega) (by omega))

theorem ofl_flip (n b i : Nat) (hb : b < 2 ^ n) (h : i < n) : ofl ((bl n b).set i (1 - bt n b i)) = b ^^^ 2 ^ (n - 1 - i) := by
  rw [bl_flip n b i h, ofl_bl _ _ (xor_lt n b i hb h)]

theorem shl_or (b c m : Nat) (hc : c < 2 ^ m) : b * 2 ^ m ||| c = b * 2 ^ m + c := by
  rw [Nat.mul_comm]; exact (Nat.two_pow_add_eq_or_of_lt hc b).symm

theorem cmn_le (a b : List Nat) : cmn a b ≤ a.length ∧ cmn a b ≤ b.length := by
  induction a generalizing b with
  | nil => simp [cmn]
  | cons x s ih =>
    cases b with
    | nil => simp [cmn]
    | cons y t =>
      simp only [cmn]
      have := ih t
      split <;> simp <;> omega

theorem cmn_same (a b : List Nat) : ∀ i, i < cmn a b → a[i]? = b[i]? := by
  induction a generalizing b with
  | nil => simp [cmn]
  | cons x s ih =>
    cases b with
    | nil => simp [cmn]
    | cons y t =>
      intro i hi
      simp only [cmn] at hi
      split at hi
      · rename_i e
        cases i with
        | zero => simp [e]
        | succ i => simpa using ih t i (by omega)
      · omega

theorem cmn_eq (a b : List Nat) (k : Nat) (h1 : k ≤ a.length) (h2 : k ≤ b.length) (h3 : ∀ i, i < k → a[i]? = b[i]?) (h4 : k = a.length ∨ k = b.length ∨ a[k]? ≠ b[k]?) : cmn a b = k := by
  induction a generalizing b k with
  | nil => simp at h1; simp [cmn, h1]
  | cons x s ih =>
    cases b with
    | nil => simp at h2; simp [cmn, h2]
    | cons y t =>
      cases k with
      | zero =>
        have : x ≠ y := by
          rcases h4 with h4 | h4 | h4
          · simp at h4
          · simp at h4
          · simpa using h4
        simp [cmn, this]
      | succ k =>
        have e : x = y := by simpa using h3 0 (by omega)
        simp only [cmn, if_pos e]
        rw [ih t k (by simpa using h1) (by simpa using h2) (fun i hi => by simpa using h3 (i + 1) (by omega)) (by simpa using h4)]

theorem pre_lt (n b k : Nat) (hb : b < 2 ^ n) (h : k ≤ n) : pre n b k < 2 ^ k := by
  unfold pre
  rw [Nat.div_lt_iff_lt_mul (Nat.two_pow_pos _), ← Nat.pow_add]
  have : k + (n - k) = n := by omega
  rw [this]; exact hb
theorem rst_lt (n b k : Nat) : rst n b k < 2 ^ (n - k) := Nat.mod_lt _ (Nat.two_pow_pos _)
theorem jn_lt (n b m c : Nat) (hb : b < 2 ^ n) (hc : c < 2 ^ m) : jn b m c < 2 ^ (n + m) := by
  unfold jn
  rw [Nat.pow_add]
  have : (b + 1) * 2 ^ m ≤ 2 ^ n * 2 ^ m := Nat.mul_le_mul_right _ hb
  rw [Nat.add_mul] at this
  omega
theorem jn_pre_rst (n b k : Nat) : jn (pre n b k) (n - k) (rst n b k) = b := by
  unfold jn pre rst
  rw [Nat.mul_comm]; exact Nat.div_add_mod _ _
theorem pre_all (n b : Nat) : pre n b n = b := by simp [pre]
theorem p32 (n : Nat) (h : n ≤ 32) : 2 ^ n ≤ 4294967296 := Nat.le_trans (Nat.pow_le_pow_right (by omega) h) (by decide)

theorem rt_nat {n b : Int} (h : rt n b = true) (h0 : 0 ≤ b) : ∃ m c : Nat, n = (m : Int) ∧ b = (c : Int) ∧ m ≤ 32 ∧ c < 2 ^ m := by
  have h := of_decide_eq_true h
  obtain ⟨m, rfl⟩ := Int.eq_ofNat_of_zero_le h.1
  obtain ⟨c, rfl⟩ := Int.eq_ofNat_of_zero_le h0
  refine ⟨m, c, rfl, rfl, by omega, ?_⟩
  have := h.2.2
  rw [Int.toNat_natCast] at this
  exact_mod_cast this
theorem rt_of (m c : Nat) (h : m ≤ 32) (hc : c < 2 ^ m) : rt (m : Int) (c : Int) = true := by
  refine decide_eq_true ⟨by omega, by omega, ?_⟩
  rw [Int.toNat_natCast]
  exact_mod_cast hc

theorem pow_step (k : Nat) (h : k < 63) : IntKind.u64.wrap (2 ^ k * 2) = ((2 ^ (k + 1) : Nat) : Int) := by
  have hp : 2 ^ (k + 1) ≤ 2 ^ 63 := Nat.pow_le_pow_right (by omega) (by omega)
  have e : ((2 : Int) ^ k * 2) = ((2 ^ (k + 1) : Nat) : Int) := by rw [Nat.pow_succ]; simp
  rw [e]
  have hq : 0 < 2 ^ (k + 1) := Nat.two_pow_pos _
  generalize 2 ^ (k + 1) = y at *
  exact wrap_u64 (by omega) (by omega)

set_option maxHeartbeats 400000 in
theorem power_any (n : Int) (h0 : 0 ≤ n) (h1 : n ≤ 63) (w : World) :
    Calls Tryz.prog 95 #[.int .i64 n] w fun e w' => e = .returned (.int .u64 (2 ^ n.toNat : Nat)) ∧ w' = w := by
  obtain ⟨m, rfl⟩ := Int.eq_ofNat_of_zero_le h0
  rw [Int.toNat_natCast]
  have hm : m ≤ 63 := by omega
  clear h0 h1
  go_enter Tryz.func95, Tryz.ntmps95
  go_wp2
  go_loop [0, 3] (fun i x => ∃ k : Nat, k ≤ m ∧ i = .int .i64 ((m - k : Nat) : Int) ∧ x = .int .u64 ((2 ^ k : Nat) : Int)) (fun i _ => (intOf i).toNat)
  case atStart => exact ⟨0, by omega, by simp, rfl⟩
  case round =>
    obtain ⟨k, hk, rfl, rfl⟩ := hrel
    by_cases hlt : k < m
    · have H : Hid (IntKind.u64.wrap (2 ^ k * 2) = ((2 ^ (k + 1) : Nat) : Int)) := pow_step k (by omega)
      go_wp2
      refine ⟨⟨k + 1, by omega, ?_, ?_⟩, ?_⟩
      · rw [show ((m - k : Nat) : Int) - 1 = ((m - (k + 1) : Nat) : Int) from by omega]
      · rw [H.out]
      · simp [intOf]; omega
    · go_wp2
      go_ret
      have e : k = m := by omega
      rw [e]; simp

set_option maxHeartbeats 400000 in
theorem rright_in (n b : Int) (h0 : 0 ≤ n) (h1 : n ≤ 32) (w : World) :
    Calls Tryz.prog 68 #[(.agg #[.int .i64 (n), .int .u64 (b)])] w fun e w' => e = .returned (.bool (decide (b < 2 ^ n.toNat))) ∧ Below w.heap.size w w' := by
  go_enter Tryz.func68, Tryz.ntmps68
  go_wp2
  go_quiet ((go_at_call 95; exact Calls.quiet_of_same (power_any _ (by omega) (by omega) _)))
  go_wp2
  go_ret
  exact ⟨rfl, below_drewN ((Below.refl _ _).alloc (Nat.le_refl _) _) _⟩

set_option maxHeartbeats 400000 in
theorem rright_out (n b : Int) (h : n < 0 ∨ 32 < n) (w : World) :
    Calls Tryz.prog 68 #[(.agg #[.int .i64 (n), .int .u64 (b)])] w fun e w' => e = .returned (.bool false) ∧ Below w.heap.size w w' := by
  rcases h with h | h
  · have h1 : decide (0 ≤ n) = false := by simp; omega
    go_enter Tryz.func68, Tryz.ntmps68
    go_wp2
    go_quiet (fail)
    go_wp2
    go_ret
    exact ⟨rfl, below_drewN ((Below.refl _ _).alloc (Nat.le_refl _) _) _⟩
  · have h0 : 0 ≤ n := by omega
    have h1 : decide (n ≤ 32) = false := by simp; omega
    go_enter Tryz.func68, Tryz.ntmps68
    go_wp2
    go_quiet (fail)
    go_wp2
    go_ret
    exact ⟨rfl, below_drewN ((Below.refl _ _).alloc (Nat.le_refl _) _) _⟩

theorem rright_any (n b : Int) (w : World) :
    Calls Tryz.prog 68 #[(.agg #[.int .i64 (n), .int .u64 (b)])] w fun e w' => e = .returned (.bool (rt n b)) ∧ Below w.heap.size w w' := by
  by_cases h : n < 0 ∨ 32 < n
  · have e : rt n b = false := by unfold rt; simp; omega
    rw [e]; exact rright_out n b h w
  · have e : rt n b = decide (b < 2 ^ n.toNat) := by unfold rt; rw [decide_eq_decide]; constructor <;> intro h' <;> first | exact h'.2.2 | exact ⟨by omega, by omega, h'⟩
    rw [e]; exact rright_in n b (by omega) (by omega) w

theorem xbcell {W w1 : World} (hb : Below W.heap.size W w1) : (∀ b o, b < W.heap.size → w1.cell? ⟨b, o, none⟩ = W.cell? ⟨b, o, none⟩) ∧ (∀ b o, b < W.heap.size → w1.frozen? ⟨b, o, none⟩ = W.frozen? ⟨b, o, none⟩) :=
  ⟨fun b o h => hb.cell (p := ⟨b, o, none⟩) h, fun b o h => hb.frozen (p := ⟨b, o, none⟩) h⟩
theorem xbelow {w w1 : World} (h : w.grownBy w1 none) : Below w.heap.size w w1 := ⟨h.os, h.tape, h.output, h.size, fun k hk => h.block k hk (by simp)⟩
theorem xbx {w w1 : World} {o : Obj} (hb : Below (w.alloc o).heap.size (w.alloc o) w1) : Below w.heap.size w w1 :=
  ((Below.refl _ _).alloc (Nat.le_refl _) _).trans (hb.mono (by simp))

/-- A bit as a cell. -/
def bcel (x : Nat) : Value := .int .i64 (x : Int)
/-- The row of a vector when its last k bits are laid. -/
def rowK (n b k : Nat) : List Value := (List.range n).map fun j => bcel (if j + k < n then 0 else bt n b j)

theorem rowK_zero (n b : Nat) : rowK n b 0 = List.replicate n (.int .i64 0) := by
  apply List.ext_getElem?
  intro j
  by_cases hj : j < n <;> simp [rowK, hj, bcel]
theorem rowK_all (n b : Nat) : rowK n b n = (bl n b).map bcel := by
  simp only [rowK, bl, List.map_map]
  apply List.map_congr_left
  intro j _
  rw [if_neg (by omega)]; rfl
theorem rowK_step (n b k : Nat) (hk : k < n) : (rowK n b k).set (n - 1 - k) (.int .i64 ((b / 2 ^ k % 2 : Nat) : Int)) = rowK n b (k + 1) := by
  apply List.ext_getElem?
  intro j
  by_cases hj : j < n
  · rw [List.getElem?_set]
    by_cases e : n - 1 - k = j
    · have e2 : n - 1 - j = k := by omega
      rw [if_pos e, if_pos (by simp [rowK]; omega)]
      simp only [rowK, List.getElem?_map, List.getElem?_range hj, Option.map_some, bt, e2, bcel]
      rw [if_neg (by omega)]
    · rw [if_neg e]
      simp only [rowK, List.getElem?_map, List.getElem?_range hj, Option.map_some]
      by_cases e3 : j + k < n
      · rw [if_pos e3, if_pos (by omega)]
      · rw [if_neg e3, if_neg (by omega)]
  · simp [rowK, hj]

theorem Tryz.info3 : (Tryz.prog.info? 3).map (fun i => (i.zero, i.size, i.bytes)) = some (some (.int .i64 0), 1, 8) := by kernel_rfl

set_option maxHeartbeats 2000000 in
set_option maxRecDepth 100000 in
theorem bits_any (n b : Nat) (hn : n ≤ 32) (hb : b < 18446744073709551616) (w : World) :
    Calls Tryz.prog 71 #[(.agg #[.int .i64 ((n : Int)), .int .u64 ((b : Int))])] w fun e w' => ∃ g, e = .returned (.slice (some ⟨g, 0, none⟩) n n) ∧ w.heap.size ≤ g ∧
      w'.ownsRow w.heap.size 3 1 (.slice (some ⟨g, 0, none⟩) n n) n ((bl n b).map bcel) ∧ Below w.heap.size w w' := by
  obtain ⟨i0, hi, hz0, hz1, hz2⟩ := info_parts Tryz.info3
  go_enter Tryz.func71, Tryz.ntmps71
  go_wp2_with (at_make; refine wpList_make_full _ rfl _ _ 155 rfl w.heap.size 3 i0 (.int .i64 0) 1 Tryz.underlying155 hi hz0 hz1 .i64 .i64 _ _ n rfl rfl rfl rfl (by rw [hz2]; omega) (by unfold maxLen; omega) (by simp) ?_)
  intro w1 hown hgrow
  have hb1 := xbelow hgrow
  obtain ⟨hc, hf⟩ := xbcell hb1
  have hbw := xbx hb1
  have hz : w.heap.size + 1 + 1 ≤ w1.heap.size := by
    have := (hown.lt (w.heap.size + 1) (by simp [Value.ownBlock])).2
    omega
  clear hgrow hb1 hf
  have hown : w1.ownsRow w.heap.size 3 1 (.slice (some ⟨w.heap.size + 1, 0, none⟩) n n) n (rowK n b 0) := by
    rw [rowK_zero, ← toList_madeCells_one]
    simpa [Value.cells] using hown
  go_wp2
  go_loopw [4, 5] (fun x i wr => ∃ k : Nat, k ≤ n ∧ i = .int .i64 ((n : Int) - 1 - k) ∧ x = .int .u64 ((b / 2 ^ k : Nat) : Int) ∧
      wr.ownsRow w.heap.size 3 1 (.slice (some ⟨w.heap.size + 1, 0, none⟩) n n) n (rowK n b k) ∧ Below w.heap.size w wr)
    (fun _ i _ => (intOf i + 1).toNat)
  case atStart => exact ⟨0, by omega, by simp, by simp, hown, hbw⟩
  case round =>
    clear hown hbw hc hz
    obtain ⟨k, hk, rfl, rfl, hown, hbw⟩ := hrel
    by_cases hlt : k < n
    · have hst := hown.stored (n - 1 - k) (.int .i64 ((b / 2 ^ k % 2 : Nat) : Int))
      have hfz := hown.frozenAt (n - 1 - k)
      rw [rowK_step n b k hlt] at hst
      obtain ⟨hst, _⟩ := hst
      obtain ⟨u, hcl⟩ : ∃ u, wr.cell? ⟨w.heap.size + 1, n - 1 - k, none⟩ = some u := by
        rw [hown.cellAt (n - 1 - k) (by omega)]
        simp [rowK, show n - 1 - k < n from by omega]
      have em : ((b / 2 ^ k % 2 : Nat) : Int) = ((b / 2 ^ k : Nat) : Int) % 2 := by omega
      rw [em] at hst
      have HS := hide hst
      clear hst em
      have H2 : Hid (b / 2 ^ (k + 1) = b / 2 ^ k / 2) := by
        show _ = _
        rw [Nat.div_div_eq_div_mul, Nat.pow_succ]
      have hq : b / 2 ^ k < 18446744073709551616 := Nat.lt_of_le_of_lt (Nat.div_le_self _ _) hb
      rw [show ((n : Int) - 1 - k) = ((n - 1 - k : Nat) : Int) from by omega]
      generalize hj : n - 1 - k = j at *
      have hj2 : j < n := by omega
      have HJ := hide hj
      clear hj hb
      generalize b / 2 ^ k = q at *
      go_wp2
      refine ⟨⟨k + 1, by omega, ?_, ?_, HS.out, ?_⟩, ?_⟩
      · have := HJ.out; rw [show ((j : Int) - 1) = (n : Int) - 1 - ((k + 1 : Nat) : Int) from by omega]
      · rw [H2.out]; simp
      · exact hbw.setCell (by simp) _
      · simp [intOf]
    · go_wp2
      go_ret
      have e : k = n := by omega
      subst e
      rw [rowK_all] at hown
      exact ⟨_, rfl, by omega, hown, hbw⟩

/-- What a slice of numbers holds. -/
def Row (w : World) (g o : Nat) (l : List Nat) : Prop := ∀ j, j < l.length → w.cell? ⟨g, o + j, none⟩ = some (bcel (l.getD j 0))
theorem ownsRow_below {w w' : World} {B e size : Nat} {v : Value} {n : Nat} {xs : List Value} (h : w.ownsRow B e size v n xs) (hb : Below w.heap.size w w') : w'.ownsRow B e size v n xs :=
  h.kept (row := none) ⟨hb.os, hb.tape, hb.output, hb.size, fun k hk _ => hb.block k hk⟩ (by
    rcases h.2 with ⟨rfl, _⟩ | ⟨g, cap, cur, rfl, _⟩
    · exact Or.inl rfl
    · exact Or.inr (by simp [Value.ownBlock]))
theorem row_of {w : World} {base g n cap : Nat} {l : List Nat} (h : w.ownsRow base 3 1 (.slice (some ⟨g, 0, none⟩) n cap) n (l.map bcel)) : l.length = n ∧ Row w g 0 l ∧ g < w.heap.size ∧ (∀ j, w.frozen? ⟨g, j, none⟩ = false) := by
  have hl : l.length = n := by simpa using h.1
  refine ⟨hl, ?_, (h.lt g (by simp [Value.ownBlock])).2, fun j => h.frozenAt j⟩
  intro j hj
  rw [Nat.zero_add, h.cellAt j (by omega)]
  simp [hj]

section
attribute [local go_sem ↓] Go.wp_at_zero Go.wp_at_succ
theorem getD_get (l : List Nat) (i : Nat) (h : i < l.length) : l[i]? = some (l.getD i 0) := by simp [h]
theorem neb (x y : Nat) (h : x ≠ y) : ((x : Int) == (y : Int)) = false := by simp; omega

set_option maxHeartbeats 800000 in
theorem rcommon_any (g g2 n m cap cap2 : Nat) (l r : List Nat) (w : World) (hl : l.length = n) (hr : r.length = m) (hn : n ≤ 60) (hm : m ≤ 60) (hrow : Row w g 0 l) (hrow2 : Row w g2 0 r) :
    Calls Tryz.prog 115 #[.slice (some ⟨g, 0, none⟩) n cap, .slice (some ⟨g2, 0, none⟩) m cap2] w fun e w' => e = .returned (.int .i64 (cmn l r : Nat)) ∧ Below w.heap.size w w' := by
  go_enter Tryz.func115, Tryz.ntmps115
  go_wp2
  go_loopw [5] (fun i wr => ∃ k : Nat, k ≤ n ∧ k ≤ m ∧ i = .int .i64 (k : Int) ∧ (∀ j, j < k → l[j]? = r[j]?) ∧ Below w.heap.size w wr ∧ ∃ q, wr = w.drewN q)
    (fun i _ => n - (intOf i).toNat)
  case atStart => exact ⟨0, by omega, by omega, rfl, by omega, Below.refl _ _, 0, rfl⟩
  case round =>
    obtain ⟨k, hk, hk2, rfl, hsame, hb, q, rfl⟩ := hrel
    have HS := hide hsame
    clear hsame
    by_cases h1 : k < n
    · by_cases h2 : k < m
      · have c1 := hrow k (by omega)
        have c2 := hrow2 k (by omega)
        simp only [bcel, Nat.zero_add] at c1 c2
        have G1 := hide (getD_get l k (by omega))
        have G2 := hide (getD_get r k (by omega))
        have i1 : (k : Int) < n := by omega
        have i2 : (k : Int) < m := by omega
        have i3 : (0 : Int) ≤ k := by omega
        have HR := hide hrow
        have HR2 := hide hrow2
        clear hrow hrow2
        generalize l.getD k 0 = x at *
        generalize r.getD k 0 = y at *
        by_cases h3 : x = y
        · subst h3
          go_wp2
          go_quiet (fail)
          go_wp2
          refine ⟨⟨k + 1, by omega, by omega, by simp, ?_, below_drewN (Below.refl _ _) _, _, rfl⟩, ?_⟩
          · intro j hj
            by_cases e : j = k
            · rw [e, G1.out, G2.out]
            · exact HS.out j (by omega)
          · simp [intOf]; omega
        · have h4 := neb x y h3
          have HE : Hid (cmn l r = k) := cmn_eq l r k (by omega) (by omega) HS.out (by right; right; rw [G1.out, G2.out]; simpa using h3)
          go_wp2
          go_quiet (fail)
          go_wp2
          go_ret
          exact ⟨ret_int (by rw [HE.out]), below_drewN (below_drewN (Below.refl _ _) _) _⟩
      · have i1 : decide ((k : Int) < m) = false := by simp; omega
        have i2 : (k : Int) < n := by omega
        have HE : Hid (cmn l r = k) := cmn_eq l r k (by omega) (by omega) HS.out (by right; left; omega)
        go_wp2
        go_quiet (fail)
        go_wp2
        go_ret
        exact ⟨ret_int (by rw [HE.out]), below_drewN (below_drewN (Below.refl _ _) _) _⟩
    · have i1 : decide ((k : Int) < n) = false := by simp; omega
      have HE : Hid (cmn l r = k) := cmn_eq l r k (by omega) (by omega) HS.out (by left; omega)
      go_wp2
      go_quiet (fail)
      go_wp2
      go_ret
      exact ⟨ret_int (by rw [HE.out]), below_drewN (below_drewN (Below.refl _ _) _) _⟩
end

theorem cmn_pre (n b m c : Nat) (hb : b < 2 ^ n) (hc : c < 2 ^ m) : cmn (bl n b) (bl m c) = m ↔ m ≤ n ∧ pre n b m = c := by
  have hl := cmn_le (bl n b) (bl m c)
  rw [bl_length, bl_length] at hl
  constructor
  · intro h
    have hm : m ≤ n := by omega
    refine ⟨hm, ?_⟩
    have e : bl m (pre n b m) = bl m c := by
      unfold pre
      rw [← bl_take n b m hm]
      apply List.ext_getElem?
      intro i
      by_cases hi : i < m
      · rw [List.getElem?_take, if_pos hi]
        exact cmn_same _ _ i (by omega)
      · rw [List.getElem?_eq_none (by rw [List.length_take, bl_length]; omega), List.getElem?_eq_none (by rw [bl_length]; omega)]
    have h1 := congrArg ofl e
    rw [ofl_bl m c hc] at h1
    rw [ofl_bl _ _ (pre_lt n b m hb hm)] at h1
    exact h1
  · rintro ⟨hm, rfl⟩
    apply cmn_eq
    · rw [bl_length]; exact hm
    · rw [bl_length]; exact Nat.le_refl _
    · intro i hi
      have e : ((bl n b).take m)[i]? = (bl m (b / 2 ^ (n - m)))[i]? := by rw [bl_take n b m hm]
      rw [List.getElem?_take, if_pos hi] at e
      exact e
    · right; left; rw [bl_length]

/-- Two vectors that may both be, as numbers. -/
theorem both_nat {n b m c : Int} (h : rbS n b m c = 0) (hb : 0 ≤ b) (hc : 0 ≤ c) : ∃ n' b' m' c' : Nat, n = n' ∧ b = b' ∧ m = m' ∧ c = c' ∧ n' ≤ 32 ∧ m' ≤ 32 ∧ b' < 2 ^ n' ∧ c' < 2 ^ m' ∧ b' < 18446744073709551616 ∧ c' < 18446744073709551616 := by
  obtain ⟨h1, h2⟩ := rbS_zero.1 h
  obtain ⟨n', b', rfl, rfl, e1, e2⟩ := rt_nat h1 hb
  obtain ⟨m', c', rfl, rfl, e3, e4⟩ := rt_nat h2 hc
  have := p32 n' e1
  have := p32 m' e3
  exact ⟨n', b', m', c', rfl, rfl, rfl, rfl, e1, e3, e2, e4, by omega, by omega⟩

theorem ld_vec2 {w : World} {b : Nat} {r n : Int} (I : IsB w b #[.int .i64 r, .int .u64 n] 27) : (Instr.loadAt 27 (.pointer (some ⟨b, 0, none⟩))).run Tryz.prog w = .ok (.agg #[.int .i64 r, .int .u64 n]) w := load_mid (cs := [.int .i64 r, .int .u64 n]) I 0 _ [.int .i64 r, .int .u64 n] _ rfl Tryz.underlying27 rfl (by kernel_rfl)

set_option maxHeartbeats 2000000 in
set_option maxRecDepth 100000 in
theorem rBegins_a (n b m c : Int) (h1 : rt n b = false) (w : World) : Calls Tryz.prog 90 #[(.agg #[.int .i64 (n), .int .u64 (b)]), (.agg #[.int .i64 (m), .int .u64 (c)])] w fun e w' => e = .returned (.bool false) ∧ Below w.heap.size w w' := by
  have Q1 := hide h1
  clear h1
  have mixed : Tryz.prog.follows .mixedOrders = true := by kernel_rfl
  have b1 := (((Below.refl w.heap.size w).alloc (Nat.le_refl _) (.cells #[.int .i64 n, .int .u64 b] 27)).alloc (by simp) (.cells #[.int .i64 m, .int .u64 c] 27)).drew
  have A0 := ((IsB.new w #[.int .i64 n, .int .u64 b] 27).below ((Below.refl _ _).alloc (Nat.le_refl _) (.cells #[.int .i64 m, .int .u64 c] 27))).below ((Below.refl _ _).drew)
  have C0 := (IsB.new (w.alloc (.cells #[.int .i64 n, .int .u64 b] 27)) #[.int .i64 m, .int .u64 c] 27).below ((Below.refl _ _).drew)
  rw [World.size_alloc] at C0
  have A := hide A0
  have C := hide C0
  have B := hide b1
  clear A0 C0 b1
  go_enter Tryz.func90, Tryz.ntmps90
  go_wp2_with fail
  obtain ⟨H, hH⟩ : ∃ H, w.heap.size = H := ⟨_, rfl⟩
  rw [hH] at A C ⊢
  replace hH := hide hH
  refine regionL 17 (fun w' => IsB w' H #[.int .i64 n, .int .u64 b] 27 ∧ IsB w' (H + 1) #[.int .i64 m, .int .u64 c] 27) mixed ⟨A.out, C.out⟩ (fun hHeld => ?_)
  generalize ((w.alloc (.cells #[.int .i64 n, .int .u64 b] 27)).alloc (.cells #[.int .i64 m, .int .u64 c] 27)).drew = WD at *
  refine pickL (v := .agg #[.int .i64 n, .int .u64 b]) 0 (some 5) rfl rfl (by kernel_rfl) (by kernel_rfl) (by kernel_rfl) (by decide) (by kernel_rfl) (by kernel_rfl) (fun _ _ _ h => h) (by rfl) ?_ (by assumption) ?_
  · intro w' hSw
    obtain ⟨q0, q1⟩ := hSw
    have z0 : w'.cell? ⟨H + 1, 0, none⟩ = some (.int .i64 m) := q1.cell 0
    exact exec_load rfl rfl (ld_vec2 q0)
  try simp only [Act.put, List.setIfInBounds_toArray, List.set_cons_zero, List.set_cons_succ]
  refine oneL (i := 1) (by kernel_rfl) rfl (fun K hK => ?_)
  go_simp
  refine (rright_any n b WD).mono ?_
  rintro e w2 ⟨rfl, hb⟩
  rw [Q1.out]
  replace A := hide (A.out.below hb)
  replace C := hide (C.out.below hb)
  replace B := hide (B.out.trans (hb.mono B.out.size))
  clear hb
  refine hK.out _ _ ?_ ?_
  · exact ⟨A.out, C.out⟩
  clear hK K
  try simp only [Act.put, List.setIfInBounds_toArray, List.set_cons_zero, List.set_cons_succ]
  clear hHeld
  have hHeld : (fun w' => IsB w' H #[.int .i64 n, .int .u64 b] 27 ∧ IsB w' (H + 1) #[.int .i64 m, .int .u64 c] 27) w2 := ⟨A.out, C.out⟩
  refine pickA (v := ?_) 2 (some 7) rfl rfl (by kernel_rfl) (by kernel_rfl) (by kernel_rfl) (by decide) (fun _ _ _ h => h) (by rfl) ?_ (by assumption) ?_
  rotate_left
  · intro w'
    go_simp
    try with_reducible rfl
  try simp only [Act.put, List.setIfInBounds_toArray, List.set_cons_zero, List.set_cons_succ]
  refine pickN 3 (some 8) rfl rfl (by kernel_rfl) (by kernel_rfl) (by kernel_rfl) (by decide) (fun _ _ _ h => h) (by rfl) (by assumption) ?_
  try simp only [Act.put, List.setIfInBounds_toArray, List.set_cons_zero, List.set_cons_succ]
  refine pickN 4 (some 9) rfl rfl (by kernel_rfl) (by kernel_rfl) (by kernel_rfl) (by decide) (fun _ _ _ h => h) (by rfl) (by assumption) ?_
  try simp only [Act.put, List.setIfInBounds_toArray, List.set_cons_zero, List.set_cons_succ]
  refine pickA (v := ?_) 5 (some 10) rfl rfl (by kernel_rfl) (by kernel_rfl) (by kernel_rfl) (by decide) (fun _ _ _ h => h) (by rfl) ?_ (by assumption) ?_
  rotate_left
  · intro w'
    go_simp
    try with_reducible rfl
  try simp only [Act.put, List.setIfInBounds_toArray, List.set_cons_zero, List.set_cons_succ]
  refine pickA (v := ?_) 6 (some 11) rfl rfl (by kernel_rfl) (by kernel_rfl) (by kernel_rfl) (by decide) (fun _ _ _ h => h) (by rfl) ?_ (by assumption) ?_
  rotate_left
  · intro w'
    go_simp
    try with_reducible rfl
  try simp only [Act.put, List.setIfInBounds_toArray, List.set_cons_zero, List.set_cons_succ]
  refine pickN 7 (some 12) rfl rfl (by kernel_rfl) (by kernel_rfl) (by kernel_rfl) (by decide) (fun _ _ _ h => h) (by rfl) (by assumption) ?_
  try simp only [Act.put, List.setIfInBounds_toArray, List.set_cons_zero, List.set_cons_succ]
  refine pickN 8 (some 13) rfl rfl (by kernel_rfl) (by kernel_rfl) (by kernel_rfl) (by decide) (fun _ _ _ h => h) (by rfl) (by assumption) ?_
  try simp only [Act.put, List.setIfInBounds_toArray, List.set_cons_zero, List.set_cons_succ]
  refine pickN 9 (some 14) rfl rfl (by kernel_rfl) (by kernel_rfl) (by kernel_rfl) (by decide) (fun _ _ _ h => h) (by rfl) (by assumption) ?_
  try simp only [Act.put, List.setIfInBounds_toArray, List.set_cons_zero, List.set_cons_succ]
  refine pickN 10 (some 15) rfl rfl (by kernel_rfl) (by kernel_rfl) (by kernel_rfl) (by decide) (fun _ _ _ h => h) (by rfl) (by assumption) ?_
  try simp only [Act.put, List.setIfInBounds_toArray, List.set_cons_zero, List.set_cons_succ]
  refine pickN 11 (some 16) rfl rfl (by kernel_rfl) (by kernel_rfl) (by kernel_rfl) (by decide) (fun _ _ _ h => h) (by rfl) (by assumption) ?_
  try simp only [Act.put, List.setIfInBounds_toArray, List.set_cons_zero, List.set_cons_succ]
  refine pickN 12 (some 17) rfl rfl (by kernel_rfl) (by kernel_rfl) (by kernel_rfl) (by decide) (fun _ _ _ h => h) (by rfl) (by assumption) ?_
  try simp only [Act.put, List.setIfInBounds_toArray, List.set_cons_zero, List.set_cons_succ]
  refine pickN 13 (some 18) rfl rfl (by kernel_rfl) (by kernel_rfl) (by kernel_rfl) (by decide) (fun _ _ _ h => h) (by rfl) (by assumption) ?_
  try simp only [Act.put, List.setIfInBounds_toArray, List.set_cons_zero, List.set_cons_succ]
  refine pickN 14 (some 19) rfl rfl (by kernel_rfl) (by kernel_rfl) (by kernel_rfl) (by decide) (fun _ _ _ h => h) (by rfl) (by assumption) ?_
  try simp only [Act.put, List.setIfInBounds_toArray, List.set_cons_zero, List.set_cons_succ]
  refine pickA (v := ?_) 15 (some 20) rfl rfl (by kernel_rfl) (by kernel_rfl) (by kernel_rfl) (by decide) (fun _ _ _ h => h) (by rfl) ?_ (by assumption) ?_
  rotate_left
  · intro w'
    go_simp
    try with_reducible rfl
  try simp only [Act.put, List.setIfInBounds_toArray, List.set_cons_zero, List.set_cons_succ]
  refine pickA (v := ?_) 16 (some 4) rfl rfl (by kernel_rfl) (by kernel_rfl) (by kernel_rfl) (by decide) (fun _ _ _ h => h) (by rfl) ?_ (by assumption) ?_
  rotate_left
  · intro w'
    go_simp
    try with_reducible rfl
  try simp only [Act.put, List.setIfInBounds_toArray, List.set_cons_zero, List.set_cons_succ]
  refine doneL (by kernel_rfl) ?_ _
  clear hHeld
  go_wp2
  go_ret
  exact ⟨rfl, B.out⟩

set_option maxHeartbeats 2000000 in
set_option maxRecDepth 100000 in
theorem rBegins_b (n b m c : Int) (h1 : rt n b = true) (h2 : rt m c = false) (w : World) : Calls Tryz.prog 90 #[(.agg #[.int .i64 (n), .int .u64 (b)]), (.agg #[.int .i64 (m), .int .u64 (c)])] w fun e w' => e = .returned (.bool false) ∧ Below w.heap.size w w' := by
  have Q1 := hide h1
  have Q2 := hide h2
  clear h1 h2
  have mixed : Tryz.prog.follows .mixedOrders = true := by kernel_rfl
  have b1 := (((Below.refl w.heap.size w).alloc (Nat.le_refl _) (.cells #[.int .i64 n, .int .u64 b] 27)).alloc (by simp) (.cells #[.int .i64 m, .int .u64 c] 27)).drew
  have A0 := ((IsB.new w #[.int .i64 n, .int .u64 b] 27).below ((Below.refl _ _).alloc (Nat.le_refl _) (.cells #[.int .i64 m, .int .u64 c] 27))).below ((Below.refl _ _).drew)
  have C0 := (IsB.new (w.alloc (.cells #[.int .i64 n, .int .u64 b] 27)) #[.int .i64 m, .int .u64 c] 27).below ((Below.refl _ _).drew)
  rw [World.size_alloc] at C0
  have A := hide A0
  have C := hide C0
  have B := hide b1
  clear A0 C0 b1
  go_enter Tryz.func90, Tryz.ntmps90
  go_wp2_with fail
  obtain ⟨H, hH⟩ : ∃ H, w.heap.size = H := ⟨_, rfl⟩
  rw [hH] at A C ⊢
  replace hH := hide hH
  refine regionL 17 (fun w' => IsB w' H #[.int .i64 n, .int .u64 b] 27 ∧ IsB w' (H + 1) #[.int .i64 m, .int .u64 c] 27) mixed ⟨A.out, C.out⟩ (fun hHeld => ?_)
  generalize ((w.alloc (.cells #[.int .i64 n, .int .u64 b] 27)).alloc (.cells #[.int .i64 m, .int .u64 c] 27)).drew = WD at *
  refine pickL (v := .agg #[.int .i64 n, .int .u64 b]) 0 (some 5) rfl rfl (by kernel_rfl) (by kernel_rfl) (by kernel_rfl) (by decide) (by kernel_rfl) (by kernel_rfl) (fun _ _ _ h => h) (by rfl) ?_ (by assumption) ?_
  · intro w' hSw
    obtain ⟨q0, q1⟩ := hSw
    have z0 : w'.cell? ⟨H + 1, 0, none⟩ = some (.int .i64 m) := q1.cell 0
    exact exec_load rfl rfl (ld_vec2 q0)
  try simp only [Act.put, List.setIfInBounds_toArray, List.set_cons_zero, List.set_cons_succ]
  refine oneL (i := 1) (by kernel_rfl) rfl (fun K hK => ?_)
  go_simp
  refine (rright_any n b WD).mono ?_
  rintro e w2 ⟨rfl, hb⟩
  rw [Q1.out]
  replace A := hide (A.out.below hb)
  replace C := hide (C.out.below hb)
  replace B := hide (B.out.trans (hb.mono B.out.size))
  clear hb
  refine hK.out _ _ ?_ ?_
  · exact ⟨A.out, C.out⟩
  clear hK K
  try simp only [Act.put, List.setIfInBounds_toArray, List.set_cons_zero, List.set_cons_succ]
  clear hHeld
  have hHeld : (fun w' => IsB w' H #[.int .i64 n, .int .u64 b] 27 ∧ IsB w' (H + 1) #[.int .i64 m, .int .u64 c] 27) w2 := ⟨A.out, C.out⟩
  refine pickA (v := ?_) 2 (some 7) rfl rfl (by kernel_rfl) (by kernel_rfl) (by kernel_rfl) (by decide) (fun _ _ _ h => h) (by rfl) ?_ (by assumption) ?_
  rotate_left
  · intro w'
    go_simp
    try with_reducible rfl
  try simp only [Act.put, List.setIfInBounds_toArray, List.set_cons_zero, List.set_cons_succ]
  refine pickL (v := .agg #[.int .i64 m, .int .u64 c]) 3 (some 8) rfl rfl (by kernel_rfl) (by kernel_rfl) (by kernel_rfl) (by decide) (by kernel_rfl) (by kernel_rfl) (fun _ _ _ h => h) (by rfl) ?_ (by assumption) ?_
  · intro w' hSw
    obtain ⟨q0, q1⟩ := hSw
    have z0 : w'.cell? ⟨H + 1, 0, none⟩ = some (.int .i64 m) := q1.cell 0
    exact exec_load rfl rfl (ld_vec2 q1)
  try simp only [Act.put, List.setIfInBounds_toArray, List.set_cons_zero, List.set_cons_succ]
  refine oneL (i := 4) (by kernel_rfl) rfl (fun K hK => ?_)
  go_simp
  refine (rright_any m c w2).mono ?_
  rintro e w3 ⟨rfl, hb⟩
  rw [Q2.out]
  replace A := hide (A.out.below hb)
  replace C := hide (C.out.below hb)
  replace B := hide (B.out.trans (hb.mono B.out.size))
  clear hb
  refine hK.out _ _ ?_ ?_
  · exact ⟨A.out, C.out⟩
  clear hK K
  try simp only [Act.put, List.setIfInBounds_toArray, List.set_cons_zero, List.set_cons_succ]
  clear hHeld
  have hHeld : (fun w' => IsB w' H #[.int .i64 n, .int .u64 b] 27 ∧ IsB w' (H + 1) #[.int .i64 m, .int .u64 c] 27) w3 := ⟨A.out, C.out⟩
  refine pickA (v := ?_) 5 (some 10) rfl rfl (by kernel_rfl) (by kernel_rfl) (by kernel_rfl) (by decide) (fun _ _ _ h => h) (by rfl) ?_ (by assumption) ?_
  rotate_left
  · intro w'
    go_simp
    try with_reducible rfl
  try simp only [Act.put, List.setIfInBounds_toArray, List.set_cons_zero, List.set_cons_succ]
  refine pickA (v := ?_) 6 (some 11) rfl rfl (by kernel_rfl) (by kernel_rfl) (by kernel_rfl) (by decide) (fun _ _ _ h => h) (by rfl) ?_ (by assumption) ?_
  rotate_left
  · intro w'
    go_simp
    try with_reducible rfl
  try simp only [Act.put, List.setIfInBounds_toArray, List.set_cons_zero, List.set_cons_succ]
  refine pickN 7 (some 12) rfl rfl (by kernel_rfl) (by kernel_rfl) (by kernel_rfl) (by decide) (fun _ _ _ h => h) (by rfl) (by assumption) ?_
  try simp only [Act.put, List.setIfInBounds_toArray, List.set_cons_zero, List.set_cons_succ]
  refine pickN 8 (some 13) rfl rfl (by kernel_rfl) (by kernel_rfl) (by kernel_rfl) (by decide) (fun _ _ _ h => h) (by rfl) (by assumption) ?_
  try simp only [Act.put, List.setIfInBounds_toArray, List.set_cons_zero, List.set_cons_succ]
  refine pickN 9 (some 14) rfl rfl (by kernel_rfl) (by kernel_rfl) (by kernel_rfl) (by decide) (fun _ _ _ h => h) (by rfl) (by assumption) ?_
  try simp only [Act.put, List.setIfInBounds_toArray, List.set_cons_zero, List.set_cons_succ]
  refine pickN 10 (some 15) rfl rfl (by kernel_rfl) (by kernel_rfl) (by kernel_rfl) (by decide) (fun _ _ _ h => h) (by rfl) (by assumption) ?_
  try simp only [Act.put, List.setIfInBounds_toArray, List.set_cons_zero, List.set_cons_succ]
  refine pickN 11 (some 16) rfl rfl (by kernel_rfl) (by kernel_rfl) (by kernel_rfl) (by decide) (fun _ _ _ h => h) (by rfl) (by assumption) ?_
  try simp only [Act.put, List.setIfInBounds_toArray, List.set_cons_zero, List.set_cons_succ]
  refine pickN 12 (some 17) rfl rfl (by kernel_rfl) (by kernel_rfl) (by kernel_rfl) (by decide) (fun _ _ _ h => h) (by rfl) (by assumption) ?_
  try simp only [Act.put, List.setIfInBounds_toArray, List.set_cons_zero, List.set_cons_succ]
  refine pickN 13 (some 18) rfl rfl (by kernel_rfl) (by kernel_rfl) (by kernel_rfl) (by decide) (fun _ _ _ h => h) (by rfl) (by assumption) ?_
  try simp only [Act.put, List.setIfInBounds_toArray, List.set_cons_zero, List.set_cons_succ]
  refine pickN 14 (some 19) rfl rfl (by kernel_rfl) (by kernel_rfl) (by kernel_rfl) (by decide) (fun _ _ _ h => h) (by rfl) (by assumption) ?_
  try simp only [Act.put, List.setIfInBounds_toArray, List.set_cons_zero, List.set_cons_succ]
  refine pickA (v := ?_) 15 (some 20) rfl rfl (by kernel_rfl) (by kernel_rfl) (by kernel_rfl) (by decide) (fun _ _ _ h => h) (by rfl) ?_ (by assumption) ?_
  rotate_left
  · intro w'
    go_simp
    try with_reducible rfl
  try simp only [Act.put, List.setIfInBounds_toArray, List.set_cons_zero, List.set_cons_succ]
  refine pickA (v := ?_) 16 (some 4) rfl rfl (by kernel_rfl) (by kernel_rfl) (by kernel_rfl) (by decide) (fun _ _ _ h => h) (by rfl) ?_ (by assumption) ?_
  rotate_left
  · intro w'
    go_simp
    try with_reducible rfl
  try simp only [Act.put, List.setIfInBounds_toArray, List.set_cons_zero, List.set_cons_succ]
  refine doneL (by kernel_rfl) ?_ _
  clear hHeld
  go_wp2
  go_ret
  exact ⟨rfl, B.out⟩

set_option maxHeartbeats 2000000 in
set_option maxRecDepth 100000 in
theorem rBegins_c (N Bn Mn Cn : Nat) (hN : N ≤ 32) (hM : Mn ≤ 32) (hBn : Bn < 18446744073709551616) (hCn : Cn < 18446744073709551616) (h1 : rt (N : Int) (Bn : Int) = true) (h2 : rt (Mn : Int) (Cn : Int) = true) (w : World) : Calls Tryz.prog 90 #[(.agg #[.int .i64 ((N : Int)), .int .u64 ((Bn : Int))]), (.agg #[.int .i64 ((Mn : Int)), .int .u64 ((Cn : Int))])] w fun e w' => e = .returned (.bool (((cmn (bl N Bn) (bl Mn Cn) : Nat) : Int) == (Mn : Int))) ∧ Below w.heap.size w w' := by
  have Q1 := hide h1
  have Q2 := hide h2
  clear h1 h2
  have mixed : Tryz.prog.follows .mixedOrders = true := by kernel_rfl
  have b1 := (((Below.refl w.heap.size w).alloc (Nat.le_refl _) (.cells #[.int .i64 (N : Int), .int .u64 (Bn : Int)] 27)).alloc (by simp) (.cells #[.int .i64 (Mn : Int), .int .u64 (Cn : Int)] 27)).drew
  have A0 := ((IsB.new w #[.int .i64 (N : Int), .int .u64 (Bn : Int)] 27).below ((Below.refl _ _).alloc (Nat.le_refl _) (.cells #[.int .i64 (Mn : Int), .int .u64 (Cn : Int)] 27))).below ((Below.refl _ _).drew)
  have C0 := (IsB.new (w.alloc (.cells #[.int .i64 (N : Int), .int .u64 (Bn : Int)] 27)) #[.int .i64 (Mn : Int), .int .u64 (Cn : Int)] 27).below ((Below.refl _ _).drew)
  rw [World.size_alloc] at C0
  have A := hide A0
  have C := hide C0
  have B := hide b1
  clear A0 C0 b1
  go_enter Tryz.func90, Tryz.ntmps90
  go_wp2_with fail
  obtain ⟨H, hH⟩ : ∃ H, w.heap.size = H := ⟨_, rfl⟩
  rw [hH] at A C ⊢
  replace hH := hide hH
  refine regionL 17 (fun w' => IsB w' H #[.int .i64 (N : Int), .int .u64 (Bn : Int)] 27 ∧ IsB w' (H + 1) #[.int .i64 (Mn : Int), .int .u64 (Cn : Int)] 27) mixed ⟨A.out, C.out⟩ (fun hHeld => ?_)
  generalize ((w.alloc (.cells #[.int .i64 (N : Int), .int .u64 (Bn : Int)] 27)).alloc (.cells #[.int .i64 (Mn : Int), .int .u64 (Cn : Int)] 27)).drew = WD at *
  refine pickL (v := .agg #[.int .i64 (N : Int), .int .u64 (Bn : Int)]) 0 (some 5) rfl rfl (by kernel_rfl) (by kernel_rfl) (by kernel_rfl) (by decide) (by kernel_rfl) (by kernel_rfl) (fun _ _ _ h => h) (by rfl) ?_ (by assumption) ?_
  · intro w' hSw
    obtain ⟨q0, q1⟩ := hSw
    have z0 : w'.cell? ⟨H + 1, 0, none⟩ = some (.int .i64 (Mn : Int)) := q1.cell 0
    exact exec_load rfl rfl (ld_vec2 q0)
  try simp only [Act.put, List.setIfInBounds_toArray, List.set_cons_zero, List.set_cons_succ]
  refine oneL (i := 1) (by kernel_rfl) rfl (fun K hK => ?_)
  go_simp
  refine (rright_any (N : Int) (Bn : Int) WD).mono ?_
  rintro e w2 ⟨rfl, hb⟩
  rw [Q1.out]
  replace A := hide (A.out.below hb)
  replace C := hide (C.out.below hb)
  replace B := hide (B.out.trans (hb.mono B.out.size))
  clear hb
  refine hK.out _ _ ?_ ?_
  · exact ⟨A.out, C.out⟩
  clear hK K
  try simp only [Act.put, List.setIfInBounds_toArray, List.set_cons_zero, List.set_cons_succ]
  clear hHeld
  have hHeld : (fun w' => IsB w' H #[.int .i64 (N : Int), .int .u64 (Bn : Int)] 27 ∧ IsB w' (H + 1) #[.int .i64 (Mn : Int), .int .u64 (Cn : Int)] 27) w2 := ⟨A.out, C.out⟩
  refine pickA (v := ?_) 2 (some 7) rfl rfl (by kernel_rfl) (by kernel_rfl) (by kernel_rfl) (by decide) (fun _ _ _ h => h) (by rfl) ?_ (by assumption) ?_
  rotate_left
  · intro w'
    go_simp
    try with_reducible rfl
  try simp only [Act.put, List.setIfInBounds_toArray, List.set_cons_zero, List.set_cons_succ]
  refine pickL (v := .agg #[.int .i64 (Mn : Int), .int .u64 (Cn : Int)]) 3 (some 8) rfl rfl (by kernel_rfl) (by kernel_rfl) (by kernel_rfl) (by decide) (by kernel_rfl) (by kernel_rfl) (fun _ _ _ h => h) (by rfl) ?_ (by assumption) ?_
  · intro w' hSw
    obtain ⟨q0, q1⟩ := hSw
    have z0 : w'.cell? ⟨H + 1, 0, none⟩ = some (.int .i64 (Mn : Int)) := q1.cell 0
    exact exec_load rfl rfl (ld_vec2 q1)
  try simp only [Act.put, List.setIfInBounds_toArray, List.set_cons_zero, List.set_cons_succ]
  refine oneL (i := 4) (by kernel_rfl) rfl (fun K hK => ?_)
  go_simp
  refine (rright_any (Mn : Int) (Cn : Int) w2).mono ?_
  rintro e w3 ⟨rfl, hb⟩
  rw [Q2.out]
  replace A := hide (A.out.below hb)
  replace C := hide (C.out.below hb)
  replace B := hide (B.out.trans (hb.mono B.out.size))
  clear hb
  refine hK.out _ _ ?_ ?_
  · exact ⟨A.out, C.out⟩
  clear hK K
  try simp only [Act.put, List.setIfInBounds_toArray, List.set_cons_zero, List.set_cons_succ]
  clear hHeld
  have hHeld : (fun w' => IsB w' H #[.int .i64 (N : Int), .int .u64 (Bn : Int)] 27 ∧ IsB w' (H + 1) #[.int .i64 (Mn : Int), .int .u64 (Cn : Int)] 27) w3 := ⟨A.out, C.out⟩
  refine pickA (v := ?_) 5 (some 10) rfl rfl (by kernel_rfl) (by kernel_rfl) (by kernel_rfl) (by decide) (fun _ _ _ h => h) (by rfl) ?_ (by assumption) ?_
  rotate_left
  · intro w'
    go_simp
    try with_reducible rfl
  try simp only [Act.put, List.setIfInBounds_toArray, List.set_cons_zero, List.set_cons_succ]
  refine pickA (v := ?_) 6 (some 11) rfl rfl (by kernel_rfl) (by kernel_rfl) (by kernel_rfl) (by decide) (fun _ _ _ h => h) (by rfl) ?_ (by assumption) ?_
  rotate_left
  · intro w'
    go_simp
    try with_reducible rfl
  try simp only [Act.put, List.setIfInBounds_toArray, List.set_cons_zero, List.set_cons_succ]
  refine pickL (v := .agg #[.int .i64 (N : Int), .int .u64 (Bn : Int)]) 7 (some 12) rfl rfl (by kernel_rfl) (by kernel_rfl) (by kernel_rfl) (by decide) (by kernel_rfl) (by kernel_rfl) (fun _ _ _ h => h) (by rfl) ?_ (by assumption) ?_
  · intro w' hSw
    obtain ⟨q0, q1⟩ := hSw
    have z0 : w'.cell? ⟨H + 1, 0, none⟩ = some (.int .i64 (Mn : Int)) := q1.cell 0
    exact exec_load rfl rfl (ld_vec2 q0)
  try simp only [Act.put, List.setIfInBounds_toArray, List.set_cons_zero, List.set_cons_succ]
  refine pickL (v := .agg #[.int .i64 (Mn : Int), .int .u64 (Cn : Int)]) 9 (some 14) rfl rfl (by kernel_rfl) (by kernel_rfl) (by kernel_rfl) (by decide) (by kernel_rfl) (by kernel_rfl) (fun _ _ _ h => h) (by rfl) ?_ (by assumption) ?_
  · intro w' hSw
    obtain ⟨q0, q1⟩ := hSw
    have z0 : w'.cell? ⟨H + 1, 0, none⟩ = some (.int .i64 (Mn : Int)) := q1.cell 0
    exact exec_load rfl rfl (ld_vec2 q1)
  try simp only [Act.put, List.setIfInBounds_toArray, List.set_cons_zero, List.set_cons_succ]
  refine pickA (v := ?_) 12 (some 17) rfl rfl (by kernel_rfl) (by kernel_rfl) (by kernel_rfl) (by decide) (fun _ _ _ h => h) (by rfl) ?_ (by assumption) ?_
  rotate_left
  · intro w'
    go_simp
    try with_reducible rfl
  try simp only [Act.put, List.setIfInBounds_toArray, List.set_cons_zero, List.set_cons_succ]
  refine pickL (v := ?_) 13 (some 18) rfl rfl (by kernel_rfl) (by kernel_rfl) (by kernel_rfl) (by decide) (by kernel_rfl) (by kernel_rfl) (fun _ _ _ h => h) (by rfl) ?_ (by assumption) ?_
  rotate_left
  · intro w' hSw
    obtain ⟨q0, q1⟩ := hSw
    have z0 : w'.cell? ⟨H + 1, 0, none⟩ = some (.int .i64 (Mn : Int)) := q1.cell 0
    go_simp
    try with_reducible rfl
  try simp only [Act.put, List.setIfInBounds_toArray, List.set_cons_zero, List.set_cons_succ]
  refine oneL (i := 8) (by kernel_rfl) rfl (fun K hK => ?_)
  go_simp
  refine (bits_any N Bn hN hBn w3).mono ?_
  rintro e w4 ⟨g, rfl, hg, hown, hb⟩
  replace A := hide (A.out.below hb)
  replace C := hide (C.out.below hb)
  replace B := hide (B.out.trans (hb.mono B.out.size))
  have O1 := hide hown
  clear hown hg
  clear hb
  refine hK.out _ _ ?_ ?_
  · exact ⟨A.out, C.out⟩
  clear hK K
  try simp only [Act.put, List.setIfInBounds_toArray, List.set_cons_zero, List.set_cons_succ]
  clear hHeld
  have hHeld : (fun w' => IsB w' H #[.int .i64 (N : Int), .int .u64 (Bn : Int)] 27 ∧ IsB w' (H + 1) #[.int .i64 (Mn : Int), .int .u64 (Cn : Int)] 27) w4 := ⟨A.out, C.out⟩
  refine oneL (i := 10) (by kernel_rfl) rfl (fun K hK => ?_)
  go_simp
  refine (bits_any Mn Cn hM hCn w4).mono ?_
  rintro e w5 ⟨g2, rfl, hg, hown, hb⟩
  replace A := hide (A.out.below hb)
  replace C := hide (C.out.below hb)
  replace B := hide (B.out.trans (hb.mono B.out.size))
  have O2 := hide hown
  replace O1 := hide (ownsRow_below O1.out hb)
  clear hown hg
  clear hb
  refine hK.out _ _ ?_ ?_
  · exact ⟨A.out, C.out⟩
  clear hK K
  try simp only [Act.put, List.setIfInBounds_toArray, List.set_cons_zero, List.set_cons_succ]
  clear hHeld
  have hHeld : (fun w' => IsB w' H #[.int .i64 (N : Int), .int .u64 (Bn : Int)] 27 ∧ IsB w' (H + 1) #[.int .i64 (Mn : Int), .int .u64 (Cn : Int)] 27) w5 := ⟨A.out, C.out⟩
  refine oneL (i := 11) (by kernel_rfl) rfl (fun K hK => ?_)
  go_simp
  refine (rcommon_any g g2 N Mn N Mn (bl N Bn) (bl Mn Cn) w5 (bl_length _ _) (bl_length _ _) (by omega) (by omega) (row_of O1.out).2.1 (row_of O2.out).2.1).mono ?_
  rintro e w6 ⟨rfl, hb⟩
  replace A := hide (A.out.below hb)
  replace C := hide (C.out.below hb)
  replace B := hide (B.out.trans (hb.mono B.out.size))
  clear hb
  refine hK.out _ _ ?_ ?_
  · exact ⟨A.out, C.out⟩
  clear hK K
  try simp only [Act.put, List.setIfInBounds_toArray, List.set_cons_zero, List.set_cons_succ]
  clear hHeld
  have hHeld : (fun w' => IsB w' H #[.int .i64 (N : Int), .int .u64 (Bn : Int)] 27 ∧ IsB w' (H + 1) #[.int .i64 (Mn : Int), .int .u64 (Cn : Int)] 27) w6 := ⟨A.out, C.out⟩
  refine pickA (v := ?_) 14 (some 19) rfl rfl (by kernel_rfl) (by kernel_rfl) (by kernel_rfl) (by decide) (fun _ _ _ h => h) (by rfl) ?_ (by assumption) ?_
  rotate_left
  · intro w'
    go_simp
    try with_reducible rfl
  try simp only [Act.put, List.setIfInBounds_toArray, List.set_cons_zero, List.set_cons_succ]
  refine pickA (v := ?_) 15 (some 20) rfl rfl (by kernel_rfl) (by kernel_rfl) (by kernel_rfl) (by decide) (fun _ _ _ h => h) (by rfl) ?_ (by assumption) ?_
  rotate_left
  · intro w'
    go_simp
    try with_reducible rfl
  try simp only [Act.put, List.setIfInBounds_toArray, List.set_cons_zero, List.set_cons_succ]
  refine pickA (v := ?_) 16 (some 4) rfl rfl (by kernel_rfl) (by kernel_rfl) (by kernel_rfl) (by decide) (fun _ _ _ h => h) (by rfl) ?_ (by assumption) ?_
  rotate_left
  · intro w'
    go_simp
    try with_reducible rfl
  try simp only [Act.put, List.setIfInBounds_toArray, List.set_cons_zero, List.set_cons_succ]
  refine doneL (by kernel_rfl) ?_ _
  clear hHeld
  go_wp2
  go_ret
  exact ⟨rfl, B.out⟩

theorem rBegins_any (n b m c : Int) (hb : 0 ≤ b) (hc : 0 ≤ c) (w : World) : Calls Tryz.prog 90 #[(.agg #[.int .i64 (n), .int .u64 (b)]), (.agg #[.int .i64 (m), .int .u64 (c)])] w fun e w' => e = .returned (.bool (bgS n b m c)) ∧ Below w.heap.size w w' := by
  cases q1 : rt n b with
  | false =>
    have e : bgS n b m c = false := by unfold bgS; rw [q1]; rfl
    rw [e]; exact rBegins_a n b m c q1 w
  | true =>
    cases q2 : rt m c with
    | false =>
      have e : bgS n b m c = false := by unfold bgS; rw [q1, q2]; rfl
      rw [e]; exact rBegins_b n b m c q1 q2 w
    | true =>
      obtain ⟨n, b, m, c, rfl, rfl, rfl, rfl, h1, h2, h3, h4, h5, h6⟩ := both_nat (rbS_zero.2 ⟨q1, q2⟩) hb hc
      have E : bgS (n : Int) b m c = ((cmn (bl n b) (bl m c) : Nat) == (m : Int)) := by
        have := cmn_pre n b m c h3 h4
        unfold bgS
        rw [q1, q2]
        simp only [Bool.true_and, Int.toNat_natCast]
        rw [Bool.eq_iff_iff]
        simp only [Bool.and_eq_true, decide_eq_true_eq, beq_iff_eq]
        omega
      rw [E]
      exact rBegins_c n b m c h1 h2 h5 h6 q1 q2 w

set_option maxHeartbeats 400000 in
set_option maxRecDepth 100000 in
theorem isOwner_any (a o : Int) (w : World) : Calls Tryz.prog 28 #[.agg #[.int .i64 a, .int .i64 o]] w fun e w' => e = .returned (.bool (okO a o)) ∧ Below w.heap.size w w' := by
  by_cases h0 : a < 0
  · have E : okO a o = false := decide_eq_false (by omega)
    rw [E]
    have d0 : decide (0 ≤ a) = false := decide_eq_false (by omega)
    go_enter Tryz.func28, Tryz.ntmps28
    go_wp2
    go_ret
    exact ⟨rfl, by repeat (first | exact Below.refl _ _ | refine Below.alloc ?_ (by simp) _)⟩
  by_cases h1 : 1024 ≤ a
  · have E : okO a o = false := decide_eq_false (by omega)
    rw [E]
    have d0 : decide (0 ≤ a) = true := decide_eq_true (by omega)
    have d1 : decide (a < 1024) = false := decide_eq_false (by omega)
    go_enter Tryz.func28, Tryz.ntmps28
    go_wp2
    go_ret
    exact ⟨rfl, by repeat (first | exact Below.refl _ _ | refine Below.alloc ?_ (by simp) _)⟩
  by_cases h2 : o < 1
  · have E : okO a o = false := decide_eq_false (by omega)
    rw [E]
    have d0 : decide (0 ≤ a) = true := decide_eq_true (by omega)
    have d1 : decide (a < 1024) = true := decide_eq_true (by omega)
    have d2 : decide (1 ≤ o) = false := decide_eq_false (by omega)
    go_enter Tryz.func28, Tryz.ntmps28
    go_wp2
    go_ret
    exact ⟨rfl, by repeat (first | exact Below.refl _ _ | refine Below.alloc ?_ (by simp) _)⟩
  by_cases h3 : 1073741824 < o
  · have E : okO a o = false := decide_eq_false (by omega)
    rw [E]
    have d0 : decide (0 ≤ a) = true := decide_eq_true (by omega)
    have d1 : decide (a < 1024) = true := decide_eq_true (by omega)
    have d2 : decide (1 ≤ o) = true := decide_eq_true (by omega)
    have d3 : decide (o ≤ 1073741824) = false := decide_eq_false (by omega)
    go_enter Tryz.func28, Tryz.ntmps28
    go_wp2
    go_ret
    exact ⟨rfl, by repeat (first | exact Below.refl _ _ | refine Below.alloc ?_ (by simp) _)⟩
  have E : okO a o = true := decide_eq_true (by omega)
  rw [E]
  have d0 : decide (0 ≤ a) = true := decide_eq_true (by omega)
  have d1 : decide (a < 1024) = true := decide_eq_true (by omega)
  have d2 : decide (1 ≤ o) = true := decide_eq_true (by omega)
  have d3 : decide (o ≤ 1073741824) = true := decide_eq_true (by omega)
  go_enter Tryz.func28, Tryz.ntmps28
  go_wp2
  go_ret
  exact ⟨rfl, by repeat (first | exact Below.refl _ _ | refine Below.alloc ?_ (by simp) _)⟩

set_option maxHeartbeats 2000000 in
set_option maxRecDepth 100000 in
theorem rnew_bad (wl wb : Int) (me : Rf) (oa oo : Int) (hb0 : 0 ≤ me.bt) (hc0 : 0 ≤ wb) (hm : umayC wl wb me oa oo = false) (w : World) : Calls Tryz.prog 57 #[.agg (ucfL wl wb me oa oo).toArray] w fun e w' => e = .returned (.tuple #[.pointer none, .int .i64 140]) ∧ Below w.heap.size w w' := by
  replace hm := hide hm
  have b1 := (Below.refl w.heap.size w).alloc (Nat.le_refl _) (.cells (ucfL wl wb me oa oo).toArray 100)
  have CB := hide (IsB.new w (ucfL wl wb me oa oo).toArray 100)
  have B := hide b1
  clear b1
  have y3 : (w.alloc (.cells (ucfL wl wb me oa oo).toArray 100)).cell? ⟨w.heap.size, 3, none⟩ = some (.int .i64 me.rk) := CB.out.cell 3
  by_cases h1 : me.rk = 2
  rotate_left
  · have e1 : (me.rk == 2) = false := by simpa using h1
    have e2 : (me.rk != 2) = true := by simpa using h1
    clear hm
    generalize me.rk = rk at *
    go_enter Tryz.func57, Tryz.ntmps57
    go_wp2
    refine bodyPost_ret (results_tmp2 Tryz.results57 _ _ _) rfl ?_
    exact ⟨rfl, B.out⟩
  rw [h1] at y3
  replace h1 := hide h1
  have L1 := hide (ld_cmev CB.out)
  go_enter Tryz.func57, Tryz.ntmps57
  go_wp2_with (first | (focus ((with_reducible refine wpList_load_w ?_ 27 (.tmp 11) ?_ ?_ L1.out ?_); rotate_left; rfl; rfl; rotate_left; rfl)))
  generalize (w.alloc (.cells (ucfL wl wb me oa oo).toArray 100)) = W1 at *
  refine (rright_any me.ln me.bt W1).mono ?_
  rintro e w1 ⟨rfl, hb⟩
  replace CB := hide (CB.out.below hb)
  replace B := hide (B.out.trans (hb.mono B.out.size))
  clear hb
  clear L1 y3
  by_cases h0 : rt me.ln me.bt = true
  rotate_left
  · replace h0 : rt me.ln me.bt = false := by simpa using h0
    rw [h0]
    clear hm h0
    go_wp2
    refine bodyPost_ret (results_tmp2 Tryz.results57 _ _ _) rfl ?_
    exact ⟨rfl, B.out⟩
  replace h0 := hide h0
  rw [h0.out]
  have L1 := hide (ld_cmev CB.out)
  have L2 := hide (ld_cw CB.out)
  go_wp2_with (first | (focus ((with_reducible refine wpList_load_w ?_ 27 (.tmp 18) ?_ ?_ L1.out ?_); rotate_left; rfl; rfl; rotate_left; rfl)) | (focus ((with_reducible refine wpList_load_w ?_ 27 (.tmp 20) ?_ ?_ L2.out ?_); rotate_left; rfl; rfl; rotate_left; rfl)))
  refine (rBegins_any me.ln me.bt wl wb hb0 hc0 w1).mono ?_
  rintro e w2 ⟨rfl, hb⟩
  replace CB := hide (CB.out.below hb)
  replace B := hide (B.out.trans (hb.mono B.out.size))
  clear hb
  clear L1 L2
  by_cases h2 : bgS me.ln me.bt wl wb = true
  rotate_left
  · replace h2 : bgS me.ln me.bt wl wb = false := by simpa using h2
    rw [h2]
    clear hm h0 h1 h2
    go_wp2
    refine bodyPost_ret (results_tmp2 Tryz.results57 _ _ _) rfl ?_
    exact ⟨rfl, B.out⟩
  replace h2 := hide h2
  rw [h2.out]
  have L6 := hide (ld_cow CB.out)
  go_wp2_with (first | (focus ((with_reducible refine wpList_load_w ?_ 31 (.tmp 26) ?_ ?_ L6.out ?_); rotate_left; rfl; rfl; rotate_left; rfl)))
  refine (isOwner_any oa oo w2).mono ?_
  rintro e w5 ⟨rfl, hb⟩
  replace CB := hide (CB.out.below hb)
  replace B := hide (B.out.trans (hb.mono B.out.size))
  clear hb
  clear L6
  have h5 : okO oa oo = false := by
    cases h5 : okO oa oo with
    | false => rfl
    | true => have hm2 := hm.out; unfold umayC at hm2; rw [h2.out, h5, h1.out] at hm2; simp at hm2
  rw [h5]
  clear hm h0 h1 h2 h5
  go_wp2
  refine bodyPost_ret (results_tmp2 Tryz.results57 _ _ _) rfl ?_
  exact ⟨rfl, B.out⟩

set_option maxHeartbeats 2000000 in
set_option maxRecDepth 100000 in
theorem rnew_ok (wl wb : Int) (me : Rf) (oa oo : Int) (hb0 : 0 ≤ me.bt) (hc0 : 0 ≤ wb) (hm : umayC wl wb me oa oo = true) (w : World) : Calls Tryz.prog 57 #[.agg (ucfL wl wb me oa oo).toArray] w fun e w' => ∃ d, e = .returned (.tuple #[.pointer (some ⟨d, 0, none⟩), .int .i64 0]) ∧ DsAt w' d (newD wl wb me oa oo) ∧ w.heap.size ≤ d ∧ Below w.heap.size w w' := by
  unfold umayC at hm
  simp only [Bool.and_eq_true, beq_iff_eq] at hm
  obtain ⟨h1, h2, h5⟩ := hm
  replace h2 := hide h2
  replace h5 := hide h5
  have h0 : rt me.ln me.bt = true := by
    have g2 := h2.out
    unfold bgS at g2
    simp only [Bool.and_eq_true] at g2
    exact g2.1.1.1
  replace h0 := hide h0
  have b1 := (Below.refl w.heap.size w).alloc (Nat.le_refl _) (.cells (ucfL wl wb me oa oo).toArray 100)
  have CB := hide (IsB.new w (ucfL wl wb me oa oo).toArray 100)
  have B := hide b1
  clear b1
  have y3 : (w.alloc (.cells (ucfL wl wb me oa oo).toArray 100)).cell? ⟨w.heap.size, 3, none⟩ = some (.int .i64 me.rk) := CB.out.cell 3
  rw [h1] at y3
  replace h1 := hide h1
  have L1 := hide (ld_cmev CB.out)
  go_enter Tryz.func57, Tryz.ntmps57
  go_wp2_with (first | (focus ((with_reducible refine wpList_load_w ?_ 27 (.tmp 11) ?_ ?_ L1.out ?_); rotate_left; rfl; rfl; rotate_left; rfl)))
  generalize (w.alloc (.cells (ucfL wl wb me oa oo).toArray 100)) = W1 at *
  refine (rright_any me.ln me.bt W1).mono ?_
  rintro e w1 ⟨rfl, hb⟩
  replace CB := hide (CB.out.below hb)
  replace B := hide (B.out.trans (hb.mono B.out.size))
  clear hb
  clear L1 y3
  rw [h0.out]
  have L1 := hide (ld_cmev CB.out)
  have L2 := hide (ld_cw CB.out)
  go_wp2_with (first | (focus ((with_reducible refine wpList_load_w ?_ 27 (.tmp 18) ?_ ?_ L1.out ?_); rotate_left; rfl; rfl; rotate_left; rfl)) | (focus ((with_reducible refine wpList_load_w ?_ 27 (.tmp 20) ?_ ?_ L2.out ?_); rotate_left; rfl; rfl; rotate_left; rfl)))
  refine (rBegins_any me.ln me.bt wl wb hb0 hc0 w1).mono ?_
  rintro e w2 ⟨rfl, hb⟩
  replace CB := hide (CB.out.below hb)
  replace B := hide (B.out.trans (hb.mono B.out.size))
  clear hb
  clear L1 L2
  rw [h2.out]
  have L6 := hide (ld_cow CB.out)
  go_wp2_with (first | (focus ((with_reducible refine wpList_load_w ?_ 31 (.tmp 26) ?_ ?_ L6.out ?_); rotate_left; rfl; rfl; rotate_left; rfl)))
  refine (isOwner_any oa oo w2).mono ?_
  rintro e w5 ⟨rfl, hb⟩
  replace CB := hide (CB.out.below hb)
  replace B := hide (B.out.trans (hb.mono B.out.size))
  clear hb
  clear L6
  rw [h5.out]
  have LC : Hid ((Instr.loadAt 100 (.pointer (some ⟨w.heap.size, 0, none⟩))).run Tryz.prog w5 = .ok (.agg #[.int .i64 wl, .int .u64 wb, .int .i64 me.id, .int .i64 me.rk, .int .u64 me.kn, .int .i64 me.ln, .int .u64 me.bt, .int .i64 oa, .int .i64 oo]) w5) := ld_cconf CB.out
  have bS := (Below.refl w5.heap.size w5).alloc (Nat.le_refl _) (.cells (usL (newD wl wb me oa oo)).toArray 102)
  have F0 : Hid (DsAt (w5.alloc (.cells (usL (newD wl wb me oa oo)).toArray 102)) w5.heap.size (newD wl wb me oa oo)) := IsB.new w5 _ _
  have hsz := hide B.out.size
  replace B := hide (B.out.trans (bS.mono B.out.size))
  clear bS CB h0 h1 h2 h5
  go_wp2_with (first | (focus ((with_reducible refine wpList_load_w ?_ 100 (.tmp 1) ?_ ?_ LC.out ?_); rotate_left; rfl; rfl; rotate_left; rfl)))
  refine bodyPost_ret (results_tmp2 Tryz.results57 _ _ _) rfl ?_
  exact ⟨w5.heap.size, rfl, F0.out, hsz.out, B.out⟩

end Go.Proofs.YtokehogcenjefaaGreatDoor.Un
