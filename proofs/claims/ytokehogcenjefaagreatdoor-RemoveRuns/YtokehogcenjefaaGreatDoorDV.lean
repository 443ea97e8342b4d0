/- The document's Right, Bits, common, Begins (chapter 1), on the road of stage 1's texts. -/
import Derived.Test.YtokehogcenjefaaGreatDoorSI
namespace Go.Proofs.YtokehogcenjefaaGreatDoor
open Go.RowKit

/-- The row. -/
def bl (n b : Nat) : List Nat := (List.range n).map (bt n b)
/-- The number of a row. -/
def ofl (l : List Nat) : Nat := l.foldl (fun a x => a * 2 + x) 0
/-- That of the others. -/
def rst (n b k : Nat) : Nat := b % 2 ^ (n - k)
/-- That of the vector with bit i turned. -/
def flp (n b i : Nat) : Nat := b ^^^ 2 ^ (n - 1 - i)
/-- That of two, one behind the other. -/
def jn (b m c : Nat) : Nat := b * 2 ^ m + c
/-- How many first ones two rows have in common. -/
def cmn : List Nat → List Nat → Nat
 | a :: s, b :: t => if a = b then cmn s t + 1 else 0
 | _, _ => 0

theorem bl_length (n b : Nat) : (bl n b).length = n := by simp [bl]
theorem bl_get (n b i : Nat) (h : i < n) : (bl n b)[i]? = some (bt n b i) := by simp [bl, h]
theorem bt_le (n b i : Nat) : bt n b i ≤ 1 := by unfold bt; omega
theorem bt_test (n b i : Nat) : bt n b i = (b.testBit (n - 1 - i)).toNat := by rw [Nat.toNat_testBit]; rfl

theorem foldl_ofl (m : List Nat) (a : Nat) : m.foldl (fun a x => a * 2 + x) a = a * 2 ^ m.length + ofl m := by
 unfold ofl
 induction m generalizing a with
 | nil => simp
 | cons x t ih =>
   simp only [List.foldl_cons, List.length_cons]
   rw [ih, ih (0 * 2 + x), Nat.pow_succ]
   simp only [Nat.add_mul, Nat.mul_assoc, Nat.zero_mul, Nat.zero_add, Nat.mul_comm 2]
   omega

theorem ofl_append (l m : List Nat) : ofl (l ++ m) = ofl l * 2 ^ m.length + ofl m := by
 rw [ofl, List.foldl_append, foldl_ofl]; rfl
theorem ofl_snoc (l : List Nat) (x : Nat) : ofl (l ++ [x]) = ofl l * 2 + x := by
 rw [ofl_append]; simp [ofl]
theorem ofl_lt (l : List Nat) (h : ∀ x ∈ l, x ≤ 1) : ofl l < 2 ^ l.length := by
 induction l with
 | nil => simp [ofl]
 | cons x t ih =>
   have e : x :: t = [x] ++ t := rfl
   rw [e, ofl_append]
   have := ih (fun y hy => h y (by simp [hy]))
   have hx := h x (by simp)
   simp only [List.length_append, List.length_cons, List.length_nil]
   rw [Nat.pow_add]
   have e1 : ofl [x] = x := by simp [ofl]
   rw [e1]
   rcases Nat.le_one_iff_eq_zero_or_eq_one.1 hx with rfl | rfl <;> omega

theorem bl_take (n b k : Nat) (h : k ≤ n) : (bl n b).take k = bl k (b / 2 ^ (n - k)) := by
 apply List.ext_getElem?
 intro i
 by_cases hi : i < k
 · rw [List.getElem?_take, if_pos hi, bl_get _ _ _ (by omega), bl_get _ _ _ hi]
   unfold bt
   rw [Nat.div_div_eq_div_mul, ← Nat.pow_add]
   have : n - k + (k - 1 - i) = n - 1 - i := by omega
   rw [this]
 · rw [List.getElem?_eq_none (by simp [bl_length]; omega), List.getElem?_eq_none (by simp [bl_length]; omega)]

theorem bl_drop (n b k : Nat) (h : k ≤ n) : (bl n b).drop k = bl (n - k) (b % 2 ^ (n - k)) := by
 apply List.ext_getElem?
 intro i
 by_cases hi : i < n - k
 · rw [List.getElem?_drop, bl_get _ _ _ (by omega), bl_get _ _ _ hi, bt_test, bt_test, Nat.testBit_mod_two_pow]
   have e : n - 1 - (k + i) = n - k - 1 - i := by omega
   rw [e, decide_eq_true (by omega)]
   simp
 · rw [List.getElem?_eq_none (by simp [bl_length]; omega), List.getElem?_eq_none (by simp [bl_length]; omega)]

theorem bl_succ (n b : Nat) : bl (n + 1) b = bl n (b / 2) ++ [b % 2] := by
 have h1 := bl_take (n + 1) b n (by omega)
 have h2 := bl_drop (n + 1) b n (by omega)
 have e : n + 1 - n = 1 := by omega
 rw [e, Nat.pow_one] at h1 h2
 rw [← List.take_append_drop n (bl (n + 1) b), h1, h2]
 simp [bl, bt]

theorem ofl_bl (n b : Nat) (h : b < 2 ^ n) : ofl (bl n b) = b := by
 induction n generalizing b with
 | zero => simp [bl, ofl] at *; omega
 | succ n ih =>
   rw [bl_succ, ofl_snoc, ih (b / 2) (by rw [Nat.pow_succ] at h; omega)]
   omega

theorem ofl_bl_take (n b k : Nat) (hb : b < 2 ^ n) (h : k ≤ n) : ofl ((bl n b).take k) = b / 2 ^ (n - k) := by
 rw [bl_take n b k h, ofl_bl]
 rw [Nat.div_lt_iff_lt_mul (Nat.two_pow_pos _), ← Nat.pow_add]
 have : k + (n - k) = n := by omega
 rw [this]; exact hb
theorem ofl_bl_drop (n b k : Nat) (h : k ≤ n) : ofl ((bl n b).drop k) = b % 2 ^ (n - k) := by
 rw [bl_drop n b k h, ofl_bl]
 exact Nat.mod_lt _ (Nat.two_pow_pos _)

theorem bl_mem (n b : Nat) : ∀ x ∈ bl n b, x ≤ 1 := by
 intro x hx; simp only [bl, List.mem_map] at hx; obtain ⟨i, _, rfl⟩ := hx; exact bt_le _ _ _

theorem bl_flip (n b i : Nat) (h : i < n) : (bl n b).set i (1 - bt n b i) = bl n (b ^^^ 2 ^ (n - 1 - i)) := by
 apply List.ext_getElem?
 intro j
 by_cases hj : j < n
 · rw [List.getElem?_set, bl_get _ _ _ hj, bl_get _ _ _ hj]
   by_cases e : i = j
   · subst e
     rw [if_pos rfl, if_pos (by rw [bl_length]; exact h), bt_test, bt_test, Nat.testBit_xor, Nat.testBit_two_pow_self]
     cases b.testBit (n - 1 - i) <;> rfl
   · rw [if_neg e, bt_test, bt_test, Nat.testBit_xor, Nat.testBit_two_pow_of_ne (by omega)]
     simp
 · rw [List.getElem?_eq_none (by simp [bl_length]; omega), List.getElem?_eq_none (by simp [bl_length]; omega)]

theorem xor_lt (n b i : Nat) (hb : b < 2 ^ n) (h : i < n) : b ^^^ 2 ^ (n - 1 - i) < 2 ^ n :=
 Nat.xor_lt_two_pow hb (Nat.pow_lt_pow_right (by omega) (by omega))

theorem ofl_flip (n b i : Nat) (hb : b < 2 ^ n) (h : i < n) : ofl ((bl n b).set i (1 - bt n b i)) = b ^^^ 2 ^ (n - 1 - i) := by
 rw [bl_flip n b i h, ofl_bl _ _ (xor_lt n b i hb h)]

theorem shl_or (b c m : Nat) (hc : c < 2 ^ m) : b * 2 ^ m ||| c = b * 2 ^ m + c := by
 rw [Nat.mul_comm]; exact (Nat.two_pow_add_eq_or_of_lt hc b).symm

theorem cmn_le (a b : List Nat) : cmn a b ≤ a.length ∧ cmn a b ≤ b.length := by
 induction a generalizing b with
 | nil => simp [cmn]
 | cons x s ih =>
   cases b with
   | nil => simp [cmn]
   | cons y t =>
     simp only [cmn]
     have := ih t
     split <;> simp <;> omega

theorem cmn_same (a b : List Nat) : ∀ i, i < cmn a b → a[i]? = b[i]? := by
 induction a generalizing b with
 | nil => simp [cmn]
 | cons x s ih =>
   cases b with
   | nil => simp [cmn]
   | cons y t =>
     intro i hi
     simp only [cmn] at hi
     split at hi
     · rename_i e
       cases i with
       | zero => simp [e]
       | succ i => simpa using ih t i (by omega)
     · omega

theorem cmn_eq (a b : List Nat) (k : Nat) (h1 : k ≤ a.length) (h2 : k ≤ b.length) (h3 : ∀ i, i < k → a[i]? = b[i]?) (h4 : k = a.length ∨ k = b.length ∨ a[k]? ≠ b[k]?) : cmn a b = k := by
 induction a generalizing b k with
 | nil => simp at h1; simp [cmn, h1]
 | cons x s ih =>
   cases b with
   | nil => simp at h2; simp [cmn, h2]
   | cons y t =>
     cases k with
     | zero =>
       have : x ≠ y := by
         rcases h4 with h4 | h4 | h4
         · simp at h4
         · simp at h4
         · simpa using h4
       simp [cmn, this]
     | succ k =>
       have e : x = y := by simpa using h3 0 (by omega)
       simp only [cmn, if_pos e]
       rw [ih t k (by simpa using h1) (by simpa using h2) (fun i hi => by simpa using h3 (i + 1) (by omega)) (by simpa using h4)]

theorem pre_lt (n b k : Nat) (hb : b < 2 ^ n) (h : k ≤ n) : pre n b k < 2 ^ k := by
 unfold pre
 rw [Nat.div_lt_iff_lt_mul (Nat.two_pow_pos _), ← Nat.pow_add]
 have : k + (n - k) = n := by omega
 rw [this]; exact hb
theorem rst_lt (n b k : Nat) : rst n b k < 2 ^ (n - k) := Nat.mod_lt _ (Nat.two_pow_pos _)
theorem jn_lt (n b m c : Nat) (hb : b < 2 ^ n) (hc : c < 2 ^ m) : jn b m c < 2 ^ (n + m) := by
 unfold jn
 rw [Nat.pow_add]
 have : (b + 1) * 2 ^ m ≤ 2 ^ n * 2 ^ m := Nat.mul_le_mul_right _ hb
 rw [Nat.add_mul] at this
 omega
theorem jn_pre_rst (n b k : Nat) : jn (pre n b k) (n - k) (rst n b k) = b := by
 unfold jn pre rst
 rw [Nat.mul_comm]; exact Nat.div_add_mod _ _
theorem pre_all (n b : Nat) : pre n b n = b := by simp [pre]
theorem p32 (n : Nat) (h : n ≤ 32) : 2 ^ n ≤ 4294967296 := Nat.le_trans (Nat.pow_le_pow_right (by omega) h) (by decide)

theorem rt_nat {n b : Int} (h : rt n b = true) (h0 : 0 ≤ b) : ∃ m c : Nat, n = (m : Int) ∧ b = (c : Int) ∧ m ≤ 32 ∧ c < 2 ^ m := by
 have h := of_decide_eq_true h
 obtain ⟨m, rfl⟩ := Int.eq_ofNat_of_zero_le h.1
 obtain ⟨c, rfl⟩ := Int.eq_ofNat_of_zero_le h0
 refine ⟨m, c, rfl, rfl, by omega, ?_⟩
 have := h.2.2
 rw [Int.toNat_natCast] at this
 exact_mod_cast this
theorem rt_of (m c : Nat) (h : m ≤ 32) (hc : c < 2 ^ m) : rt (m : Int) (c : Int) = true := by
 refine decide_eq_true ⟨by omega, by omega, ?_⟩
 rw [Int.toNat_natCast]
 exact_mod_cast hc

theorem pow_step (k : Nat) (h : k < 63) : IntKind.u64.wrap (2 ^ k * 2) = ((2 ^ (k + 1) : Nat) : Int) := by
 have hp : 2 ^ (k + 1) ≤ 2 ^ 63 := Nat.pow_le_pow_right (by omega) (by omega)
 have e : ((2 : Int) ^ k * 2) = ((2 ^ (k + 1) : Nat) : Int) := by rw [Nat.pow_succ]; simp
 rw [e]
 have hq : 0 < 2 ^ (k + 1) := Nat.two_pow_pos _
 generalize 2 ^ (k + 1) = y at *
 exact wrap_u64 (by omega) (by omega)

set_option maxHeartbeats 400000 in
theorem power_any (n : Int) (h0 : 0 ≤ n) (h1 : n ≤ 63) (w : World) :
   Calls Tryz.prog 95 #[.int .i64 n] w fun e w' => e = .returned (.int .u64 (2 ^ n.toNat : Nat)) ∧ w' = w := by
 obtain ⟨m, rfl⟩ := Int.eq_ofNat_of_zero_le h0
 rw [Int.toNat_natCast]
 have hm : m ≤ 63 := by omega
 clear h0 h1
 go_enter Tryz.func95, Tryz.ntmps95
 go_wp2
 go_loop [0, 3] (fun i x => ∃ k : Nat, k ≤ m ∧ i = .int .i64 ((m - k : Nat) : Int) ∧ x = .int .u64 ((2 ^ k : Nat) : Int)) (fun i _ => (intOf i).toNat)
 case atStart => exact ⟨0, by omega, by simp, rfl⟩
 case round =>
   obtain ⟨k, hk, rfl, rfl⟩ := hrel
   by_cases hlt : k < m
   · have H : Hid (IntKind.u64.wrap (2 ^ k * 2) = ((2 ^ (k + 1) : Nat) : Int)) := pow_step k (by omega)
     go_wp2
     refine ⟨⟨k + 1, by omega, ?_, ?_⟩, ?_⟩
     · rw [show ((m - k : Nat) : Int) - 1 = ((m - (k + 1) : Nat) : Int) from by omega]
     · rw [H.out]
     · simp [intOf]; omega
   · go_wp2
     go_ret
     have e : k = m := by omega
     rw [e]; simp

set_option maxHeartbeats 400000 in
theorem rright_in (n b : Int) (h0 : 0 ≤ n) (h1 : n ≤ 32) (w : World) :
   Calls Tryz.prog 68 #[(.agg #[.int .i64 (n), .int .u64 (b)])] w fun e w' => e = .returned (.bool (decide (b < 2 ^ n.toNat))) ∧ Below w.heap.size w w' := by
 go_enter Tryz.func68, Tryz.ntmps68
 go_wp2
 go_quiet ((go_at_call 95; exact Calls.quiet_of_same (power_any _ (by omega) (by omega) _)))
 go_wp2
 go_ret
 exact ⟨rfl, below_drewN ((Below.refl _ _).alloc (Nat.le_refl _) _) _⟩

set_option maxHeartbeats 400000 in
theorem rright_out (n b : Int) (h : n < 0 ∨ 32 < n) (w : World) :
   Calls Tryz.prog 68 #[(.agg #[.int .i64 (n), .int .u64 (b)])] w fun e w' => e = .returned (.bool false) ∧ Below w.heap.size w w' := by
 rcases h with h | h
 · have h1 : decide (0 ≤ n) = false := by simp; omega
   go_enter Tryz.func68, Tryz.ntmps68
   go_wp2
   go_quiet (fail)
   go_wp2
   go_ret
   exact ⟨rfl, below_drewN ((Below.refl _ _).alloc (Nat.le_refl _) _) _⟩
 · have h0 : 0 ≤ n := by omega
   have h1 : decide (n ≤ 32) = false := by simp; omega
   go_enter Tryz.func68, Tryz.ntmps68
   go_wp2
   go_quiet (fail)
   go_wp2
   go_ret
   exact ⟨rfl, below_drewN ((Below.refl _ _).alloc (Nat.le_refl _) _) _⟩

theorem rright_any (n b : Int) (w : World) :
   Calls Tryz.prog 68 #[(.agg #[.int .i64 (n), .int .u64 (b)])] w fun e w' => e = .returned (.bool (rt n b)) ∧ Below w.heap.size w w' := by
 by_cases h : n < 0 ∨ 32 < n
 · have e : rt n b = false := by unfold rt; simp; omega
   rw [e]; exact rright_out n b h w
 · have e : rt n b = decide (b < 2 ^ n.toNat) := by unfold rt; rw [decide_eq_decide]; constructor <;> intro h' <;> first | exact h'.2.2 | exact ⟨by omega, by omega, h'⟩
   rw [e]; exact rright_in n b (by omega) (by omega) w

theorem xbcell {W w1 : World} (hb : Below W.heap.size W w1) : (∀ b o, b < W.heap.size → w1.cell? ⟨b, o, none⟩ = W.cell? ⟨b, o, none⟩) ∧ (∀ b o, b < W.heap.size → w1.frozen? ⟨b, o, none⟩ = W.frozen? ⟨b, o, none⟩) :=
 ⟨fun b o h => hb.cell (p := ⟨b, o, none⟩) h, fun b o h => hb.frozen (p := ⟨b, o, none⟩) h⟩
theorem xbelow {w w1 : World} (h : w.grownBy w1 none) : Below w.heap.size w w1 := ⟨h.os, h.tape, h.output, h.size, fun k hk => h.block k hk (by simp)⟩
theorem xbx {w w1 : World} {o : Obj} (hb : Below (w.alloc o).heap.size (w.alloc o) w1) : Below w.heap.size w w1 :=
 ((Below.refl _ _).alloc (Nat.le_refl _) _).trans (hb.mono (by simp))

/-- A bit as a cell. -/
def bcel (x : Nat) : Value := .int .i64 (x : Int)
/-- The row of a vector when its last k bits are laid. -/
def rowK (n b k : Nat) : List Value := (List.range n).map fun j => bcel (if j + k < n then 0 else bt n b j)

theorem rowK_zero (n b : Nat) : rowK n b 0 = List.replicate n (.int .i64 0) := by
 apply List.ext_getElem?
 intro j
 by_cases hj : j < n <;> simp [rowK, hj, bcel]
theorem rowK_all (n b : Nat) : rowK n b n = (bl n b).map bcel := by
 simp only [rowK, bl, List.map_map]
 apply List.map_congr_left
 intro j _
 rw [if_neg (by omega)]; rfl
theorem rowK_step (n b k : Nat) (hk : k < n) : (rowK n b k).set (n - 1 - k) (.int .i64 ((b / 2 ^ k % 2 : Nat) : Int)) = rowK n b (k + 1) := by
 apply List.ext_getElem?
 intro j
 by_cases hj : j < n
 · rw [List.getElem?_set]
   by_cases e : n - 1 - k = j
   · have e2 : n - 1 - j = k := by omega
     rw [if_pos e, if_pos (by simp [rowK]; omega)]
     simp only [rowK, List.getElem?_map, List.getElem?_range hj, Option.map_some, bt, e2, bcel]
     rw [if_neg (by omega)]
   · rw [if_neg e]
     simp only [rowK, List.getElem?_map, List.getElem?_range hj, Option.map_some]
     by_cases e3 : j + k < n
     · rw [if_pos e3, if_pos (by omega)]
     · rw [if_neg e3, if_neg (by omega)]
 · simp [rowK, hj]

theorem Tryz.info3 : (Tryz.prog.info? 3).map (fun i => (i.zero, i.size, i.bytes)) = some (some (.int .i64 0), 1, 8) := by kernel_rfl

set_option maxHeartbeats 2000000 in
set_option maxRecDepth 100000 in
theorem bits_any (n b : Nat) (hn : n ≤ 32) (hb : b < 18446744073709551616) (w : World) :
   Calls Tryz.prog 71 #[(.agg #[.int .i64 ((n : Int)), .int .u64 ((b : Int))])] w fun e w' => ∃ g, e = .returned (.slice (some ⟨g, 0, none⟩) n n) ∧ w.heap.size ≤ g ∧
     w'.ownsRow w.heap.size 3 1 (.slice (some ⟨g, 0, none⟩) n n) n ((bl n b).map bcel) ∧ Below w.heap.size w w' := by
 obtain ⟨i0, hi, hz0, hz1, hz2⟩ := info_parts Tryz.info3
 go_enter Tryz.func71, Tryz.ntmps71
 go_wp2_with (at_make; refine wpList_make_full _ rfl _ _ 155 rfl w.heap.size 3 i0 (.int .i64 0) 1 Tryz.underlying155 hi hz0 hz1 .i64 .i64 _ _ n rfl rfl rfl rfl (by rw [hz2]; omega) (by unfold maxLen; omega) (by simp) ?_)
 intro w1 hown hgrow
 have hb1 := xbelow hgrow
 obtain ⟨hc, hf⟩ := xbcell hb1
 have hbw := xbx hb1
 have hz : w.heap.size + 1 + 1 ≤ w1.heap.size := by
   have := (hown.lt (w.heap.size + 1) (by simp [Value.ownBlock])).2
   omega
 clear hgrow hb1 hf
 have hown : w1.ownsRow w.heap.size 3 1 (.slice (some ⟨w.heap.size + 1, 0, none⟩) n n) n (rowK n b 0) := by
   rw [rowK_zero, ← toList_madeCells_one]
   simpa [Value.cells] using hown
 go_wp2
 go_loopw [4, 5] (fun x i wr => ∃ k : Nat, k ≤ n ∧ i = .int .i64 ((n : Int) - 1 - k) ∧ x = .int .u64 ((b / 2 ^ k : Nat) : Int) ∧
     wr.ownsRow w.heap.size 3 1 (.slice (some ⟨w.heap.size + 1, 0, none⟩) n n) n (rowK n b k) ∧ Below w.heap.size w wr)
   (fun _ i _ => (intOf i + 1).toNat)
 case atStart => exact ⟨0, by omega, by simp, by simp, hown, hbw⟩
 case round =>
   clear hown hbw hc hz
   obtain ⟨k, hk, rfl, rfl, hown, hbw⟩ := hrel
   by_cases hlt : k < n
   · have hst := hown.stored (n - 1 - k) (.int .i64 ((b / 2 ^ k % 2 : Nat) : Int))
     have hfz := hown.frozenAt (n - 1 - k)
     rw [rowK_step n b k hlt] at hst
     obtain ⟨hst, _⟩ := hst
     obtain ⟨u, hcl⟩ : ∃ u, wr.cell? ⟨w.heap.size + 1, n - 1 - k, none⟩ = some u := by
       rw [hown.cellAt (n - 1 - k) (by omega)]
       simp [rowK, show n - 1 - k < n from by omega]
     have em : ((b / 2 ^ k % 2 : Nat) : Int) = ((b / 2 ^ k : Nat) : Int) % 2 := by omega
     rw [em] at hst
     have HS := hide hst
     clear hst em
     have H2 : Hid (b / 2 ^ (k + 1) = b / 2 ^ k / 2) := by
       show _ = _
       rw [Nat.div_div_eq_div_mul, Nat.pow_succ]
     have hq : b / 2 ^ k < 18446744073709551616 := Nat.lt_of_le_of_lt (Nat.div_le_self _ _) hb
     rw [show ((n : Int) - 1 - k) = ((n - 1 - k : Nat) : Int) from by omega]
     generalize hj : n - 1 - k = j at *
     have hj2 : j < n := by omega
     have HJ := hide hj
     clear hj hb
     generalize b / 2 ^ k = q at *
     go_wp2
     refine ⟨⟨k + 1, by omega, ?_, ?_, HS.out, ?_⟩, ?_⟩
     · have := HJ.out; rw [show ((j : Int) - 1) = (n : Int) - 1 - ((k + 1 : Nat) : Int) from by omega]
     · rw [H2.out]; simp
     · exact hbw.setCell (by simp) _
     · simp [intOf]
   · go_wp2
     go_ret
     have e : k = n := by omega
     subst e
     rw [rowK_all] at hown
     exact ⟨_, rfl, by omega, hown, hbw⟩

/-- What a slice of numbers holds. -/
def Row (w : World) (g o : Nat) (l : List Nat) : Prop := ∀ j, j < l.length → w.cell? ⟨g, o + j, none⟩ = some (bcel (l.getD j 0))
theorem ownsRow_below {w w' : World} {B e size : Nat} {v : Value} {n : Nat} {xs : List Value} (h : w.ownsRow B e size v n xs) (hb : Below w.heap.size w w') : w'.ownsRow B e size v n xs :=
 h.kept (row := none) ⟨hb.os, hb.tape, hb.output, hb.size, fun k hk _ => hb.block k hk⟩ (by
   rcases h.2 with ⟨rfl, _⟩ | ⟨g, cap, cur, rfl, _⟩
   · exact Or.inl rfl
   · exact Or.inr (by simp [Value.ownBlock]))
theorem row_of {w : World} {base g n cap : Nat} {l : List Nat} (h : w.ownsRow base 3 1 (.slice (some ⟨g, 0, none⟩) n cap) n (l.map bcel)) : l.length = n ∧ Row w g 0 l ∧ g < w.heap.size ∧ (∀ j, w.frozen? ⟨g, j, none⟩ = false) := by
 have hl : l.length = n := by simpa using h.1
 refine ⟨hl, ?_, (h.lt g (by simp [Value.ownBlock])).2, fun j => h.frozenAt j⟩
 intro j hj
 rw [Nat.zero_add, h.cellAt j (by omega)]
 simp [hj]

section
attribute [local go_sem ↓] Go.wp_at_zero Go.wp_at_succ
theorem getD_get (l : List Nat) (i : Nat) (h : i < l.length) : l[i]? = some (l.getD i 0) := by simp [h]
theorem neb (x y : Nat) (h : x ≠ y) : ((x : Int) == (y : Int)) = false := by simp; omega

set_option maxHeartbeats 800000 in
theorem rcommon_any (g g2 n m cap cap2 : Nat) (l r : List Nat) (w : World) (hl : l.length = n) (hr : r.length = m) (hn : n ≤ 60) (hm : m ≤ 60) (hrow : Row w g 0 l) (hrow2 : Row w g2 0 r) :
   Calls Tryz.prog 115 #[.slice (some ⟨g, 0, none⟩) n cap, .slice (some ⟨g2, 0, none⟩) m cap2] w fun e w' => e = .returned (.int .i64 (cmn l r : Nat)) ∧ Below w.heap.size w w' := by
 go_enter Tryz.func115, Tryz.ntmps115
 go_wp2
 go_loopw [5] (fun i wr => ∃ k : Nat, k ≤ n ∧ k ≤ m ∧ i = .int .i64 (k : Int) ∧ (∀ j, j < k → l[j]? = r[j]?) ∧ Below w.heap.size w wr ∧ ∃ q, wr = w.drewN q)
   (fun i _ => n - (intOf i).toNat)
 case atStart => exact ⟨0, by omega, by omega, rfl, by omega, Below.refl _ _, 0, rfl⟩
 case round =>
   obtain ⟨k, hk, hk2, rfl, hsame, hb, q, rfl⟩ := hrel
   have HS := hide hsame
   clear hsame
   by_cases h1 : k < n
   · by_cases h2 : k < m
     · have c1 := hrow k (by omega)
       have c2 := hrow2 k (by omega)
       simp only [bcel, Nat.zero_add] at c1 c2
       have G1 := hide (getD_get l k (by omega))
       have G2 := hide (getD_get r k (by omega))
       have i1 : (k : Int) < n := by omega
       have i2 : (k : Int) < m := by omega
       have i3 : (0 : Int) ≤ k := by omega
       have HR := hide hrow
       have HR2 := hide hrow2
       clear hrow hrow2
       generalize l.getD k 0 = x at *
       generalize r.getD k 0 = y at *
       by_cases h3 : x = y
       · subst h3
         go_wp2
         go_quiet (fail)
         go_wp2
         refine ⟨⟨k + 1, by omega, by omega, by simp, ?_, below_drewN (Below.refl _ _) _, _, rfl⟩, ?_⟩
         · intro j hj
           by_cases e : j = k
           · rw [e, G1.out, G2.out]
           · exact HS.out j (by omega)
         · simp [intOf]; omega
       · have h4 := neb x y h3
         have HE : Hid (cmn l r = k) := cmn_eq l r k (by omega) (by omega) HS.out (by right; right; rw [G1.out, G2.out]; simpa using h3)
         go_wp2
         go_quiet (fail)
         go_wp2
         go_ret
         exact ⟨ret_int (by rw [HE.out]), below_drewN (below_drewN (Below.refl _ _) _) _⟩
     · have i1 : decide ((k : Int) < m) = false := by simp; omega
       have i2 : (k : Int) < n := by omega
       have HE : Hid (cmn l r = k) := cmn_eq l r k (by omega) (by omega) HS.out (by right; left; omega)
       go_wp2
       go_quiet (fail)
       go_wp2
       go_ret
       exact ⟨ret_int (by rw [HE.out]), below_drewN (below_drewN (Below.refl _ _) _) _⟩
   · have i1 : decide ((k : Int) < n) = false := by simp; omega
     have HE : Hid (cmn l r = k) := cmn_eq l r k (by omega) (by omega) HS.out (by left; omega)
     go_wp2
     go_quiet (fail)
     go_wp2
     go_ret
     exact ⟨ret_int (by rw [HE.out]), below_drewN (below_drewN (Below.refl _ _) _) _⟩
end

theorem cmn_pre (n b m c : Nat) (hb : b < 2 ^ n) (hc : c < 2 ^ m) : cmn (bl n b) (bl m c) = m ↔ m ≤ n ∧ pre n b m = c := by
 have hl := cmn_le (bl n b) (bl m c)
 rw [bl_length, bl_length] at hl
 constructor
 · intro h
   have hm : m ≤ n := by omega
   refine ⟨hm, ?_⟩
   have e : bl m (pre n b m) = bl m c := by
     unfold pre
     rw [← bl_take n b m hm]
     apply List.ext_getElem?
     intro i
     by_cases hi : i < m
     · rw [List.getElem?_take, if_pos hi]
       exact cmn_same _ _ i (by omega)
     · rw [List.getElem?_eq_none (by rw [List.length_take, bl_length]; omega), List.getElem?_eq_none (by rw [bl_length]; omega)]
   have h1 := congrArg ofl e
   rw [ofl_bl m c hc] at h1
   rw [ofl_bl _ _ (pre_lt n b m hb hm)] at h1
   exact h1
 · rintro ⟨hm, rfl⟩
   apply cmn_eq
   · rw [bl_length]; exact hm
   · rw [bl_length]; exact Nat.le_refl _
   · intro i hi
     have e : ((bl n b).take m)[i]? = (bl m (b / 2 ^ (n - m)))[i]? := by rw [bl_take n b m hm]
     rw [List.getElem?_take, if_pos hi] at e
     exact e
   · right; left; rw [bl_length]

/-- Two vectors that may both be, as numbers. -/
theorem both_nat {n b m c : Int} (h : rbS n b m c = 0) (hb : 0 ≤ b) (hc : 0 ≤ c) : ∃ n' b' m' c' : Nat, n = n' ∧ b = b' ∧ m = m' ∧ c = c' ∧ n' ≤ 32 ∧ m' ≤ 32 ∧ b' < 2 ^ n' ∧ c' < 2 ^ m' ∧ b' < 18446744073709551616 ∧ c' < 18446744073709551616 := by
 obtain ⟨h1, h2⟩ := rbS_zero.1 h
 obtain ⟨n', b', rfl, rfl, e1, e2⟩ := rt_nat h1 hb
 obtain ⟨m', c', rfl, rfl, e3, e4⟩ := rt_nat h2 hc
 have := p32 n' e1
 have := p32 m' e3
 exact ⟨n', b', m', c', rfl, rfl, rfl, rfl, e1, e3, e2, e4, by omega, by omega⟩

theorem ld_vec2 {w : World} {b : Nat} {r n : Int} (I : IsB w b #[.int .i64 r, .int .u64 n] 27) : (Instr.loadAt 27 (.pointer (some ⟨b, 0, none⟩))).run Tryz.prog w = .ok (.agg #[.int .i64 r, .int .u64 n]) w := load_mid (cs := [.int .i64 r, .int .u64 n]) I 0 _ [.int .i64 r, .int .u64 n] _ rfl Tryz.underlying27 rfl (by kernel_rfl)

theorem IsB.gr {w w' : World} {b : Nat} {cs : Array Value} {t : TypeId} (h : IsB w b cs t) (hg : Gr w w') : IsB w' b cs t := (hg.heap h.lt).trans h
theorem IsB.alloc {w : World} {b : Nat} {cs : Array Value} {t : TypeId} (h : IsB w b cs t) (o : Obj) : IsB (w.alloc o) b cs t := h.gr ((Gr.refl w).alloc o)
theorem IsB.set0of2 {w : World} {b : Nat} {x y : Value} {t : TypeId} (h : IsB w b #[x, y] t) (v : Value) : IsB (w.setCell ⟨b, 0, none⟩ v) b #[v, y] t := by
 unfold IsB at *
 rw [Sort.setCell_eq]
 simp only [Sort.mapBlock, Array.getElem?_modify, if_true, h, Option.map_some, Sort.onCells]
 rfl
theorem IsB.set1of2 {w : World} {b : Nat} {x y : Value} {t : TypeId} (h : IsB w b #[x, y] t) (v : Value) : IsB (w.setCell ⟨b, 1, none⟩ v) b #[x, v] t := by
 unfold IsB at *
 rw [Sort.setCell_eq]
 simp only [Sort.mapBlock, Array.getElem?_modify, if_true, h, Option.map_some, Sort.onCells]
 rfl

theorem take_snoc (l : List Nat) (k : Nat) (h : k < l.length) : l.take (k + 1) = l.take k ++ [l.getD k 0] := by
 rw [List.take_succ_eq_append_getElem h]; simp [h]
theorem ofl_take (l : List Nat) (h : ∀ x ∈ l, x ≤ 1) (k : Nat) (hk : k ≤ l.length) (h32 : l.length ≤ 60) : ofl (l.take k) < 1152921504606846976 := by
 have h1 := ofl_lt (l.take k) (fun x hx => h x (List.mem_of_mem_take hx))
 have h2 : 2 ^ (l.take k).length ≤ 2 ^ 60 := Nat.pow_le_pow_right (by omega) (by rw [List.length_take]; omega)
 exact Nat.lt_of_lt_of_le h1 h2
theorem getD_le (l : List Nat) (h : ∀ x ∈ l, x ≤ 1) (k : Nat) : l.getD k 0 ≤ 1 := by
 by_cases hk : k < l.length
 · have e : l.getD k 0 = l[k] := by simp [hk]
   rw [e]; exact h _ (List.getElem_mem hk)
 · have e : l.getD k 0 = 0 := by simp [hk]
   omega
/-- What a slice of bits holds. -/
def Bits (w : World) (g o : Nat) (l : List Nat) : Prop := ∀ j, j < l.length → w.cell? ⟨g, o + j, none⟩ = some (.int .i64 (l.getD j 0 : Nat))
theorem rof_results (W : World) (g : Nat) (cs : Array Value) (h : IsB W g cs 27) (hs : cs.size = 2) (T : Array Value) (hp : T.getD 2 undef = .pointer (some ⟨g, 0, none⟩)) : (results Tryz.f72 T).run Tryz.prog W = .ok (.agg cs) W :=
 results_cell_row rfl T W g 27 cs (0, 0) _ hp h Tryz.underlying27 rfl (by rw [hs]; exact vec_info)

set_option maxHeartbeats 2000000 in
set_option maxRecDepth 100000 in
theorem of_any (g o n cap : Nat) (l : List Nat) (w : World) (hl : l.length = n) (hn : n ≤ 60) (h01 : ∀ x ∈ l, x ≤ 1) (hg : g < w.heap.size) (hrow : Bits w g o l) :
   Calls Tryz.prog 72 #[.slice (some ⟨g, o, none⟩) n cap] w fun e w' => e = .returned ((.agg #[.int .i64 ((n : Int)), .int .u64 ((ofl l : Nat))])) ∧ Gr w w' := by
 go_enter Tryz.func72, Tryz.ntmps72
 go_wp2
 go_loopw [4] (fun i wr => ∃ k : Nat, k ≤ n ∧ i = .int .i64 (k : Int) ∧ IsB wr w.heap.size #[.int .i64 0, .int .u64 0] 27 ∧ IsB wr (w.heap.size + 1) #[.int .i64 (n : Int), .int .u64 (ofl (l.take k) : Nat)] 27 ∧ Gr w wr)
   (fun i _ => n - (intOf i).toNat)
 case atStart =>
   refine ⟨0, by omega, rfl, ?_, ?_, ?_⟩
   · exact (IsB.new w _ _).alloc _
   · have := IsB.new (w.alloc (.cells #[.int .i64 0, .int .u64 0] 27)) #[.int .i64 (n : Int), .int .u64 0] 27
     simpa [ofl] using this
   · exact ((Gr.refl w).alloc _).alloc _
 case round =>
   obtain ⟨k, hk, rfl, i0, i1, hb⟩ := hrel
   have H0 := hide i0
   have H1 := hide i1
   have HG := hide hb
   have a0 : wr.cell? ⟨w.heap.size, 0, none⟩ = some (.int .i64 0) := i0.cell 0
   have a1 : wr.cell? ⟨w.heap.size, 1, none⟩ = some (.int .u64 0) := i0.cell 1
   have a2 := i0.free 0
   have a3 := i0.free 1
   have b0 : wr.cell? ⟨w.heap.size + 1, 0, none⟩ = some (.int .i64 (n : Int)) := i1.cell 0
   have b1 : wr.cell? ⟨w.heap.size + 1, 1, none⟩ = some (.int .u64 (ofl (l.take k) : Nat)) := i1.cell 1
   have b2 := i1.free 0
   have b3 := i1.free 1
   clear i0 i1
   by_cases hlt : k < n
   · have hcx : wr.cell? ⟨g, o + k, none⟩ = some (.int .i64 (l.getD k 0 : Nat)) := hb.cell (x := ⟨g, o + k, none⟩) hg (hrow k (by omega))
     have hx := getD_le l h01 k
     have hq := ofl_take l h01 k (by omega) (by omega)
     have HS : Hid (ofl (l.take (k + 1)) = ofl (l.take k) * 2 + l.getD k 0) := by
       show _ = _
       rw [take_snoc l k (by omega), ofl_snoc]
     generalize l.getD k 0 = x at *
     generalize ofl (l.take k) = q at *
     have i1 : (k : Int) < n := by omega
     have i2 : (0 : Int) ≤ k := by omega
     clear hrow h01 hb
     go_wp2
     go_region
     go_wp2
     refine ⟨⟨k + 1, by omega, by simp, ?_, ?_, ?_⟩, ?_⟩
     · exact (H0.out.setOther (a := ⟨w.heap.size + 1, 1, none⟩) (by simp) _).gr (Gr.refl _).drew
     · rw [HS.out]
       have := IsB.gr (H1.out.set1of2 (.int .u64 ((q : Int) * 2 + x))) (Gr.refl _).drew
       simpa using this
     · exact (HG.out.set (w.heap.size + 1) 1 _ (by omega)).drew
     · simp [intOf]; omega
   · have e : ofl (l.take k) = ofl l := by rw [List.take_of_length_le (by omega)]
     rw [e] at H1 b1
     clear e hb
     go_wp2
     exact bodyPost_ret (rof_results _ w.heap.size _ (IsB.set1of2 (H0.out.set0of2 (.int .i64 (n : Int))) (.int .u64 (ofl l : Nat))) rfl _ rfl) rfl ⟨rfl, (HG.out.set w.heap.size 0 _ (Nat.le_refl _)).set w.heap.size 1 _ (Nat.le_refl _)⟩

set_option maxHeartbeats 400000 in
set_option maxRecDepth 100000 in
theorem of_nil (w : World) :
   Calls Tryz.prog 72 #[.slice none 0 0] w fun e w' => e = .returned ((.agg #[.int .i64 (0), .int .u64 (0)])) ∧ Gr w w' := by
 go_enter Tryz.func72, Tryz.ntmps72
 go_wp2
 go_loopw [4] (fun i wr => i = .int .i64 0 ∧ IsB wr w.heap.size #[.int .i64 0, .int .u64 0] 27 ∧ IsB wr (w.heap.size + 1) #[.int .i64 0, .int .u64 0] 27 ∧ Gr w wr)
   (fun _ _ => 0)
 case atStart =>
   refine ⟨rfl, ?_, ?_, ?_⟩
   · exact (IsB.new w _ _).alloc _
   · have := IsB.new (w.alloc (.cells #[.int .i64 0, .int .u64 0] 27)) #[.int .i64 0, .int .u64 0] 27
     simpa using this
   · exact ((Gr.refl w).alloc _).alloc _
 case round =>
   obtain ⟨rfl, i0, i1, hb⟩ := hrel
   have H0 := hide i0
   have HG := hide hb
   have a2 := i0.free 0
   have a3 := i0.free 1
   have b0 : wr.cell? ⟨w.heap.size + 1, 0, none⟩ = some (.int .i64 0) := i1.cell 0
   have b1 : wr.cell? ⟨w.heap.size + 1, 1, none⟩ = some (.int .u64 0) := i1.cell 1
   have a0 : wr.cell? ⟨w.heap.size, 0, none⟩ = some (.int .i64 0) := i0.cell 0
   have a1 : wr.cell? ⟨w.heap.size, 1, none⟩ = some (.int .u64 0) := i0.cell 1
   clear i0 i1 hb
   go_wp2
   exact bodyPost_ret (rof_results _ w.heap.size _ (IsB.set1of2 (H0.out.set0of2 (.int .i64 0)) (.int .u64 0)) rfl _ rfl) rfl ⟨rfl, (HG.out.set w.heap.size 0 _ (Nat.le_refl _)).set w.heap.size 1 _ (Nat.le_refl _)⟩

theorem vt_res {fn : Func} {p u : Tmp} (hf : fn.results = #[.cell p 27, .tmp u]) {Q : Ending → World → Prop} {tmps : Array Value} {w : World} {b : Nat} {cs : Array Value} {v : Value} (hs : cs.size = 2)
   (hp : tmps.getD p undef = .pointer (some ⟨b, 0, none⟩)) (hu : tmps.getD u undef = v) (I : IsB w b cs 27) (hQ : Q (.returned (.tuple #[.agg cs, v])) w) :
   bodyPost Tryz.prog fn Q .ret ⟨tmps, []⟩ w := ret_vt hf hs hp hu I hQ
theorem ld_v2 {w : World} {b : Nat} {x y : Int} (I : IsB w b #[.int .i64 x, .int .u64 y] 27) : (Instr.loadAt 27 (.pointer (some ⟨b, 0, none⟩))).run Tryz.prog w = .ok (.agg #[.int .i64 (x), .int .u64 (y)]) w := load_mid (cs := [.int .i64 x, .int .u64 y]) I 0 _ [.int .i64 x, .int .u64 y] _ rfl Tryz.underlying27 rfl (by kernel_rfl)

set_option maxHeartbeats 2000000 in
set_option maxRecDepth 100000 in
theorem rprefix_ok (n b k : Int) (hr : rt n b = true) (hb0 : 0 ≤ b) (h0 : 0 ≤ k) (h1 : k ≤ n) (w : World) : Calls Tryz.prog 61 #[(.agg #[.int .i64 (n), .int .u64 (b)]), .int .i64 k] w fun e w' => e = .returned (.tuple #[(.agg #[.int .i64 (k), .int .u64 ((pre n.toNat b.toNat k.toNat : Nat))]), .int .i64 0]) ∧ Below w.heap.size w w' := by
 obtain ⟨m, c, rfl, rfl, hm, hc⟩ := rt_nat hr hb0
 obtain ⟨j, rfl⟩ : ∃ j : Nat, k = (j : Int) := ⟨k.toNat, by omega⟩
 have hjm : j ≤ m := by omega
 have hc64 : c < 18446744073709551616 := by have := p32 m hm; omega
 have VB : Hid (IsB ((w.alloc (.cells #[.int .i64 (m : Int), .int .u64 (c : Int)] 27)).alloc (.cells #[.int .i64 0, .int .u64 0] 27)) w.heap.size #[.int .i64 (m : Int), .int .u64 (c : Int)] 27) := (IsB.new w _ _).below ((Below.refl _ _).alloc (Nat.le_refl _) _)
 have PB : Hid (IsB ((w.alloc (.cells #[.int .i64 (m : Int), .int .u64 (c : Int)] 27)).alloc (.cells #[.int .i64 0, .int .u64 0] 27)) (w.heap.size + 1) #[.int .i64 0, .int .u64 0] 27) := by
   have := IsB.new (w.alloc (.cells #[.int .i64 (m : Int), .int .u64 (c : Int)] 27)) #[.int .i64 0, .int .u64 0] 27
   rwa [World.size_alloc] at this
 have B := hide (((Below.refl w.heap.size w).alloc (Nat.le_refl _) (.cells #[.int .i64 (m : Int), .int .u64 (c : Int)] 27)).alloc (by simp) (.cells #[.int .i64 0, .int .u64 0] 27))
 have HP : Hid (ofl ((bl m c).take j) = pre (m : Int).toNat (c : Int).toNat (j : Int).toNat) := by show _ = _; rw [ofl_bl_take m c j hc hjm]; rfl
 have HRT := hide hr
 clear hr hb0
 go_enter Tryz.func61, Tryz.ntmps61
 have LV := hide (ld_v2 VB.out)
 go_wp2_with (first | (focus ((with_reducible refine wpList_load_w ?_ 27 (.tmp 2) ?_ ?_ LV.out ?_); rotate_left; rfl; rfl; rotate_left; rfl)))
 generalize ((w.alloc (.cells #[.int .i64 (m : Int), .int .u64 (c : Int)] 27)).alloc (.cells #[.int .i64 0, .int .u64 0] 27)) = W2 at *
 obtain ⟨H, hH⟩ : ∃ H, w.heap.size = H := ⟨_, rfl⟩
 rw [hH] at VB PB ⊢
 replace hH := hide hH
 refine (rright_any (m : Int) (c : Int) W2).mono ?_
 rintro e w3 ⟨rfl, hb⟩
 rw [HRT.out]
 replace VB := hide (VB.out.below hb)
 replace PB := hide (PB.out.below hb)
 replace B := hide (B.out.trans (hb.mono B.out.size))
 clear hb LV
 have y0 : w3.cell? ⟨H, 0, none⟩ = some (.int .i64 (m : Int)) := VB.out.cell 0
 have d1 : decide ((j : Int) < 0) = false := by simp
 have d2 : decide ((j : Int) > (m : Int)) = false := by simp; omega
 have d3 : decide ((m : Int) < (j : Int)) = false := by simp; omega
 have LV := hide (ld_v2 VB.out)
 go_wp2_with (first | (focus ((with_reducible refine wpList_load_w ?_ 27 (.tmp 2) ?_ ?_ LV.out ?_); rotate_left; rfl; rfl; rotate_left; rfl)))
 clear d1 d2 d3 y0 LV
 refine (bits_any m c hm hc64 w3).mono ?_
 rintro e w4 ⟨g, rfl, hg, hrow, hb⟩
 obtain ⟨-, hR, hgl, -⟩ := row_of hrow
 replace VB := hide (VB.out.below hb)
 replace PB := hide (PB.out.below hb)
 replace B := hide (B.out.trans (hb.mono B.out.size))
 clear hb hrow hg
 have i0 : (0 : Int) ≤ (j : Int) := by omega
 have i1 : (j : Int) ≤ (m : Int) := by omega
 go_wp2_with fail
 refine (of_any g 0 j _ ((bl m c).take j) w4 (by rw [List.length_take, bl_length]; omega) (by omega) (fun x hx => bl_mem m c x (List.mem_of_mem_take hx)) hgl (fun q hq => ?_)).mono ?_
 · have hq2 : q < j := by rw [List.length_take] at hq; omega
   rw [hR q (by rw [bl_length]; omega)]
   congr 2
   have e : ((bl m c).take j).getD q 0 = (bl m c).getD q 0 := by simp [List.getD_eq_getElem?_getD, hq2]
   rw [e]
 rintro e w5 ⟨rfl, hgr⟩
 rw [HP.out]
 have hb := hgr.below
 replace VB := hide (VB.out.below hb)
 replace PB := hide (PB.out.below hb)
 replace B := hide (B.out.trans (hb.mono B.out.size))
 clear hb hgr hR hgl
 obtain ⟨w6, hs6, P6, k6⟩ : ∃ w', (Instr.storeAt 27 (.pointer (some ⟨H + 1, 0, none⟩)) (.agg #[.int .i64 ((j : Int)), .int .u64 ((pre (m : Int).toNat (c : Int).toNat (j : Int).toNat : Nat))])).run Tryz.prog w5 = .ok () w' ∧ IsB w' (H + 1) #[.int .i64 (j : Int), .int .u64 (pre (m : Int).toNat (c : Int).toNat (j : Int).toNat : Nat)] 27 ∧ Kp [H + 1] w5 w' := store_mid (cs := [.int .i64 0, .int .u64 0]) PB.out 0 _ [.int .i64 (j : Int), .int .u64 (pre (m : Int).toNat (c : Int).toNat (j : Int).toNat : Nat)] (by simp) (by kernel_rfl) (by simp [Value.oneCell'])
 have HS := hide hs6
 have P7 := hide P6
 have B7 : Hid (Below w.heap.size w w6) := B.out.trans (k6.to_below B.out.size (by have := hH.out; simp; omega))
 clear hs6 P6 k6 B PB
 go_wp2_with (first | (focus ((with_reducible refine wpList_store_w ?_ 27 (.tmp 4) (.tmp 23) ?_ ?_ ?_ HS.out ?_); rotate_left; rfl; rfl; rfl; rotate_left; rfl)))
 refine ret_vt (p := 4) (u := 5) (b := H + 1) Tryz.results61 rfl rfl rfl P7.out ?_
 exact ⟨rfl, B7.out⟩

end Go.Proofs.YtokehogcenjefaaGreatDoor
