/- Vectors: which of two stands first, where worlds only grow (as in stage 1). -/
import Derived.Test.YtledkljffjomdaaDoorKV
namespace Go.Proofs.YtledkljffjomdaaDoor
open Go.RowKit
attribute [local go_sem ↓] Go.wp_at_zero Go.wp_at_succ

theorem gx2 {w w1 : World} {o p : Obj} (h : Gr ((w.alloc o).alloc p) w1) : Gr w w1 := (((Gr.refl w).alloc o).alloc p).trans h
theorem gx {w w1 : World} {o : Obj} (h : Gr (w.alloc o) w1) : Gr w w1 := ((Gr.refl w).alloc o).trans h
theorem IsV.gr {w w' : World} {b : Nat} {x y : Value} (h : IsV w b x y) (hg : Gr w w') : IsV w' b x y := h.below hg.below

/-- The row. -/
def bl (n b : Nat) : List Nat := (List.range n).map (bt n b)
/-- The number of a row. -/
def ofl (l : List Nat) : Nat := l.foldl (fun a x => a * 2 + x) 0
/-- That of the others. -/
def rst (n b k : Nat) : Nat := b % 2 ^ (n - k)
/-- That of the vector with bit i turned. -/
def flp (n b i : Nat) : Nat := b ^^^ 2 ^ (n - 1 - i)
/-- That of two, one behind the other. -/
def jn (b m c : Nat) : Nat := b * 2 ^ m + c
/-- How many first ones two rows have in common. -/
def cmn : List Nat → List Nat → Nat
  | a :: s, b :: t => if a = b then cmn s t + 1 else 0
  | _, _ => 0

theorem bl_length (n b : Nat) : (bl n b).length = n := by simp [bl]
theorem bl_get (n b i : Nat) (h : i < n) : (bl n b)[i]? = some (bt n b i) := by simp [bl, h]
theorem bt_le (n b i : Nat) : bt n b i ≤ 1 := by unfold bt; omega
theorem bt_test (n b i : Nat) : bt n b i = (b.testBit (n - 1 - i)).toNat := by rw [Nat.toNat_testBit]; rfl

theorem foldl_ofl (m : List Nat) (a : Nat) : m.foldl (fun a x => a * 2 + x) a = a * 2 ^ m.length + ofl m := by
  unfold ofl
  induction m generalizing a with
  | nil => simp
  | cons x t ih =>
    simp only [List.foldl_cons, List.length_cons]
    rw [ih, ih (0 * 2 + x), Nat.pow_succ]
    simp only [Nat.add_mul, Nat.mul_assoc, Nat.zero_mul, Nat.zero_add, Nat.mul_comm 2]
    omega

theorem ofl_append (l m : List Nat) : ofl (l ++ m) = ofl l * 2 ^ m.length + ofl m := by
  rw [ofl, List.foldl_append, foldl_ofl]; rfl
theorem ofl_snoc (l : List Nat) (x : Nat) : ofl (l ++ [x]) = ofl l * 2 + x := by
  rw [ofl_append]; simp [ofl]
theorem ofl_lt (l : List Nat) (h : ∀ x ∈ l, x ≤ 1) : ofl l < 2 ^ l.length := by
  induction l with
  | nil => simp [ofl]
  | cons x t ih =>
    have e : x :: t = [x] ++ t := rfl
    rw [e, ofl_append]
    have := ih (fun y hy => h y (by simp [hy]))
    have hx := h x (by simp)
    simp only [List.length_append, List.length_cons, List.length_nil]
    rw [Nat.pow_add]
    have e1 : ofl [x] = x := by simp [ofl]
    rw [e1]
    rcases Nat.le_one_iff_eq_zero_or_eq_one.1 hx with rfl | rfl <;> omega

theorem bl_take (n b k : Nat) (h : k ≤ n) : (bl n b).take k = bl k (b / 2 ^ (n - k)) := by
  apply List.ext_getElem?
  intro i
  by_cases hi : i < k
  · rw [List.getElem?_take, if_pos hi, bl_get _ _ _ (by omega), bl_get _ _ _ hi]
    unfold bt
    rw [Nat.div_div_eq_div_mul, ← Nat.pow_add]
    have : n - k + (k - 1 - i) = n - 1 - i := by omega
    rw [this]
  · rw [List.getElem?_eq_none (by simp [bl_length]; omega), List.getElem?_eq_none (by simp [bl_length]; omega)]

theorem bl_drop (n b k : Nat) (h : k ≤ n) : (bl n b).drop k = bl (n - k) (b % 2 ^ (n - k)) := by
  apply List.ext_getElem?
  intro i
  by_cases hi : i < n - k
  · rw [List.getElem?_drop, bl_get _ _ _ (by omega), bl_get _ _ _ hi, bt_test, bt_test, Nat.testBit_mod_two_pow]
    have e : n - 1 - (k + i) = n - k - 1 - i := by omega
    rw [e, decide_eq_true (by omega)]
    simp
  · rw [List.getElem?_eq_none (by simp [bl_length]; omega), List.getElem?_eq_none (by simp [bl_length]; omega)]

theorem bl_succ (n b : Nat) : bl (n + 1) b = bl n (b / 2) ++ [b % 2] := by
  have h1 := bl_take (n + 1) b n (by omega)
  have h2 := bl_drop (n + 1) b n (by omega)
  have e : n + 1 - n = 1 := by omega
  rw [e, Nat.pow_one] at h1 h2
  rw [← List.take_append_drop n (bl (n + 1) b), h1, h2]
  simp [bl, bt]

theorem ofl_bl (n b : Nat) (h : b < 2 ^ n) : ofl (bl n b) = b := by
  induction n generalizing b with
  | zero => simp [bl, ofl] at *; omega
  | succ n ih =>
    rw [bl_succ, ofl_snoc, ih (b / 2) (by rw [Nat.pow_succ] at h; omega)]
    omega

theorem ofl_bl_take (n b k : Nat) (hb : b < 2 ^ n) (h : k ≤ n) : ofl ((bl n b).take k) = b / 2 ^ (n - k) := by
  rw [bl_take n b k h, ofl_bl]
  rw [Nat.div_lt_iff_lt_mul (Nat.two_pow_pos _), ← Nat.pow_add]
  have : k + (n - k) = n := by omega
  rw [this]; exact hb
theorem ofl_bl_drop (n b k : Nat) (h : k ≤ n) : ofl ((bl n b).drop k) = b % 2 ^ (n - k) := by
  rw [bl_drop n b k h, ofl_bl]
  exact Nat.mod_lt _ (Nat.two_pow_pos _)

theorem bl_mem (n b : Nat) : ∀ x ∈ bl n b, x ≤ 1 := by
  intro x hx; simp only [bl, List.mem_map] at hx; obtain ⟨i, _, rfl⟩ := hx; exact bt_le _ _ _

theorem bl_flip (n b i : Nat) (h : i < n) : (bl n b).set i (1 - bt n b i) = bl n (b ^^^ 2 ^ (n - 1 - i)) := by
  apply List.ext_getElem?
  intro j
  by_cases hj : j < n
  · rw [List.getElem?_set, bl_get _ _ _ hj, bl_get _ _ _ hj]
    by_cases e : i = j
    · subst e
      rw [if_pos rfl, if_pos (by rw [bl_length]; exact h), bt_test, bt_test, Nat.testBit_xor, Nat.testBit_two_pow_self]
      cases b.testBit (n - 1 - i) <;> rfl
    · rw [if_neg e, bt_test, bt_test, Nat.testBit_xor, Nat.testBit_two_pow_of_ne (by omega)]
      simp
  · rw [List.getElem?_eq_none (by simp [bl_length]; omega), List.getElem?_eq_none (by simp [bl_length]; omega)]

theorem xor_lt (n b i : Nat) (hb : b < 2 ^ n) (h : i < n) : b ^^^ 2 ^ (n - 1 - i) < 2 ^ n :=
  Nat.xor_lt_two_pow hb (Nat.pow_lt_pow_right (by omega) (by omega))

theorem ofl_flip (n b i : Nat) (hb : b < 2 ^ n) (h : i < n) : ofl ((bl n b).set i (1 - bt n b i)) = b ^^^ 2 ^ (n - 1 - i) := by
  rw [bl_flip n b i h, ofl_bl _ _ (xor_lt n b i hb h)]

theorem shl_or (b c m : Nat) (hc : c < 2 ^ m) : b * 2 ^ m ||| c = b * 2 ^ m + c := by
  rw [Nat.mul_comm]; exact (Nat.two_pow_add_eq_or_of_lt hc b).symm

theorem cmn_le (a b : List Nat) : cmn a b ≤ a.length ∧ cmn a b ≤ b.length := by
  induction a generalizing b with
  | nil => simp [cmn]
  | cons x s ih =>
    cases b with
    | nil => simp [cmn]
    | cons y t =>
      simp only [cmn]
      have := ih t
      split <;> simp <;> omega

theorem cmn_same (a b : List Nat) : ∀ i, i < cmn a b → a[i]? = b[i]? := by
  induction a generalizing b with
  | nil => simp [cmn]
  | cons x s ih =>
    cases b with
    | nil => simp [cmn]
    | cons y t =>
      intro i hi
      simp only [cmn] at hi
      split at hi
      · rename_i e
        cases i with
        | zero => simp [e]
        | succ i => simpa using ih t i (by omega)
      · omega

theorem cmn_eq (a b : List Nat) (k : Nat) (h1 : k ≤ a.length) (h2 : k ≤ b.length) (h3 : ∀ i, i < k → a[i]? = b[i]?) (h4 : k = a.length ∨ k = b.length ∨ a[k]? ≠ b[k]?) : cmn a b = k := by
  induction a generalizing b k with
  | nil => simp at h1; simp [cmn, h1]
  | cons x s ih =>
    cases b with
    | nil => simp at h2; simp [cmn, h2]
    | cons y t =>
      cases k with
      | zero =>
        have : x ≠ y := by
          rcases h4 with h4 | h4 | h4
          · simp at h4
          · simp at h4
          · simpa using h4
        simp [cmn, this]
      | succ k =>
        have e : x = y := by simpa using h3 0 (by omega)
        simp only [cmn, if_pos e]
        rw [ih t k (by simpa using h1) (by simpa using h2) (fun i hi => by simpa using h3 (i + 1) (by omega)) (by simpa using h4)]

theorem pre_lt (n b k : Nat) (hb : b < 2 ^ n) (h : k ≤ n) : pre n b k < 2 ^ k := by
  unfold pre
  rw [Nat.div_lt_iff_lt_mul (Nat.two_pow_pos _), ← Nat.pow_add]
  have : k + (n - k) = n := by omega
  rw [this]; exact hb
theorem rst_lt (n b k : Nat) : rst n b k < 2 ^ (n - k) := Nat.mod_lt _ (Nat.two_pow_pos _)
theorem jn_lt (n b m c : Nat) (hb : b < 2 ^ n) (hc : c < 2 ^ m) : jn b m c < 2 ^ (n + m) := by
  unfold jn
  rw [Nat.pow_add]
  have : (b + 1) * 2 ^ m ≤ 2 ^ n * 2 ^ m := Nat.mul_le_mul_right _ hb
  rw [Nat.add_mul] at this
  omega
theorem jn_pre_rst (n b k : Nat) : jn (pre n b k) (n - k) (rst n b k) = b := by
  unfold jn pre rst
  rw [Nat.mul_comm]; exact Nat.div_add_mod _ _
theorem pre_all (n b : Nat) : pre n b n = b := by simp [pre]
theorem p32 (n : Nat) (h : n ≤ 32) : 2 ^ n ≤ 4294967296 := Nat.le_trans (Nat.pow_le_pow_right (by omega) h) (by decide)

theorem rt_nat {n b : Int} (h : rt n b = true) (h0 : 0 ≤ b) : ∃ m c : Nat, n = (m : Int) ∧ b = (c : Int) ∧ m ≤ 32 ∧ c < 2 ^ m := by
  have h := of_decide_eq_true h
  obtain ⟨m, rfl⟩ := Int.eq_ofNat_of_zero_le h.1
  obtain ⟨c, rfl⟩ := Int.eq_ofNat_of_zero_le h0
  refine ⟨m, c, rfl, rfl, by omega, ?_⟩
  have := h.2.2
  rw [Int.toNat_natCast] at this
  exact_mod_cast this
theorem rt_of (m c : Nat) (h : m ≤ 32) (hc : c < 2 ^ m) : rt (m : Int) (c : Int) = true := by
  refine decide_eq_true ⟨by omega, by omega, ?_⟩
  rw [Int.toNat_natCast]
  exact_mod_cast hc

set_option maxHeartbeats 400000 in
theorem gright_yes (n b : Int) (h : rt n b = true) (hb : 0 ≤ b) (w : World) :
    Calls Tryd.prog 37 #[(.agg #[.int .i64 (n), .int .u64 (b)])] w fun e w' => e = .returned (.int .i64 0) ∧ Gr w w' := by
  obtain ⟨g1, g2, g3⟩ := right_y n b h hb
  have g4 : 0 ≤ n := by simpa using g1
  have g5 : n ≤ 32 := by simpa using g2
  clear g1 g2 h
  go_enter Tryd.func37, Tryd.ntmps37
  go_wp2
  go_ret
  exact ⟨rfl, (Gr.refl _).alloc _⟩

set_option maxHeartbeats 400000 in
theorem gright_no (n b : Int) (h : rt n b = false) (w : World) :
    Calls Tryd.prog 37 #[(.agg #[.int .i64 (n), .int .u64 (b)])] w fun e w' => e = .returned (.int .i64 10) ∧ Gr w w' := by
  by_cases g4 : 0 ≤ n
  · by_cases g5 : n ≤ 32
    · have g3 := right_n n b h g4 g5
      clear h
      go_enter Tryd.func37, Tryd.ntmps37
      go_wp2
      go_ret
      exact ⟨rfl, (Gr.refl _).alloc _⟩
    · have g6 : 32 < n := by omega
      clear h
      go_enter Tryd.func37, Tryd.ntmps37
      go_wp2
      go_ret
      exact ⟨rfl, (Gr.refl _).alloc _⟩
  · have g6 : n < 0 := by omega
    clear h
    go_enter Tryd.func37, Tryd.ntmps37
    go_wp2
    go_ret
    exact ⟨rfl, (Gr.refl _).alloc _⟩

theorem bt_int (n b i : Int) (h0 : 0 ≤ i) (h1 : i < n) (hb : 0 ≤ b) (hb2 : b < 18446744073709551616) : bits BinOp.and IntKind.u64 (b / 2 ^ (n - 1 - i).toNat) 1 = (bt n.toNat b.toNat i.toNat : Nat) := by
  obtain ⟨b, rfl⟩ := Int.eq_ofNat_of_zero_le hb
  have e : ((b : Int) / 2 ^ (n - 1 - i).toNat) = ((b / 2 ^ (n - 1 - i).toNat : Nat) : Int) := by simp
  have h3 : b / 2 ^ (n - 1 - i).toNat ≤ b := Nat.div_le_self _ _
  rw [e]
  generalize hq : b / 2 ^ (n - 1 - i).toNat = q at *
  rw [and_one_u64 _ (by omega) (by omega), bt, Int.toNat_natCast]
  have e2 : (n - 1 - i).toNat = n.toNat - 1 - i.toNat := by omega
  rw [← e2, hq]; omega

set_option maxHeartbeats 400000 in
theorem gbit_any (n b i : Int) (h0 : 0 ≤ i) (h1 : i < n) (h2 : n ≤ 32) (hb : 0 ≤ b) (hb2 : b < 18446744073709551616) (w : World) :
    Calls Tryd.prog 55 #[(.agg #[.int .i64 (n), .int .u64 (b)]), .int .i64 i] w fun e w' => e = .returned (.int .u64 (bt n.toNat b.toNat i.toNat : Nat)) ∧ Gr w w' := by
  have H : Hid (bits BinOp.and IntKind.u64 (b / 2 ^ (n - 1 - i).toNat) 1 = (bt n.toNat b.toNat i.toNat : Nat)) := bt_int n b i h0 h1 hb hb2
  clear hb2
  go_enter Tryd.func55, Tryd.ntmps55
  go_wp2
  go_ret
  exact ⟨ret_int H.out, (Gr.refl _).alloc _⟩

theorem gright_any (n b : Int) (hb : 0 ≤ b) (w : World) :
    Calls Tryd.prog 37 #[(.agg #[.int .i64 (n), .int .u64 (b)])] w fun e w' => e = .returned (.int .i64 (reS n b)) ∧ Gr w w' := by
  cases h : rt n b with
  | true => rw [reS_yes h]; exact gright_yes n b h hb w
  | false => rw [reS_no h]; exact gright_no n b h w

set_option maxHeartbeats 400000 in
theorem gboth_any (n b m c : Int) (hb : 0 ≤ b) (hd : 0 ≤ c) (w : World) :
    Calls Tryd.prog 53 #[(.agg #[.int .i64 (n), .int .u64 (b)]), (.agg #[.int .i64 (m), .int .u64 (c)])] w fun e w' => e = .returned (.int .i64 (rbS n b m c)) ∧ Gr w w' := by
  cases h : rt n b with
  | false =>
    have e : reS n b = 10 := reS_no h
    have H : Hid (rbS n b m c = 10) := if_neg (by simp [h])
    clear h
    go_enter Tryd.func53, Tryd.ntmps53
    go_wp2_with (go_at_call 37; refine (gright_any _ _ (by omega) _).mono ?_; rintro e w' ⟨rfl, hbb⟩)
    go_ret
    exact ⟨ret_int H.out.symm, gx2 hbb⟩
  | true =>
    have e : reS n b = 0 := reS_yes h
    have H : Hid (rbS n b m c = reS m c) := if_pos h
    clear h
    go_enter Tryd.func53, Tryd.ntmps53
    go_wp2_with fail
    refine (gright_any _ _ (by omega) _).mono ?_; rintro e w' ⟨rfl, hbb⟩; obtain ⟨hc, hf⟩ := bcell hbb.below
    go_wp2_with fail
    refine (gright_any _ _ (by omega) _).mono ?_; rintro e w2 ⟨rfl, hb2⟩
    go_wp2
    go_ret
    exact ⟨ret_int H.out.symm, (gx2 hbb).trans hb2⟩

/-- x where there is no error, else 0. -/
def sel (e x : Int) : Int := if e = 0 then x else 0
theorem sel_zero {e : Int} (h : e = 0) (x : Int) : sel e x = x := if_pos h
theorem sel_ne {e : Int} (h : e ≠ 0) (x : Int) : sel e x = 0 := if_neg h

attribute [local go_sem ↓] Go.wp_at_zero Go.wp_at_succ

set_option maxHeartbeats 1000000 in
theorem gcommon_any (n b m c : Nat) (w : World) (hn : n ≤ 32) (hm : m ≤ 32) (hb : b < 18446744073709551616) (hc : c < 18446744073709551616) :
    Calls Tryd.prog 54 #[(.agg #[.int .i64 ((n : Int)), .int .u64 ((b : Int))]), (.agg #[.int .i64 ((m : Int)), .int .u64 ((c : Int))])] w fun e w' => e = .returned (.int .i64 (cmn (bl n b) (bl m c) : Nat)) ∧ Gr w w' := by
  by_cases hmn : m < n
  all_goals
    go_enter Tryd.func54, Tryd.ntmps54
    go_wp2
    go_loopw [13] (fun i wr => ∃ k : Nat, k ≤ n ∧ k ≤ m ∧ i = .int .i64 (k : Int) ∧ (∀ j, j < k → (bl n b)[j]? = (bl m c)[j]?) ∧ IsV wr w.heap.size (.int .i64 (n : Int)) (.int .u64 (b : Int)) ∧ IsV wr (w.heap.size + 1) (.int .i64 (m : Int)) (.int .u64 (c : Int)) ∧ Gr w wr)
      (fun i _ => n - (intOf i).toNat)
    case atStart =>
      refine ⟨0, by omega, by omega, rfl, by omega, (IsV.new w _ _).alloc _, ?_, ?_⟩
      · have := IsV.new (w.alloc (.cells #[.int .i64 (n : Int), .int .u64 (b : Int)] 24)) (.int .i64 (m : Int)) (.int .u64 (c : Int))
        simpa using this
      · exact ((Gr.refl _).alloc _).alloc _
    case round =>
      obtain ⟨k, hk, hk2, rfl, hsame, i0, i1, hbw⟩ := hrel
      have HS := hide hsame
      have H0 := hide i0
      have H1 := hide i1
      have hz := i1.lt
      obtain ⟨a0, a1, -, -⟩ := i0.c
      obtain ⟨b0, b1, -, -⟩ := i1.c
      clear i0 i1 hsame
      by_cases hlt : k < n ∧ k < m
      · obtain ⟨h1, h2⟩ := hlt
        have E1 := hide (bl_get n b k h1)
        have E2 := hide (bl_get m c k h2)
        by_cases hx : bt n b k = bt m c k
        · have HX := hide hx
          have hq : (((bt n b k : Nat) : Int) != ((bt m c k : Nat) : Int)) = false := by simp [hx]
          clear hx
          go_wp2
          go_region_held3 (fun w' => w'.cell? ⟨w.heap.size, 0, none⟩ = some (.int .i64 (n : Int)) ∧ w'.cell? ⟨w.heap.size, 1, none⟩ = some (.int .u64 (b : Int)) ∧ w'.cell? ⟨w.heap.size + 1, 0, none⟩ = some (.int .i64 (m : Int)) ∧ w'.cell? ⟨w.heap.size + 1, 1, none⟩ = some (.int .u64 (c : Int)) ∧ w.heap.size + 1 < w'.heap.size)
            (first | go_keep | (go_split_ands; refine ⟨?_, ?_, ?_, ?_, ?_⟩ <;> first | assumption | (rw [hbb.below.cell (by simp; omega)]; assumption) | (have := hbb.le; first | omega | (simp at this; omega))))
            ((go_at_call 55; refine (gbit_any _ _ _ (by omega) (by omega) (by omega) (by omega) (by omega) _).mono ?_; rintro e w' ⟨rfl, hbb⟩))
          all_goals
            have hB : Gr wr w' := ((Gr.refl _).drew.trans (by assumption)).trans hbb
            have hfin := hide (hbw.trans hB)
            have G0 := hide (H0.out.gr hB)
            have G1 := hide (H1.out.gr hB)
            clear hB
            go_wp2
            refine ⟨⟨k + 1, by omega, by omega, by simp, ?_, G0.out, G1.out, hfin.out⟩, ?_⟩
            · intro j hj
              by_cases e : j = k
              · rw [e, E1.out, E2.out, HX.out]
              · exact HS.out j (by omega)
            · simp [intOf]; omega
        · have hq : (((bt n b k : Nat) : Int) != ((bt m c k : Nat) : Int)) = true := by rw [bne_iff_ne]; omega
          have HE : Hid (cmn (bl n b) (bl m c) = k) := cmn_eq _ _ k (by rw [bl_length]; omega) (by rw [bl_length]; omega) HS.out (by right; right; rw [E1.out, E2.out]; simpa using hx)
          clear hx
          go_wp2
          go_region_held3 (fun w' => w'.cell? ⟨w.heap.size, 0, none⟩ = some (.int .i64 (n : Int)) ∧ w'.cell? ⟨w.heap.size, 1, none⟩ = some (.int .u64 (b : Int)) ∧ w'.cell? ⟨w.heap.size + 1, 0, none⟩ = some (.int .i64 (m : Int)) ∧ w'.cell? ⟨w.heap.size + 1, 1, none⟩ = some (.int .u64 (c : Int)) ∧ w.heap.size + 1 < w'.heap.size)
            (first | go_keep | (go_split_ands; refine ⟨?_, ?_, ?_, ?_, ?_⟩ <;> first | assumption | (rw [hbb.below.cell (by simp; omega)]; assumption) | (have := hbb.le; first | omega | (simp at this; omega))))
            ((go_at_call 55; refine (gbit_any _ _ _ (by omega) (by omega) (by omega) (by omega) (by omega) _).mono ?_; rintro e w' ⟨rfl, hbb⟩))
          all_goals
            have hB : Gr wr w' := ((Gr.refl _).drew.trans (by assumption)).trans hbb
            have hfin := hide (hbw.trans hB)
            clear hB
            go_wp2
            go_ret
            exact ⟨ret_int (by rw [HE.out]), hfin.out⟩
      · have HE : Hid (cmn (bl n b) (bl m c) = k) := cmn_eq _ _ k (by rw [bl_length]; omega) (by rw [bl_length]; omega) HS.out (by rw [bl_length, bl_length]; omega)
        go_wp2
        go_ret
        exact ⟨ret_int (by rw [HE.out]; omega), hbw⟩

/-- Which of two rows stands first. -/
def cmpN (n b m c : Nat) : Int :=
  if cmn (bl n b) (bl m c) = n ∧ cmn (bl n b) (bl m c) = m then 0 else if cmn (bl n b) (bl m c) = n then -1 else if cmn (bl n b) (bl m c) = m then 1 else if bt n b (cmn (bl n b) (bl m c)) = 0 then -1 else 1

def coE (n b m c : Int) : Int := sel (rbS n b m c) (cmpN n.toNat b.toNat m.toNat c.toNat)

/-- Two vectors that may both be, as numbers. -/
theorem both_nat {n b m c : Int} (h : rbS n b m c = 0) (hb : 0 ≤ b) (hc : 0 ≤ c) : ∃ n' b' m' c' : Nat, n = n' ∧ b = b' ∧ m = m' ∧ c = c' ∧ n' ≤ 32 ∧ m' ≤ 32 ∧ b' < 2 ^ n' ∧ c' < 2 ^ m' ∧ b' < 18446744073709551616 ∧ c' < 18446744073709551616 := by
  obtain ⟨h1, h2⟩ := rbS_zero.1 h
  obtain ⟨n', b', rfl, rfl, e1, e2⟩ := rt_nat h1 hb
  obtain ⟨m', c', rfl, rfl, e3, e4⟩ := rt_nat h2 hc
  have := p32 n' e1
  have := p32 m' e3
  exact ⟨n', b', m', c', rfl, rfl, rfl, rfl, e1, e3, e2, e4, by omega, by omega⟩

theorem rbS_ne {n b m c : Int} (h : rbS n b m c ≠ 0) : rbS n b m c = 10 := by
  unfold rbS reS at *
  split at h
  · split at h
    · exact absurd rfl h
    · rw [if_pos (by assumption), if_neg (by assumption)]
  · rw [if_neg (by assumption)]

set_option maxHeartbeats 1000000 in
theorem gCompare_any (n b m c : Int) (hb : 0 ≤ b) (hc : 0 ≤ c) (w : World) :
    Calls Tryd.prog 34 #[(.agg #[.int .i64 (n), .int .u64 (b)]), (.agg #[.int .i64 (m), .int .u64 (c)])] w fun e w' => e = .returned (.tuple #[.int .i64 (coE n b m c), .int .i64 (rbS n b m c)]) ∧ Gr w w' := by
  by_cases h : rbS n b m c = 0
  · obtain ⟨n, b, m, c, rfl, rfl, rfl, rfl, h1, h2, -, -, h5, h6⟩ := both_nat h hb hc
    unfold coE
    rw [sel_zero h]
    simp only [Int.toNat_natCast]
    have hle := cmn_le (bl n b) (bl m c)
    rw [bl_length, bl_length] at hle
    clear hb hc
    go_enter Tryd.func34, Tryd.ntmps34
    go_wp2_with fail
    refine (gboth_any _ _ _ _ (by omega) (by omega) _).mono ?_; rintro e w1 ⟨rfl, hb1⟩
    have I0 := hide (((IsV.new w (.int .i64 (n : Int)) (.int .u64 (b : Int))).alloc (.cells #[.int .i64 (m : Int), .int .u64 (c : Int)] 24)).gr hb1)
    have i1 := ((IsV.new (w.alloc (.cells #[.int .i64 (n : Int), .int .u64 (b : Int)] 24)) (.int .i64 (m : Int)) (.int .u64 (c : Int))).gr hb1)
    rw [World.size_alloc] at i1
    have I1 := hide i1
    clear i1
    have HB := hide (gx2 hb1)
    clear hb1
    obtain ⟨a0, a1, -, -⟩ := I0.out.c
    obtain ⟨b0, b1, -, -⟩ := I1.out.c
    go_wp2_with fail
    refine (gcommon_any _ _ _ _ _ (by omega) (by omega) h5 h6).mono ?_; rintro e w2 ⟨rfl, hb3⟩
    replace I0 := hide (I0.out.gr hb3)
    replace I1 := hide (I1.out.gr hb3)
    replace HB := hide (HB.out.trans hb3)
    clear a0 a1 b0 b1 hb3
    obtain ⟨a0, a1, -, -⟩ := I0.out.c
    obtain ⟨b0, b1, -, -⟩ := I1.out.c
    generalize hk : cmn (bl n b) (bl m c) = k at *
    have FIN : ∀ x : Int, x = (if k = n ∧ k = m then 0 else if k = n then -1 else if k = m then 1 else if bt n b k = 0 then -1 else 1) → Hid (Ending.returned (.tuple #[.int .i64 x, .int .i64 0]) = Ending.returned (.tuple #[.int .i64 (cmpN n b m c), .int .i64 (rbS (n : Int) b m c)])) := by
      intro x hxy; show _ = _; rw [hxy, h, cmpN, hk]
    clear hk
    by_cases q1 : k = n
    · have r1 : ((k : Int) == n) = true := by simp; omega
      by_cases q2 : k = m
      · have r2 : ((k : Int) == m) = true := by simp; omega
        have F := FIN 0 (by rw [if_pos ⟨q1, q2⟩])
        clear FIN q1 q2 h
        go_wp2
        go_ret2
        exact ⟨F.out, HB.out⟩
      · have r2 : ((k : Int) == m) = false := by simp; omega
        have F := FIN (-1) (by rw [if_neg (by omega), if_pos q1])
        clear FIN q1 q2 h
        go_wp2
        go_ret2
        exact ⟨F.out, HB.out⟩
    · have r1 : ((k : Int) == n) = false := by simp; omega
      by_cases q2 : k = m
      · have r2 : ((k : Int) == m) = true := by simp; omega
        have F := FIN 1 (by rw [if_neg (by omega), if_neg q1, if_pos q2])
        clear FIN q1 q2 h
        go_wp2
        go_ret2
        exact ⟨F.out, HB.out⟩
      · have r2 : ((k : Int) == m) = false := by simp; omega
        have hkn : k < n := by omega
        have hx := bt_le n b k
        by_cases q3 : bt n b k = 0
        · have F := FIN (-1) (by rw [if_neg (by omega), if_neg q1, if_neg q2, if_pos q3])
          have r3 : ((bt n b k : Nat) : Int) = 0 := by omega
          clear FIN q1 q2 h
          go_wp2_with fail
          refine (gbit_any _ _ _ (by omega) (by omega) (by omega) (by omega) (by omega) _).mono ?_; rintro e w3 ⟨rfl, hb4⟩
          simp only [Int.toNat_natCast]
          go_wp2
          go_ret2
          exact ⟨F.out, Gr.trans HB.out hb4⟩
        · have F := FIN 1 (by rw [if_neg (by omega), if_neg q1, if_neg q2, if_neg q3])
          have r3 : (((bt n b k : Nat) : Int) == 0) = false := by simp; omega
          clear FIN q1 q2 h
          go_wp2_with fail
          refine (gbit_any _ _ _ (by omega) (by omega) (by omega) (by omega) (by omega) _).mono ?_; rintro e w3 ⟨rfl, hb4⟩
          simp only [Int.toNat_natCast]
          go_wp2
          go_ret2
          exact ⟨F.out, Gr.trans HB.out hb4⟩
  · have hq : (rbS n b m c != 0) = true := by rw [bne_iff_ne]; exact h
    unfold coE
    rw [sel_ne h]
    clear h
    go_enter Tryd.func34, Tryd.ntmps34
    go_wp2_with fail
    refine (gboth_any _ _ _ _ (by omega) (by omega) _).mono ?_; rintro e w1 ⟨rfl, hb1⟩; obtain ⟨hc1, hf1⟩ := bcell hb1.below
    go_wp2
    go_ret2
    exact ⟨rfl, gx2 hb1⟩

end Go.Proofs.YtledkljffjomdaaDoor
