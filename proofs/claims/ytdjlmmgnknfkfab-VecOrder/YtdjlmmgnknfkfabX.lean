/- The walk of statement VecOrder: true at any three vectors. -/
import Derived.Test.YtdjlmmgnknfkfabO
namespace Go.Proofs.Ytdjlmmgnknfkfab
open Go.RowKit

/-- Which of two rows of bits stands first. -/
def cmpL : List Nat → List Nat → Int
  | [], [] => 0
  | [], _ :: _ => -1
  | _ :: _, [] => 1
  | x :: s, y :: t => if x = y then cmpL s t else if x = 0 then -1 else 1

theorem cmpL_range (a b : List Nat) : -1 ≤ cmpL a b ∧ cmpL a b ≤ 1 := by
  induction a generalizing b with
  | nil => cases b <;> simp [cmpL]
  | cons x s ih =>
    cases b with
    | nil => simp [cmpL]
    | cons y t =>
      simp only [cmpL]
      have := ih t
      split
      · exact this
      · split <;> omega
theorem cmpL_neg (a b : List Nat) (ha : ∀ x ∈ a, x ≤ 1) (hb : ∀ x ∈ b, x ≤ 1) : cmpL b a = - cmpL a b := by
  induction a generalizing b with
  | nil => cases b <;> simp [cmpL]
  | cons x s ih =>
    cases b with
    | nil => simp [cmpL]
    | cons y t =>
      have hx := ha x (by simp)
      have hy := hb y (by simp)
      by_cases e : x = y
      · simp only [cmpL, if_pos e, if_pos e.symm]
        exact ih t (fun z hz => ha z (by simp [hz])) (fun z hz => hb z (by simp [hz]))
      · simp only [cmpL, if_neg e, if_neg (Ne.symm e)]
        rcases Nat.le_one_iff_eq_zero_or_eq_one.1 hx with rfl | rfl <;> rcases Nat.le_one_iff_eq_zero_or_eq_one.1 hy with rfl | rfl <;> simp at e ⊢
theorem cmpL_zero (a b : List Nat) : cmpL a b = 0 ↔ a = b := by
  induction a generalizing b with
  | nil => cases b <;> simp [cmpL]
  | cons x s ih =>
    cases b with
    | nil => simp [cmpL]
    | cons y t =>
      by_cases e : x = y
      · subst e
        simp [cmpL, ih t]
      · have e1 : cmpL (x :: s) (y :: t) = if x = 0 then -1 else 1 := by simp [cmpL, e]
        rw [e1]
        constructor
        · intro h; split at h <;> omega
        · intro h; simp at h; exact absurd h.1 e
theorem cmpL_trans (a b c : List Nat) (ha : ∀ x ∈ a, x ≤ 1) (hb : ∀ x ∈ b, x ≤ 1) (hc : ∀ x ∈ c, x ≤ 1) (h1 : cmpL a b ≤ 0) (h2 : cmpL b c ≤ 0) : cmpL a c ≤ 0 := by
  induction a generalizing b c with
  | nil => cases c <;> simp [cmpL]
  | cons x s ih =>
    cases b with
    | nil => simp [cmpL] at h1
    | cons y t =>
      cases c with
      | nil => simp [cmpL] at h2
      | cons z u =>
        have hx := ha x (by simp)
        have hy := hb y (by simp)
        have hz := hc z (by simp)
        simp only [cmpL] at h1 h2 ⊢
        have hi := ih t u (fun z hz => ha z (by simp [hz])) (fun z hz => hb z (by simp [hz])) (fun z hz => hc z (by simp [hz]))
        rcases Nat.le_one_iff_eq_zero_or_eq_one.1 hx with rfl | rfl <;> rcases Nat.le_one_iff_eq_zero_or_eq_one.1 hy with rfl | rfl <;> rcases Nat.le_one_iff_eq_zero_or_eq_one.1 hz with rfl | rfl <;> simp at h1 h2 ⊢
        · exact hi h1 h2
        · exact hi h1 h2
/-- Two that begin with p stand on one side of each that does not, but p's own first ones. -/
theorem cmpL_side (p a b c : List Nat) (ha : p <+: a) (hb : p <+: b) (h1 : ¬ p <+: c) (h2 : ¬ c <+: p) : cmpL a c = cmpL b c ∧ cmpL a c ≠ 0 := by
  induction p generalizing a b c with
  | nil => exact absurd (List.nil_prefix) h1
  | cons x p ih =>
    cases a with
    | nil => simp at ha
    | cons xa a =>
      cases b with
      | nil => simp at hb
      | cons xb b =>
        cases c with
        | nil => exact absurd (List.nil_prefix) h2
        | cons y c =>
          rw [List.cons_prefix_cons] at ha hb
          obtain ⟨rfl, ha⟩ := ha
          obtain ⟨rfl, hb⟩ := hb
          simp only [List.cons_prefix_cons, not_and] at h1 h2
          by_cases e : x = y
          · simp only [cmpL, if_pos e]
            exact ih a b c ha hb (h1 e) (h2 e.symm)
          · simp only [cmpL, if_neg e, true_and]
            split <;> omega

theorem cmpL_cmn (a b : List Nat) : cmpL a b = (if cmn a b = a.length ∧ cmn a b = b.length then 0 else if cmn a b = a.length then -1 else if cmn a b = b.length then 1 else if a.getD (cmn a b) 0 = 0 then -1 else 1) := by
  induction a generalizing b with
  | nil => cases b <;> simp [cmpL, cmn]
  | cons x s ih =>
    cases b with
    | nil => simp [cmpL, cmn]
    | cons y t =>
      by_cases e : x = y
      · simp only [cmpL, cmn, if_pos e, List.length_cons, Nat.add_right_cancel_iff]
        rw [ih t]
        simp
      · simp only [cmpL, cmn, if_neg e]
        simp
theorem cmpN_list (n b m c : Nat) : cmpN n b m c = cmpL (bl n b) (bl m c) := by
  rw [cmpL_cmn, bl_length, bl_length, cmpN]
  have hl := cmn_le (bl n b) (bl m c)
  rw [bl_length, bl_length] at hl
  by_cases h : cmn (bl n b) (bl m c) < n
  · have e : (bl n b).getD (cmn (bl n b) (bl m c)) 0 = bt n b (cmn (bl n b) (bl m c)) := by simp [bl_get _ _ _ h]
    rw [e]
  · have e : cmn (bl n b) (bl m c) = n := by omega
    rw [e]
    simp
theorem bl_inj (n b m c : Nat) (hb : b < 2 ^ n) (hc : c < 2 ^ m) (h : bl n b = bl m c) : n = m ∧ b = c := by
  have h1 := congrArg List.length h
  rw [bl_length, bl_length] at h1
  have h2 := congrArg ofl h
  rw [ofl_bl n b hb, ofl_bl m c hc] at h2
  exact ⟨h1, h2⟩
theorem bg_pre (n b m c : Nat) (hn : n ≤ 32) (hb : b < 2 ^ n) (hm : m ≤ 32) (hc : c < 2 ^ m) : bgS (n : Int) b m c = true ↔ bl m c <+: bl n b := by
  unfold bgS
  rw [rt_of n b hn hb, rt_of m c hm hc]
  simp only [Bool.true_and, Int.toNat_natCast, Bool.and_eq_true, decide_eq_true_eq]
  rw [List.prefix_iff_eq_take, bl_length]
  constructor
  · rintro ⟨h1, h2⟩
    have h1' : m ≤ n := by omega
    rw [bl_take n b m h1']
    have h2' : pre n b m = c := by omega
    rw [← h2']; rfl
  · intro h
    have hle : m ≤ n := by
      have := congrArg List.length h
      rw [List.length_take, bl_length, bl_length] at this
      omega
    refine ⟨by omega, ?_⟩
    have := congrArg ofl h
    rw [ofl_bl m c hc, ofl_bl_take n b m hb hle] at this
    rw [this]; rfl
theorem cmn_take (a b : List Nat) : a.take (cmn a b) <+: a ∧ a.take (cmn a b) <+: b := by
  refine ⟨List.take_prefix _ _, ?_⟩
  rw [List.prefix_iff_eq_take, List.length_take]
  have h := cmn_le a b
  have e : min (cmn a b) a.length = cmn a b := by omega
  rw [e]
  apply List.ext_getElem?
  intro i
  by_cases hi : i < cmn a b
  · rw [List.getElem?_take, if_pos hi, List.getElem?_take, if_pos hi]
    exact cmn_same a b i hi
  · rw [List.getElem?_take, if_neg hi, List.getElem?_take, if_neg hi]

/-- All that is used of the order, at three vectors that may be. -/
theorem order_facts (n b m c k d : Nat) (h1 : n ≤ 32) (h2 : b < 2 ^ n) (h3 : m ≤ 32) (h4 : c < 2 ^ m) (h5 : k ≤ 32) (h6 : d < 2 ^ k) (p : Nat) (hp : p = cmn (bl n b) (bl m c)) :
    cmpN m c n b = - cmpN n b m c ∧ (cmpN n b m c = 0 ↔ (n = m ∧ b = c)) ∧ (cmpN n b m c ≤ 0 → cmpN m c k d ≤ 0 → cmpN n b k d ≤ 0) ∧
    (-1 ≤ cmpN n b m c ∧ cmpN n b m c ≤ 1) ∧ (-1 ≤ cmpN m c k d ∧ cmpN m c k d ≤ 1) ∧ (-1 ≤ cmpN n b k d ∧ cmpN n b k d ≤ 1) ∧
    p ≤ n ∧ (bgS (k : Int) d p (pre n b p : Nat) = false → bgS (p : Int) (pre n b p : Nat) k d = false → cmpN n b k d = cmpN m c k d ∧ cmpN n b k d ≠ 0) := by
  simp only [cmpN_list]
  have hl := cmn_le (bl n b) (bl m c)
  rw [bl_length, bl_length] at hl
  have hpn : p ≤ n := by omega
  have hlt := pre_lt n b p h2 hpn
  refine ⟨cmpL_neg _ _ (bl_mem n b) (bl_mem m c), ?_, cmpL_trans _ _ _ (bl_mem n b) (bl_mem m c) (bl_mem k d), cmpL_range _ _, cmpL_range _ _, cmpL_range _ _, hpn, ?_⟩
  · rw [cmpL_zero]
    constructor
    · exact bl_inj n b m c h2 h4
    · rintro ⟨rfl, rfl⟩; rfl
  · intro g1 g2
    have t1 := cmn_take (bl n b) (bl m c)
    rw [← hp, bl_take n b p hpn] at t1
    refine cmpL_side (bl p (pre n b p)) _ _ _ t1.1 t1.2 ?_ ?_
    · intro h
      have := (bg_pre k d p (pre n b p) h5 h6 (by omega) hlt).2 h
      rw [g1] at this; cases this
    · intro h
      have := (bg_pre p (pre n b p) k d (by omega) hlt h5 h6).2 h
      rw [g2] at this; cases this

end Go.Proofs.Ytdjlmmgnknfkfab
