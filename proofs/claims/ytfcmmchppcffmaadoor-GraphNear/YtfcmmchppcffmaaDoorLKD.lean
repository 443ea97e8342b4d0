/- The order of vectors; the closure by which lists are put in order (stage 8's KD turned). -/
import Derived.Test.YtfcmmchppcffmaaDoorKC
import Derived.Test.YtfcmmchppcffmaaDoorGM
import Derived.Shelf.SlSortCmp.InsertionK
namespace Go.Proofs.YtfcmmchppcffmaaDoor
open Go.RowKit Go.Maps

/-- Which of two rows stands first. -/
def lexlt : List Nat → List Nat → Bool
  | [], [] => false
  | [], _ :: _ => true
  | _ :: _, [] => false
  | a :: s, b :: t => if a = b then lexlt s t else decide (a < b)
theorem lexlt_irrefl : ∀ s, lexlt s s = false
  | [] => rfl
  | a :: s => by simp [lexlt, lexlt_irrefl s]
theorem lexlt_trans : ∀ x y z, lexlt x y = true → lexlt y z = true → lexlt x z = true
  | [], [], _, h, _ => by simp [lexlt] at h
  | [], _ :: _, [], _, h => by simp [lexlt] at h
  | [], _ :: _, _ :: _, _, _ => rfl
  | _ :: _, [], _, h, _ => by simp [lexlt] at h
  | _ :: _, _ :: _, [], _, h => by simp [lexlt] at h
  | a :: s, b :: t, c :: u, h1, h2 => by
    simp only [lexlt] at h1 h2 ⊢
    by_cases e1 : a = b
    · subst e1
      by_cases e2 : a = c
      · subst e2
        simp only [if_true] at h1 h2 ⊢
        exact lexlt_trans s t u h1 h2
      · rw [if_neg e2] at h2 ⊢
        exact h2
    · rw [if_neg e1] at h1
      by_cases e2 : b = c
      · subst e2
        rw [if_neg e1]
        exact h1
      · rw [if_neg e2] at h2
        have h1' := of_decide_eq_true h1
        have h2' := of_decide_eq_true h2
        rw [if_neg (by omega)]
        exact decide_eq_true (by omega)
theorem lexlt_ntrans : ∀ x y z, lexlt x y = false → lexlt y z = false → lexlt x z = false
  | [], [], z, _, h => h
  | [], _ :: _, _, h, _ => by simp [lexlt] at h
  | _ :: _, [], [], _, _ => rfl
  | _ :: _, [], _ :: _, _, h => by simp [lexlt] at h
  | _ :: _, _ :: _, [], _, _ => rfl
  | a :: s, b :: t, c :: u, h1, h2 => by
    simp only [lexlt] at h1 h2 ⊢
    by_cases e1 : a = b
    · subst e1
      by_cases e2 : a = c
      · subst e2
        simp only [if_true] at h1 h2 ⊢
        exact lexlt_ntrans s t u h1 h2
      · rw [if_neg e2] at h2 ⊢
        exact h2
    · rw [if_neg e1] at h1
      by_cases e2 : b = c
      · subst e2
        rw [if_neg e1]
        exact h1
      · rw [if_neg e2] at h2
        have h1' := of_decide_eq_false h1
        have h2' := of_decide_eq_false h2
        rw [if_neg (by omega)]
        exact decide_eq_false (by omega)
/-- By what two rows have in common. -/
def cmpL (s t : List Nat) : Int := if cmn s t = s.length ∧ cmn s t = t.length then 0 else if cmn s t = s.length then -1 else if cmn s t = t.length then 1 else if s.getD (cmn s t) 0 = 0 then -1 else 1
theorem cmpL_lt : ∀ s t : List Nat, (∀ x ∈ s, x ≤ 1) → (∀ x ∈ t, x ≤ 1) → decide (cmpL s t < 0) = lexlt s t
  | [], [], _, _ => rfl
  | [], b :: t, _, _ => by simp [cmpL, cmn, lexlt]
  | a :: s, [], _, _ => by simp [cmpL, cmn, lexlt]
  | a :: s, b :: t, h1, h2 => by
    by_cases e : a = b
    · subst e
      have ih := cmpL_lt s t (fun x hx => h1 x (by simp [hx])) (fun x hx => h2 x (by simp [hx]))
      have : cmpL (a :: s) (a :: t) = cmpL s t := by
        simp [cmpL, cmn]
      rw [this, ih]
      simp [lexlt]
    · have ha := h1 a (by simp)
      have hb := h2 b (by simp)
      have hc : cmn (a :: s) (b :: t) = 0 := by simp [cmn, e]
      simp only [cmpL, hc, List.length_cons, lexlt, if_neg e]
      rw [if_neg (by omega), if_neg (by omega), if_neg (by omega)]
      rcases Nat.le_one_iff_eq_zero_or_eq_one.1 ha with rfl | rfl
      · have : b = 1 := by omega
        subst this
        simp
      · have : b = 0 := by omega
        subst this
        simp
theorem bl_le (n b : Nat) : ∀ x ∈ bl n b, x ≤ 1 := by
  intro x hx
  obtain ⟨i, -, rfl⟩ := List.mem_map.1 hx
  exact bt_le n b i
theorem cmpN_L (n b m c : Nat) : cmpN n b m c = cmpL (bl n b) (bl m c) := by
  unfold cmpN cmpL
  rw [bl_length, bl_length]
  by_cases h : cmn (bl n b) (bl m c) < n
  · have := bl_get n b _ h
    rw [List.getD_eq_getElem?_getD, this]
    rfl
  · have hle := cmn_le (bl n b) (bl m c)
    rw [bl_length, bl_length] at hle
    have : cmn (bl n b) (bl m c) = n := by omega
    simp [this]

/-- Lists as they are put in order: their vectors may be. -/
abbrev Lx := {x : Vc × (Option Addr × Nat × Nat) // rt x.1.1 x.1.2 = true ∧ 0 ≤ x.1.2}
def encX (x : Lx) : List Value := [.int .i64 x.1.1.1, .int .u64 x.1.1.2, .slice x.1.2.1 x.1.2.2.1 x.1.2.2.2]
instance : Inhabited Lx := ⟨⟨((0, 0), none, 0, 0), by decide, by decide⟩⟩
def cfX (x y : Lx) : Int := coE x.1.1.1 x.1.1.2 y.1.1.1 y.1.1.2
theorem cfX_lex (x y : Lx) : ltOf cfX x y = lexlt (bl x.1.1.1.toNat x.1.1.2.toNat) (bl y.1.1.1.toNat y.1.1.2.toNat) := by
  have h : rbS x.1.1.1 x.1.1.2 y.1.1.1 y.1.1.2 = 0 := rbS_zero.2 ⟨x.2.1, y.2.1⟩
  unfold ltOf cfX coE
  rw [sel_zero h, cmpN_L]
  exact cmpL_lt _ _ (bl_le _ _) (bl_le _ _)
theorem swoX : Sort.SWO (ltOf cfX) where
  irrefl x := by rw [cfX_lex]; exact lexlt_irrefl _
  trans x y z h1 h2 := by rw [cfX_lex] at *; exact lexlt_trans _ _ _ h1 h2
  ntrans x y z h1 h2 := by rw [cfX_lex] at *; exact lexlt_ntrans _ _ _ h1 h2

set_option maxHeartbeats 4000000 in
set_option maxRecDepth 100000 in
theorem lessX_low (f0 f1 : Int) (fp : Option Addr) (fq fr : Nat) (g0 g1 : Int) (gp : Option Addr) (gq gr : Nat) (h1 : 0 ≤ f1) (h2 : 0 ≤ g1) (w : World) : Calls Tryd.prog 42 #[.agg #[.int .i64 f0, .int .u64 f1, .slice fp fq fr], .agg #[.int .i64 g0, .int .u64 g1, .slice gp gq gr]] w fun e w' => e = .returned (.int .i64 (coE f0 f1 g0 g1)) ∧ Gr w w' := by
  have G1 := hide (((Gr.refl w).alloc (.cells #[.int .i64 f0, .int .u64 f1, .slice fp fq fr] 40)).alloc (.cells #[.int .i64 g0, .int .u64 g1, .slice gp gq gr] 40))
  go_enter Tryd.func42, Tryd.ntmps42
  go_wp2_with fail
  refine (gCompare_any f0 f1 g0 g1 h1 h2 _).mono ?_; rintro e w2 ⟨rfl, hg⟩
  have G2 := hide (G1.out.trans hg)
  clear hg
  go_wp2
  go_ret
  exact ⟨rfl, G2.out⟩

theorem lessX_any (x y : Lx) (w : World) : Calls Tryd.prog 42 #[.agg (encX x).toArray, .agg (encX y).toArray] w fun e w' => e = .returned (.int .i64 (cfX x y)) ∧ Gr w w' := by
  obtain ⟨⟨⟨f0, f1⟩, fp, fq, fr⟩, hx1, hx2⟩ := x
  obtain ⟨⟨⟨g0, g1⟩, gp, gq, gr⟩, hy1, hy2⟩ := y
  exact lessX_low f0 f1 fp fq fr g0 g1 gp gq gr hx2 hy2 w

end Go.Proofs.YtfcmmchppcffmaaDoor
