/- The order of vectors; the closure by which records are put in order. -/
import Derived.Test.YtledkljffjomdaaDoorKC
import Derived.Test.YtledkljffjomdaaDoorKT
import Derived.Shelf.SlSortCmp.InsertionK
namespace Go.Proofs.YtledkljffjomdaaDoor
open Go.RowKit Go.Maps

/-- Which of two rows stands first. -/
def lexlt : List Nat → List Nat → Bool
  | [], [] => false
  | [], _ :: _ => true
  | _ :: _, [] => false
  | a :: s, b :: t => if a = b then lexlt s t else decide (a < b)
theorem lexlt_irrefl : ∀ s, lexlt s s = false
  | [] => rfl
  | a :: s => by simp [lexlt, lexlt_irrefl s]
theorem lexlt_trans : ∀ x y z, lexlt x y = true → lexlt y z = true → lexlt x z = true
  | [], [], _, h, _ => by simp [lexlt] at h
  | [], _ :: _, [], _, h => by simp [lexlt] at h
  | [], _ :: _, _ :: _, _, _ => rfl
  | _ :: _, [], _, h, _ => by simp [lexlt] at h
  | _ :: _, _ :: _, [], _, h => by simp [lexlt] at h
  | a :: s, b :: t, c :: u, h1, h2 => by
    simp only [lexlt] at h1 h2 ⊢
    by_cases e1 : a = b
    · subst e1
      by_cases e2 : a = c
      · subst e2
        simp only [if_true] at h1 h2 ⊢
        exact lexlt_trans s t u h1 h2
      · rw [if_neg e2] at h2 ⊢
        exact h2
    · rw [if_neg e1] at h1
      by_cases e2 : b = c
      · subst e2
        rw [if_neg e1]
        exact h1
      · rw [if_neg e2] at h2
        have h1' := of_decide_eq_true h1
        have h2' := of_decide_eq_true h2
        rw [if_neg (by omega)]
        exact decide_eq_true (by omega)
theorem lexlt_ntrans : ∀ x y z, lexlt x y = false → lexlt y z = false → lexlt x z = false
  | [], [], z, _, h => h
  | [], _ :: _, _, h, _ => by simp [lexlt] at h
  | _ :: _, [], [], _, _ => rfl
  | _ :: _, [], _ :: _, _, h => by simp [lexlt] at h
  | _ :: _, _ :: _, [], _, _ => rfl
  | a :: s, b :: t, c :: u, h1, h2 => by
    simp only [lexlt] at h1 h2 ⊢
    by_cases e1 : a = b
    · subst e1
      by_cases e2 : a = c
      · subst e2
        simp only [if_true] at h1 h2 ⊢
        exact lexlt_ntrans s t u h1 h2
      · rw [if_neg e2] at h2 ⊢
        exact h2
    · rw [if_neg e1] at h1
      by_cases e2 : b = c
      · subst e2
        rw [if_neg e1]
        exact h1
      · rw [if_neg e2] at h2
        have h1' := of_decide_eq_false h1
        have h2' := of_decide_eq_false h2
        rw [if_neg (by omega)]
        exact decide_eq_false (by omega)
/-- By what two rows have in common. -/
def cmpL (s t : List Nat) : Int := if cmn s t = s.length ∧ cmn s t = t.length then 0 else if cmn s t = s.length then -1 else if cmn s t = t.length then 1 else if s.getD (cmn s t) 0 = 0 then -1 else 1
theorem cmpL_lt : ∀ s t : List Nat, (∀ x ∈ s, x ≤ 1) → (∀ x ∈ t, x ≤ 1) → decide (cmpL s t < 0) = lexlt s t
  | [], [], _, _ => rfl
  | [], b :: t, _, _ => by simp [cmpL, cmn, lexlt]
  | a :: s, [], _, _ => by simp [cmpL, cmn, lexlt]
  | a :: s, b :: t, h1, h2 => by
    by_cases e : a = b
    · subst e
      have ih := cmpL_lt s t (fun x hx => h1 x (by simp [hx])) (fun x hx => h2 x (by simp [hx]))
      have : cmpL (a :: s) (a :: t) = cmpL s t := by
        simp [cmpL, cmn]
      rw [this, ih]
      simp [lexlt]
    · have ha := h1 a (by simp)
      have hb := h2 b (by simp)
      have hc : cmn (a :: s) (b :: t) = 0 := by simp [cmn, e]
      simp only [cmpL, hc, List.length_cons, lexlt, if_neg e]
      rw [if_neg (by omega), if_neg (by omega), if_neg (by omega)]
      rcases Nat.le_one_iff_eq_zero_or_eq_one.1 ha with rfl | rfl
      · have : b = 1 := by omega
        subst this
        simp
      · have : b = 0 := by omega
        subst this
        simp
theorem bl_le (n b : Nat) : ∀ x ∈ bl n b, x ≤ 1 := by
  intro x hx
  obtain ⟨i, -, rfl⟩ := List.mem_map.1 hx
  exact bt_le n b i
theorem cmpN_L (n b m c : Nat) : cmpN n b m c = cmpL (bl n b) (bl m c) := by
  unfold cmpN cmpL
  rw [bl_length, bl_length]
  by_cases h : cmn (bl n b) (bl m c) < n
  · have := bl_get n b _ h
    rw [List.getD_eq_getElem?_getD, this]
    rfl
  · have hle := cmn_le (bl n b) (bl m c)
    rw [bl_length, bl_length] at hle
    have : cmn (bl n b) (bl m c) = n := by omega
    simp [this]

/-- Records as they are put in order: their vectors may be. -/
abbrev Sx := {x : RSt × (Option Addr × Nat × Nat) // rt x.1.1.1 x.1.1.2 = true ∧ 0 ≤ x.1.1.2}
def encS (x : Sx) : List Value := [.int .i64 x.1.1.1.1, .int .u64 x.1.1.1.2, .int .i64 x.1.1.2.1.1, .int .i64 x.1.1.2.1.2.1, .int .u64 x.1.1.2.1.2.2.1, .int .i64 x.1.1.2.1.2.2.2.1, .int .u64 x.1.1.2.1.2.2.2.2, .int .i64 x.1.1.2.2.1.1, .int .i64 x.1.1.2.2.1.2.1, .int .u64 x.1.1.2.2.1.2.2.1, .int .i64 x.1.1.2.2.1.2.2.2.1, .int .u64 x.1.1.2.2.1.2.2.2.2, .bool x.1.1.2.2.2.1, .int .i64 x.1.1.2.2.2.2.1.1, .int .i64 x.1.1.2.2.2.2.1.2, .slice x.1.2.1 x.1.2.2.1 x.1.2.2.2]
instance : Inhabited Sx := ⟨⟨(((0, 0), (0, 0, 0, 0, 0), (0, 0, 0, 0, 0), false, (0, 0), []), none, 0, 0), by decide, by decide⟩⟩
def cfS (x y : Sx) : Int := coE x.1.1.1.1 x.1.1.1.2 y.1.1.1.1 y.1.1.1.2
theorem cfS_lex (x y : Sx) : ltOf cfS x y = lexlt (bl x.1.1.1.1.toNat x.1.1.1.2.toNat) (bl y.1.1.1.1.toNat y.1.1.1.2.toNat) := by
  have h : rbS x.1.1.1.1 x.1.1.1.2 y.1.1.1.1 y.1.1.1.2 = 0 := rbS_zero.2 ⟨x.2.1, y.2.1⟩
  unfold ltOf cfS coE
  rw [sel_zero h, cmpN_L]
  exact cmpL_lt _ _ (bl_le _ _) (bl_le _ _)
theorem swoS : Sort.SWO (ltOf cfS) where
  irrefl x := by rw [cfS_lex]; exact lexlt_irrefl _
  trans x y z h1 h2 := by rw [cfS_lex] at *; exact lexlt_trans _ _ _ h1 h2
  ntrans x y z h1 h2 := by rw [cfS_lex] at *; exact lexlt_ntrans _ _ _ h1 h2

set_option maxHeartbeats 4000000 in
set_option maxRecDepth 100000 in
theorem less_low (f0 f1 f2 f3 f4 f5 f6 f7 f8 f9 fa fb : Int) (fc : Bool) (fd fe : Int) (fp : Option Addr) (fq fr : Nat) (g0 g1 g2 g3 g4 g5 g6 g7 g8 g9 ga gb : Int) (gc : Bool) (gd ge : Int) (gp : Option Addr) (gq gr : Nat) (h1 : 0 ≤ f1) (h2 : 0 ≤ g1) (w : World) : Calls Tryd.prog 33 #[.agg #[.int .i64 f0, .int .u64 f1, .int .i64 f2, .int .i64 f3, .int .u64 f4, .int .i64 f5, .int .u64 f6, .int .i64 f7, .int .i64 f8, .int .u64 f9, .int .i64 fa, .int .u64 fb, .bool fc, .int .i64 fd, .int .i64 fe, .slice fp fq fr], .agg #[.int .i64 g0, .int .u64 g1, .int .i64 g2, .int .i64 g3, .int .u64 g4, .int .i64 g5, .int .u64 g6, .int .i64 g7, .int .i64 g8, .int .u64 g9, .int .i64 ga, .int .u64 gb, .bool gc, .int .i64 gd, .int .i64 ge, .slice gp gq gr]] w fun e w' => e = .returned (.int .i64 (coE f0 f1 g0 g1)) ∧ Gr w w' := by
  have G1 := hide (((Gr.refl w).alloc (.cells #[.int .i64 f0, .int .u64 f1, .int .i64 f2, .int .i64 f3, .int .u64 f4, .int .i64 f5, .int .u64 f6, .int .i64 f7, .int .i64 f8, .int .u64 f9, .int .i64 fa, .int .u64 fb, .bool fc, .int .i64 fd, .int .i64 fe, .slice fp fq fr] 34)).alloc (.cells #[.int .i64 g0, .int .u64 g1, .int .i64 g2, .int .i64 g3, .int .u64 g4, .int .i64 g5, .int .u64 g6, .int .i64 g7, .int .i64 g8, .int .u64 g9, .int .i64 ga, .int .u64 gb, .bool gc, .int .i64 gd, .int .i64 ge, .slice gp gq gr] 34))
  go_enter Tryd.func33, Tryd.ntmps33
  go_wp2_with fail
  refine (gCompare_any f0 f1 g0 g1 h1 h2 _).mono ?_; rintro e w2 ⟨rfl, hg⟩
  have G2 := hide (G1.out.trans hg)
  clear hg
  go_wp2
  go_ret
  exact ⟨rfl, G2.out⟩
theorem less_any (x y : Sx) (w : World) : Calls Tryd.prog 33 #[.agg (encS x).toArray, .agg (encS y).toArray] w fun e w' => e = .returned (.int .i64 (cfS x y)) ∧ Gr w w' := by
  obtain ⟨⟨⟨⟨f0, f1⟩, ⟨f2, f3, f4, f5, f6⟩, ⟨f7, f8, f9, fa, fb⟩, fc, ⟨fd, fe⟩, fl⟩, fp, fq, fr⟩, hx1, hx2⟩ := x
  obtain ⟨⟨⟨⟨g0, g1⟩, ⟨g2, g3, g4, g5, g6⟩, ⟨g7, g8, g9, ga, gb⟩, gc, ⟨gd, ge⟩, gl⟩, gp, gq, gr⟩, hy1, hy2⟩ := y
  exact less_low f0 f1 f2 f3 f4 f5 f6 f7 f8 f9 fa fb fc fd fe fp fq fr g0 g1 g2 g3 g4 g5 g6 g7 g8 g9 ga gb gc gd ge gp gq gr hx2 hy2 w

end Go.Proofs.YtledkljffjomdaaDoor
