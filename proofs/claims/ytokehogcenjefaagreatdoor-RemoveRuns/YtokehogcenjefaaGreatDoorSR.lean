/- A search that does not begin again goes left first, and right then, never back. -/
import Derived.Test.YtokehogcenjefaaGreatDoorSH
namespace Go.Proofs.YtokehogcenjefaaGreatDoor

theorem rlt_asymm {x y : Rf} (h : rlt x y = true) : rlt y x = false := by
 unfold rlt at *
 rw [klt_iff] at h
 cases h2 : klt (y.rk, y.kn) (x.rk, x.kn) with
 | false => rfl
 | true => rw [klt_iff] at h2; omega
theorem rlt_irrefl (x : Rf) : rlt x x = false := by
 cases h : rlt x x with
 | false => rfl
 | true => have := rlt_asymm h; rw [h] at this; cases this
theorem rlt_trans {x y z : Rf} (h : rlt x y = true) (k : rlt y z = true) : rlt x z = true := by
 unfold rlt at *
 rw [klt_iff] at *
 omega
theorem liv_gt {ws : List (Pl × Rf)} {x y : Int} : ∀ (k : Nat) (last right r : Rf), lvM ws last right ≤ k → liv ws x y last right = some r → rlt last r = true := by
 intro k
 induction k with
 | zero =>
   intro last right r hk h
   by_cases hc : rlt last right = true ∧ ckE right.rk right.kn = 0
   · cases hl : look ws (right.id, x, y) with
     | none => rw [liv_none hc hl] at h; cases h; exact hc.1
     | some q => exact absurd hk (by have := lvM_lt hc.1 hl; omega)
   · rw [liv_bad hc] at h; cases h
 | succ k ih =>
   intro last right r hk h
   by_cases hc : rlt last right = true ∧ ckE right.rk right.kn = 0
   · cases hl : look ws (right.id, x, y) with
     | none => rw [liv_none hc hl] at h; cases h; exact hc.1
     | some q =>
       rw [liv_some hc hl] at h
       exact rlt_trans hc.1 (ih right q r (by have := lvM_lt hc.1 hl; omega) h)
   · rw [liv_bad hc] at h; cases h
/-- What is true of a search that went up (or did not). -/
def Ris (S : Sk) (up : Bool) : Prop := (up = true → klt (S.pt.rk, S.pt.kn) (S.tr, S.tn) = true) ∧ (S.lk = true → klt (S.ah.rk, S.ah.kn) (S.tr, S.tn) = true)
/-- What the law asks of a step, and what is true behind it. -/
def Goes (S S' : Sk) (up : Bool) : Prop := S'.tr = S.tr ∧ S'.tn = S.tn ∧ ¬(rlt S'.to S.to = true ∧ up = true) ∧ ¬(klt (S'.to.rk, S'.to.kn) (S.tr, S.tn) = false ∧ rlt S.to S'.to = true) ∧ Ris S' (up || rlt S.to S'.to)
theorem begin_no {S : Sk} (h : S.begin.ov = false) (hn : S.begin.n = S.n) : False := by
 unfold Sk.begin at h hn
 split at h
 · exact absurd h (by unfold Sk.busy; simp)
 · rename_i h64
   rw [if_neg h64] at hn
   have : S.n + 1 = S.n := hn
   omega
theorem passed_no {S : Sk} (h : S.passed.ov = false) (hn : S.passed.n = S.n) : False := by
 unfold Sk.passed at h hn
 split at h
 · exact absurd h (by unfold Sk.busy; simp)
 · rename_i h64
   rw [if_neg h64] at hn
   have : S.n + 1 = S.n := hn
   omega
/-- To the right, from where it stands. -/
theorem goes_right {S0 S : Sk} {ws : List (Pl × Rf)} {r : Rf} {up : Bool} (hto : S0.to = S.pt) (htr : S.tr = S0.tr) (htn : S.tn = S0.tn) (hp : klt (S.pt.rk, S.pt.kn) (S.tr, S.tn) = true) (h : (S.right ws r).ov = false) (hn : (S.right ws r).n = S.n) : Goes S0 (S.right ws r) up := by
 unfold Sk.right at *
 cases hl : liv ws S.wl S.wb S.pt r with
 | none => rw [hl] at h hn; exact (begin_no h hn).elim
 | some x =>
   rw [hl] at h hn
   have hx := liv_gt _ _ _ _ (Nat.le_refl _) hl
   simp only [] at h hn ⊢
   unfold Sk.next at *
   split at h
   · rename_i hk
     rw [if_pos hk]
     refine ⟨htr, htn, ?_, ?_, ?_⟩
     · rintro ⟨h1, -⟩
       rw [hto] at h1
       have h1 : rlt x S.pt = true := h1
       rw [rlt_asymm hx] at h1; cases h1
     · rintro ⟨h1, -⟩
       have h1 : klt (x.rk, x.kn) (S0.tr, S0.tn) = false := h1
       rw [← htr, ← htn, hk] at h1; cases h1
     · exact ⟨fun _ => hp, fun _ => hk⟩
   · rename_i hk
     split at h
     · rename_i hw
       rw [if_neg hk, if_pos hw]
       refine ⟨htr, htn, ?_, ?_, ?_⟩
       · rintro ⟨h1, -⟩
         rw [hto] at h1
         have h1 : rlt S.pt S.pt = true := h1
         rw [rlt_irrefl] at h1; cases h1
       · rintro ⟨-, h1⟩
         rw [hto] at h1
         have h1 : rlt S.pt S.pt = true := h1
         rw [rlt_irrefl] at h1; cases h1
       · exact ⟨fun _ => hp, fun e => by cases e⟩
     · exact absurd h (by simp)
theorem goes {S : Sk} {ws : List (Pl × Rf)} {a : An} {up : Bool} (hov : S.ov = false) (hr : Ris S up) (h : (S.tell ws a).1.ov = false) (hn : (S.tell ws a).1.n = S.n) : Goes S (S.tell ws a).1 up := by
 unfold Sk.tell at *
 rw [if_neg (by simp [hov])] at *
 by_cases hlk : S.lk = true
 · rw [if_pos hlk] at *
   have hto : S.to = S.ah := if_pos hlk
   unfold Sk.hearA at *
   by_cases h1 : a.k = 1
   · rw [if_pos h1] at *
     exact goes_right (S := S.stand S.ah) hto rfl rfl (hr.2 hlk) h hn
   · rw [if_neg h1] at *
     by_cases h3 : a.k = 3
     · rw [if_pos h3] at *; exact (passed_no h hn).elim
     · rw [if_neg h3] at *; exact (begin_no h hn).elim
 · rw [if_neg hlk] at *
   have hto : S.to = S.pt := if_neg hlk
   unfold Sk.hearH at *
   by_cases h1 : a.k = 1
   · rw [if_pos h1] at *
     by_cases hp : klt (S.pt.rk, S.pt.kn) (S.tr, S.tn) = true
     · simp only [if_pos hp] at *
       exact goes_right (S := S) hto rfl rfl hp h hn
     · simp only [if_neg hp] at *
       unfold Sk.left at *
       by_cases hc : rlt a.l S.pt = true ∧ ckE a.l.rk a.l.kn = 0
       · rw [if_pos hc] at *
         have hu : up = false := by
           cases up with
           | false => rfl
           | true => exact absurd (hr.1 rfl) hp
         subst hu
         have e2 : rlt S.pt a.l = false := rlt_asymm hc.1
         refine ⟨rfl, rfl, (fun c => by cases c.2), ?_, ?_⟩
         · rintro ⟨-, c⟩
           rw [hto] at c
           have c : rlt S.pt a.l = true := c
           rw [e2] at c; cases c
         · rw [hto]
           show Ris _ (false || rlt S.pt a.l)
           rw [e2]
           exact ⟨(fun e => by cases e), (fun e => by cases e)⟩
       · rw [if_neg hc] at *; exact (begin_no h hn).elim
   · rw [if_neg h1] at *
     by_cases h3 : a.k = 3
     · rw [if_pos h3] at *; exact (begin_no h hn).elim
     · rw [if_neg h3] at *; exact (begin_no h hn).elim

theorem right_tr {S : Sk} {ws : List (Pl × Rf)} {r : Rf} : (S.right ws r).tr = S.tr ∧ (S.right ws r).tn = S.tn ∧ ((S.right ws r).ov = false → (S.right ws r).n ≠ S.n → (S.right ws r).lk = false) := by
 unfold Sk.right
 cases hl : liv ws S.wl S.wb S.pt r with
 | none =>
   simp only []
   unfold Sk.begin
   split
   · exact ⟨rfl, rfl, fun e => by cases e⟩
   · exact ⟨rfl, rfl, fun _ _ => rfl⟩
 | some x =>
   simp only []
   unfold Sk.next
   split
   · exact ⟨rfl, rfl, fun _ c => absurd rfl c⟩
   · split
     · exact ⟨rfl, rfl, fun _ _ => rfl⟩
     · exact ⟨rfl, rfl, fun e => by cases e⟩
theorem begin_tr {S : Sk} : S.begin.tr = S.tr ∧ S.begin.tn = S.tn ∧ (S.begin.ov = false → S.begin.n ≠ S.n → S.begin.lk = false) := by
 unfold Sk.begin
 split
 · exact ⟨rfl, rfl, fun e => by cases e⟩
 · exact ⟨rfl, rfl, fun _ _ => rfl⟩
theorem passed_tr {S : Sk} : S.passed.tr = S.tr ∧ S.passed.tn = S.tn ∧ (S.passed.ov = false → S.passed.n ≠ S.n → S.passed.lk = false) := by
 unfold Sk.passed
 split
 · exact ⟨rfl, rfl, fun e => by cases e⟩
 · exact ⟨rfl, rfl, fun _ _ => rfl⟩
/-- The target stays; who began again looks at nobody. -/
theorem tell_tr {S : Sk} {ws : List (Pl × Rf)} {a : An} (hov : S.ov = false) : (S.tell ws a).1.tr = S.tr ∧ (S.tell ws a).1.tn = S.tn ∧ ((S.tell ws a).1.ov = false → (S.tell ws a).1.n ≠ S.n → (S.tell ws a).1.lk = false) := by
 unfold Sk.tell
 rw [if_neg (by simp [hov])]
 split
 · unfold Sk.hearA
   split
   · exact right_tr (S := S.stand S.ah)
   · split
     · exact passed_tr
     · exact begin_tr
 · unfold Sk.hearH
   split
   · split
     · exact right_tr
     · unfold Sk.left
       split
       · exact ⟨rfl, rfl, fun _ _ => rfl⟩
       · exact begin_tr
   · split
     · exact begin_tr
     · exact begin_tr

end Go.Proofs.YtokehogcenjefaaGreatDoor
