/- What stays true of a splice, whatever it is told. -/
import Derived.Test.YtofmommoeligoaaDoorTG
namespace Go.Proofs.YtofmommoeligoaaDoor

structure SOk (S : Sp) (t : Option Th) : Prop where
  pl : S.pl = 1 ∨ 3 ≤ S.pl ∧ S.pl ≤ 11
  th : S.pl = 9 → t.isSome = true
  dd : S.dd = true → S.pl = 6 ∨ S.pl = 7 ∨ S.pl = 8 ∨ S.pl = 11
theorem SOk.plok {S : Sp} {t : Option Th} (h : SOk S t) : PlOk S t := ⟨h.pl, h.th⟩
theorem SOk.nd {S : Sp} {t : Option Th} (h : SOk S t) (hp : S.pl = 1 ∨ S.pl = 3 ∨ S.pl = 4 ∨ S.pl = 5 ∨ S.pl = 9 ∨ S.pl = 10) : S.dd = false := by
  cases hd : S.dd with
  | false => rfl
  | true => have := h.dd hd; omega
theorem free_nd {S : Sp} {t : Option Th} {h : Th} (hd : S.dd = false) : S.free t h = ({ S with pl := 9 }, some h) := by
  unfold Sp.free
  rw [if_neg (by simp [hd])]
theorem free_d {S : Sp} {t : Option Th} {h : Th} (hd : S.dd = true) : S.free t h = (S.run h, t) := by
  unfold Sp.free
  rw [if_pos hd]
theorem ok9 {S : Sp} {h : Th} (hd : S.dd = false) : SOk { S with pl := 9 } (some h) := ⟨Or.inr (show (3 : Int) ≤ 9 ∧ (9 : Int) ≤ 11 by decide), fun _ => rfl, fun e => by rw [show ({ S with pl := 9 } : Sp).dd = S.dd from rfl, hd] at e; cases e⟩
theorem ok_at {S : Sp} {t : Option Th} {k : Int} (hd : S.dd = false) (hk : k = 1 ∨ 3 ≤ k ∧ k ≤ 11) (h9 : k ≠ 9) : SOk { S with pl := k } t := ⟨hk, fun e => absurd e h9, fun e => by rw [show ({ S with pl := k } : Sp).dd = S.dd from rfl, hd] at e; cases e⟩
theorem ok_fin {S : Sp} {t : Option Th} {e : Int} {l r : Rf} : SOk (S.fin e l r) t := ⟨Or.inr (show (3 : Int) ≤ 11 ∧ (11 : Int) ≤ 11 by decide), fun h => absurd (show (11 : Int) = 9 from h) (by decide), fun _ => Or.inr (Or.inr (Or.inr rfl))⟩
theorem ok_free {S : Sp} {t : Option Th} {e : Int} {l r : Rf} : SOk (S.free t (.fin e l r)).1 (S.free t (.fin e l r)).2 := by
  cases hd : S.dd with
  | false => rw [free_nd hd]; exact ok9 hd
  | true => rw [free_d hd]; exact ok_fin
theorem SOk.look {S : Sp} {t : Option Th} (hd : S.dd = false) : SOk (S.look t).1 (S.look t).2 := by
  unfold Sp.look
  split
  · exact ok_free
  · split
    · rw [free_nd hd]; exact ok9 hd
    · split
      · exact ok_at hd (Or.inr ⟨by decide, by decide⟩) (by decide)
      · split
        · rw [free_nd hd]; exact ok9 hd
        · exact ok_at hd (Or.inr ⟨by decide, by decide⟩) (by decide)
theorem SOk.back {S : Sp} {t : Option Th} (hd : S.dd = false) (a : An) : SOk (S.stepBack a) t := by
  unfold Sp.stepBack Sp.wait
  split
  · split
    · exact ⟨Or.inr (show (3 : Int) ≤ 10 ∧ (10 : Int) ≤ 11 by decide), fun e => absurd (show (10 : Int) = 9 from e) (by decide), fun e => by rw [show (({ S with lf := S.la, la := zr, hl := false, pl := 10 } : Sp)).dd = S.dd from rfl, hd] at e; cases e⟩
    · exact ok_fin
  · exact ok_at hd (Or.inr ⟨by decide, by decide⟩) (by decide)
theorem SOk.run {S : Sp} {t : Option Th} (hd : S.dd = false) (h : Th) : SOk (S.run h) t := by
  cases h with
  | wait => exact ok_at hd (Or.inr ⟨by decide, by decide⟩) (by decide)
  | fin e l r => exact ok_fin
  | go x => exact ⟨Or.inl rfl, fun e => absurd (show (1 : Int) = 9 from e) (by decide), fun e => by rw [show (S.run (.go x)).dd = S.dd from rfl, hd] at e; cases e⟩
theorem SOk.tell {S : Sp} {t : Option Th} (h : SOk S t) (a : An) : SOk (S.tell t a).1 (S.tell t a).2 := by
  unfold Sp.tell
  by_cases h1 : S.pl = 1
  · rw [if_pos h1]
    have hd := h.nd (Or.inl h1)
    split
    · exact SOk.look (S := { S with pl := 2, rg := a.r }) hd
    · exact SOk.back hd a
  rw [if_neg h1]
  by_cases h3 : S.pl = 3
  · rw [if_pos h3]
    have hd := h.nd (Or.inr (Or.inl h3))
    unfold Sp.hSame
    split
    · exact ok_free
    · rw [free_nd hd]; exact ok9 hd
  rw [if_neg h3]
  by_cases h4 : S.pl = 4
  · rw [if_pos h4]
    have hd := h.nd (by omega)
    unfold Sp.hEnter
    split
    · exact ok_at hd (Or.inr ⟨by decide, by decide⟩) (by decide)
    · exact ok_free
  rw [if_neg h4]
  by_cases h5 : S.pl = 5
  · rw [if_pos h5]
    unfold Sp.hRight
    split
    · exact ⟨Or.inr (show (3 : Int) ≤ 6 ∧ (6 : Int) ≤ 11 by decide), fun e => absurd (show (6 : Int) = 9 from e) (by decide), fun _ => Or.inl rfl⟩
    · exact ⟨Or.inr (show (3 : Int) ≤ 8 ∧ (8 : Int) ≤ 11 by decide), fun e => absurd (show (8 : Int) = 9 from e) (by decide), fun _ => Or.inr (Or.inr (Or.inl rfl))⟩
  rw [if_neg h5]
  by_cases h6 : S.pl = 6
  · rw [if_pos h6]
    exact ⟨Or.inr (show (3 : Int) ≤ 7 ∧ (7 : Int) ≤ 11 by decide), fun e => absurd (show (7 : Int) = 9 from e) (by decide), fun _ => Or.inr (Or.inl rfl)⟩
  rw [if_neg h6]
  by_cases h7 : S.pl = 7
  · rw [if_pos h7]
    unfold Sp.hMine
    split <;> exact ok_free
  rw [if_neg h7]
  by_cases h8 : S.pl = 8
  · rw [if_pos h8]
    unfold Sp.hOut
    split <;> exact ok_free
  rw [if_neg h8]
  by_cases h9 : S.pl = 9
  · rw [if_pos h9]
    cases t with
    | none => exact h
    | some q => exact SOk.run (h.nd (by omega)) q
  rw [if_neg h9]
  exact h
theorem SOk.wake {S : Sp} {t : Option Th} (h : SOk S t) : SOk S.wake t := by
  unfold Sp.wake
  split
  · rename_i h10
    exact ok_at (h.nd (by omega)) (Or.inl rfl) (by decide)
  · exact h
/-- Of what kind is its step, whom does it ask, what? -/
def Sp.kd (S : Sp) : Int := if S.pl = 10 then 2 else if S.pl = 11 then 3 else 1
def Sp.to (S : Sp) : Rf := if S.pl = 1 ∨ S.pl = 5 ∨ S.pl = 9 then S.lf else if S.pl = 3 ∨ S.pl = 6 then S.rg else if S.pl = 4 ∨ S.pl = 7 ∨ S.pl = 8 then S.me else zr
def Sp.q (S : Sp) : Int := if S.pl = 1 then 3 else if S.pl = 3 then 1 else if S.pl = 4 then 7 else if S.pl = 5 then 5 else if S.pl = 6 then 6 else if S.pl = 7 then 4 else if S.pl = 8 then 8 else if S.pl = 9 then 4 else 0
theorem step_form {S : Sp} {t : Option Th} (h : SOk S t) : ∃ x y r1 r2 oa oo e l r3, S.step = stL S.kd S.to S.q x y r1 r2 oa oo e l r3 := by
  have hp : S.pl = 1 ∨ S.pl = 3 ∨ S.pl = 4 ∨ S.pl = 5 ∨ S.pl = 6 ∨ S.pl = 7 ∨ S.pl = 8 ∨ S.pl = 9 ∨ S.pl = 10 ∨ S.pl = 11 := by have := h.pl; omega
  unfold Sp.step Sp.kd Sp.to Sp.q
  rcases hp with hp | hp | hp | hp | hp | hp | hp | hp | hp | hp <;> (rw [hp]; exact ⟨_, _, _, _, _, _, _, _, _, rfl⟩)
theorem q_three {S : Sp} {t : Option Th} (h : SOk S t) : S.q = 3 ↔ S.pl = 1 := by
  have hp : S.pl = 1 ∨ S.pl = 3 ∨ S.pl = 4 ∨ S.pl = 5 ∨ S.pl = 6 ∨ S.pl = 7 ∨ S.pl = 8 ∨ S.pl = 9 ∨ S.pl = 10 ∨ S.pl = 11 := by have := h.pl; omega
  unfold Sp.q
  rcases hp with hp | hp | hp | hp | hp | hp | hp | hp | hp | hp <;> (rw [hp]; decide)

/-- Locks rise: the last one that was asked for stands ahead of the next one. -/
def Riz (S : Sp) (t : Option Th) (hb : Bool) (k : Int × Int) : Prop := hb = true → (S.pl = 1 → klt k (S.lf.rk, S.lf.kn) = true) ∧ (S.pl = 9 → ∀ x, t = some (.go x) → klt k (x.rk, x.kn) = true)
theorem Riz.nine {S : Sp} {h : Th} {hb : Bool} {k : Int × Int} (hg : ∀ x, h = .go x → klt k (x.rk, x.kn) = true) : Riz { S with pl := 9 } (some h) hb k := fun _ => ⟨fun e => absurd (show (9 : Int) = 1 from e) (by decide), fun _ x e => hg x (Option.some.inj e)⟩
theorem Riz.none {S : Sp} {t : Option Th} {hb : Bool} {k : Int × Int} (h1 : S.pl ≠ 1) (h9 : S.pl ≠ 9) : Riz S t hb k := fun _ => ⟨fun e => absurd e h1, fun e => absurd e h9⟩
theorem Riz.fin {S : Sp} {t : Option Th} {hb : Bool} {k : Int × Int} {e : Int} {l r : Rf} : Riz (S.free t (.fin e l r)).1 (S.free t (.fin e l r)).2 hb k := by
  cases hd : S.dd with
  | false => rw [free_nd hd]; exact Riz.nine (fun x e => by cases e)
  | true => rw [free_d hd]; exact Riz.none (show (11 : Int) ≠ 1 by decide) (show (11 : Int) ≠ 9 by decide)
theorem Riz.tell1 {S : Sp} {t : Option Th} (h : SOk S t) (h1 : S.pl = 1) (a : An) : Riz (S.tell t a).1 (S.tell t a).2 true (S.lf.rk, S.lf.kn) := by
  have hd := h.nd (Or.inl h1)
  unfold Sp.tell
  rw [if_pos h1]
  split
  · unfold Sp.look
    split
    · exact Riz.fin
    · rename_i hk
      split
      · rw [free_nd (S := { S with pl := 2, rg := a.r }) hd]
        exact Riz.nine (S := { S with pl := 2, rg := a.r }) (fun x e => by cases e; simpa using hk)
      · split
        · exact Riz.none (show (4 : Int) ≠ 1 by decide) (show (4 : Int) ≠ 9 by decide)
        · split
          · rw [free_nd (S := { S with pl := 2, rg := a.r }) hd]
            exact Riz.nine (S := { S with pl := 2, rg := a.r }) (fun x e => by cases e)
          · exact Riz.none (show (3 : Int) ≠ 1 by decide) (show (3 : Int) ≠ 9 by decide)
  · unfold Sp.stepBack Sp.wait Sp.fin
    split
    · split
      · exact Riz.none (show (10 : Int) ≠ 1 by decide) (show (10 : Int) ≠ 9 by decide)
      · exact Riz.none (show (11 : Int) ≠ 1 by decide) (show (11 : Int) ≠ 9 by decide)
    · exact Riz.none (show (10 : Int) ≠ 1 by decide) (show (10 : Int) ≠ 9 by decide)
theorem Riz.tell {S : Sp} {t : Option Th} (h : SOk S t) (h1 : S.pl ≠ 1) (a : An) {hb : Bool} {k : Int × Int} (hr : Riz S t hb k) : Riz (S.tell t a).1 (S.tell t a).2 hb k := by
  unfold Sp.tell
  rw [if_neg h1]
  by_cases h3 : S.pl = 3
  · rw [if_pos h3]
    have hd := h.nd (Or.inr (Or.inl h3))
    unfold Sp.hSame
    split
    · exact Riz.fin
    · rw [free_nd hd]; exact Riz.nine (fun x e => by cases e)
  rw [if_neg h3]
  by_cases h4 : S.pl = 4
  · rw [if_pos h4]
    unfold Sp.hEnter
    split
    · exact Riz.none (show (5 : Int) ≠ 1 by decide) (show (5 : Int) ≠ 9 by decide)
    · exact Riz.fin
  rw [if_neg h4]
  by_cases h5 : S.pl = 5
  · rw [if_pos h5]
    unfold Sp.hRight
    split
    · exact Riz.none (show (6 : Int) ≠ 1 by decide) (show (6 : Int) ≠ 9 by decide)
    · exact Riz.none (show (8 : Int) ≠ 1 by decide) (show (8 : Int) ≠ 9 by decide)
  rw [if_neg h5]
  by_cases h6 : S.pl = 6
  · rw [if_pos h6]
    exact Riz.none (show (7 : Int) ≠ 1 by decide) (show (7 : Int) ≠ 9 by decide)
  rw [if_neg h6]
  by_cases h7 : S.pl = 7
  · rw [if_pos h7]
    unfold Sp.hMine
    split <;> exact Riz.fin
  rw [if_neg h7]
  by_cases h8 : S.pl = 8
  · rw [if_pos h8]
    unfold Sp.hOut
    split <;> exact Riz.fin
  rw [if_neg h8]
  by_cases h9 : S.pl = 9
  · rw [if_pos h9]
    cases t with
    | none => exact hr
    | some q =>
      cases q with
      | wait => exact Riz.none (show (10 : Int) ≠ 1 by decide) (show (10 : Int) ≠ 9 by decide)
      | fin e l r => exact Riz.none (show (11 : Int) ≠ 1 by decide) (show (11 : Int) ≠ 9 by decide)
      | go x => exact fun hb => ⟨fun _ => (hr hb).2 h9 x rfl, fun e => absurd (show (1 : Int) = 9 from e) (by decide)⟩
  rw [if_neg h9]
  exact hr
theorem Riz.wake {S : Sp} {t : Option Th} {hb : Bool} {k : Int × Int} (hr : Riz S t hb k) (h10 : S.pl = 10 → hb = false) : Riz S.wake t hb k := by
  unfold Sp.wake
  split
  · rename_i h
    intro e
    rw [h10 h] at e
    cases e
  · exact hr
theorem wake_ten {S : Sp} (h : S.pl ≠ 10) : S.wake = S := if_neg h

end Go.Proofs.YtofmommoeligoaaDoor
