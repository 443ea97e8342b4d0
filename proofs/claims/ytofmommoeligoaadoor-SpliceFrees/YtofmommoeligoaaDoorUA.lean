/- What a splice holds, whatever it is told. -/
import Derived.Test.YtofmommoeligoaaDoorTX
import Derived.Test.YtofmommoeligoaaDoorTZ
namespace Go.Proofs.YtofmommoeligoaaDoor

structure Fre (S : Sp) (l : List Int) : Prop where
  no : S.pl = 1 ∨ S.pl = 10 ∨ S.pl = 11 → l = []
  one : S.pl = 3 ∨ S.pl = 4 ∨ S.pl = 9 → ∀ x ∈ l, x = S.lf.id
  two : 5 ≤ S.pl ∧ S.pl ≤ 8 → ∀ x ∈ l, x = S.me.id ∨ S.dd = false ∧ x = S.lf.id
theorem Fre.nil {S : Sp} : Fre S [] := ⟨fun _ => rfl, (fun _ x h => by cases h), (fun _ x h => by cases h)⟩
theorem nine {S : Sp} {l : List Int} (h : ∀ x ∈ l, x = S.lf.id) : Fre { S with pl := 9 } l :=
  ⟨fun e => by have e : (9 : Int) = 1 ∨ (9 : Int) = 10 ∨ (9 : Int) = 11 := e; omega, fun _ => h, fun e => by have e : (5 : Int) ≤ 9 ∧ (9 : Int) ≤ 8 := e; omega⟩
theorem hld_mem {l : List Int} {to q k x : Int} (h : x ∈ hld l to q k) : x ∈ l ∧ kpB to q k x = true ∨ x = to ∧ k = 1 ∧ (q = 3 ∨ q = 7) := by
  unfold hld at h
  rcases List.mem_append.1 h with h | h
  · exact Or.inl ⟨(List.mem_filter.1 h).1, (List.mem_filter.1 h).2⟩
  · split at h
    · rename_i hc
      exact Or.inr ⟨by simpa using h, hc⟩
    · cases h
theorem eq_nil {l : List Int} (h : ∀ x ∈ l, False) : l = [] := by
  cases l with
  | nil => rfl
  | cons x l => exact (h x (by simp)).elim
theorem hld_len (l : List Int) (to q k : Int) : (hld l to q k).length ≤ l.length + 1 := by
  unfold hld
  rw [List.length_append]
  have := List.length_filter_le (kpB to q k) l
  split <;> simp <;> omega
theorem kpB_not {to q k x : Int} (h : kpB to q k x = true) (hq : k = 3 ∨ q = 4 ∨ q = 8) : x ≠ to := by
  rintro rfl
  unfold kpB at h
  rcases hq with rfl | rfl | rfl <;> simp at h
theorem free_fre {S : Sp} {t : Option Th} {h : Th} {l : List Int} (hd : S.dd = true → l = [] ∧ (∃ e a b, h = .fin e a b)) (h0 : S.dd = false → ∀ x ∈ l, x = S.lf.id) : Fre (S.free t h).1 l := by
  cases hdd : S.dd with
  | false => rw [free_nd hdd]; exact nine (h0 hdd)
  | true => rw [free_d hdd]; rw [(hd hdd).1]; exact Fre.nil
theorem Fre.tell {S : Sp} {t : Option Th} (ok : SOk S t) {l : List Int} (h : Fre S l) (a : An) (hk : S.kd = 1) : Fre (S.tell t a).1 (hld l S.to.id S.q a.k) := by
  have hq := q_three ok
  unfold Sp.tell
  by_cases h1 : S.pl = 1
  · rw [if_pos h1]
    have hd := ok.nd (Or.inl h1)
    have et : S.to = S.lf := by unfold Sp.to; rw [if_pos (Or.inl h1)]
    have hm : ∀ x ∈ hld l S.to.id S.q a.k, x = S.lf.id := fun x hx => by
      rcases hld_mem hx with ⟨hx, -⟩ | ⟨hx, -⟩
      · rw [h.no (Or.inl h1)] at hx; cases hx
      · rw [hx, et]
    split
    · unfold Sp.look
      split
      · exact free_fre (S := { S with pl := 2, rg := a.r }) (fun e => by rw [show ({ S with pl := 2, rg := a.r } : Sp).dd = S.dd from rfl, hd] at e; cases e) (fun _ => hm)
      · split
        · exact free_fre (S := { S with pl := 2, rg := a.r }) (fun e => by rw [show ({ S with pl := 2, rg := a.r } : Sp).dd = S.dd from rfl, hd] at e; cases e) (fun _ => hm)
        · split
          · exact ⟨fun e => by have e : (4 : Int) = 1 ∨ (4 : Int) = 10 ∨ (4 : Int) = 11 := e; omega, fun _ => hm, fun e => by have e : (5 : Int) ≤ 4 ∧ (4 : Int) ≤ 8 := e; omega⟩
          · split
            · exact free_fre (S := { S with pl := 2, rg := a.r }) (fun e => by rw [show ({ S with pl := 2, rg := a.r } : Sp).dd = S.dd from rfl, hd] at e; cases e) (fun _ => hm)
            · exact ⟨fun e => by have e : (3 : Int) = 1 ∨ (3 : Int) = 10 ∨ (3 : Int) = 11 := e; omega, fun _ => hm, fun e => by have e : (5 : Int) ≤ 3 ∧ (3 : Int) ≤ 8 := e; omega⟩
    · rename_i hk1
      have hl : hld l S.to.id S.q a.k = [] := eq_nil fun x hx => by
        rcases hld_mem hx with ⟨hx, -⟩ | ⟨-, hx, -⟩
        · rw [h.no (Or.inl h1)] at hx; cases hx
        · exact hk1 hx
      rw [hl]
      exact Fre.nil
  rw [if_neg h1]
  have hq3 : S.q ≠ 3 := fun e => h1 (hq.1 e)
  by_cases h3 : S.pl = 3
  · rw [if_pos h3]
    have hd := ok.nd (Or.inr (Or.inl h3))
    have eq : S.q = 1 := by unfold Sp.q; rw [h3]; decide
    have hm : ∀ x ∈ hld l S.to.id S.q a.k, x = S.lf.id := fun x hx => by
      rcases hld_mem hx with ⟨hx, -⟩ | ⟨-, -, hx⟩
      · exact h.one (Or.inl h3) x hx
      · rw [eq] at hx; omega
    unfold Sp.hSame
    split <;> exact free_fre (fun e => by rw [hd] at e; cases e) (fun _ => hm)
  rw [if_neg h3]
  by_cases h4 : S.pl = 4
  · rw [if_pos h4]
    have hd := ok.nd (by omega)
    have et : S.to = S.me := by unfold Sp.to; rw [if_neg (by omega), if_neg (by omega), if_pos (by omega)]
    unfold Sp.hEnter
    split
    · refine ⟨fun e => by have e : (5 : Int) = 1 ∨ (5 : Int) = 10 ∨ (5 : Int) = 11 := e; omega, fun e => by have e : (5 : Int) = 3 ∨ (5 : Int) = 4 ∨ (5 : Int) = 9 := e; omega, fun _ x hx => ?_⟩
      rcases hld_mem hx with ⟨hx, -⟩ | ⟨hx, -⟩
      · exact Or.inr ⟨hd, h.one (Or.inr (Or.inl h4)) x hx⟩
      · rw [et] at hx; exact Or.inl hx
    · rename_i hk1
      refine free_fre (fun e => by rw [hd] at e; cases e) (fun _ x hx => ?_)
      rcases hld_mem hx with ⟨hx, -⟩ | ⟨-, hx, -⟩
      · exact h.one (Or.inr (Or.inl h4)) x hx
      · exact absurd hx hk1
  rw [if_neg h4]
  by_cases h5 : S.pl = 5
  · rw [if_pos h5]
    have et : S.to = S.lf := by unfold Sp.to; rw [if_pos (by omega)]
    have eq : S.q = 5 := by unfold Sp.q; rw [h5]; decide
    have hm : ∀ x ∈ hld l S.to.id S.q a.k, x = S.me.id ∨ decide (a.k = 3) = false ∧ x = S.lf.id := fun x hx => by
      rcases hld_mem hx with ⟨hx, hb⟩ | ⟨-, -, hx⟩
      · by_cases e3 : a.k = 3
        · have hne := kpB_not hb (Or.inl e3)
          rw [et] at hne
          rcases h.two (by omega) x hx with e | ⟨-, e⟩
          · exact Or.inl e
          · exact absurd e hne
        · rcases h.two (by omega) x hx with e | ⟨-, e⟩
          · exact Or.inl e
          · exact Or.inr ⟨decide_eq_false e3, e⟩
      · rw [eq] at hx; omega
    unfold Sp.hRight
    split
    · exact ⟨fun e => by have e : (6 : Int) = 1 ∨ (6 : Int) = 10 ∨ (6 : Int) = 11 := e; omega, fun e => by have e : (6 : Int) = 3 ∨ (6 : Int) = 4 ∨ (6 : Int) = 9 := e; omega, fun _ => hm⟩
    · exact ⟨fun e => by have e : (8 : Int) = 1 ∨ (8 : Int) = 10 ∨ (8 : Int) = 11 := e; omega, fun e => by have e : (8 : Int) = 3 ∨ (8 : Int) = 4 ∨ (8 : Int) = 9 := e; omega, fun _ => hm⟩
  rw [if_neg h5]
  by_cases h6 : S.pl = 6
  · rw [if_pos h6]
    have eq : S.q = 6 := by unfold Sp.q; rw [h6]; decide
    refine ⟨fun e => by have e : (7 : Int) = 1 ∨ (7 : Int) = 10 ∨ (7 : Int) = 11 := e; omega, fun e => by have e : (7 : Int) = 3 ∨ (7 : Int) = 4 ∨ (7 : Int) = 9 := e; omega, fun _ x hx => ?_⟩
    rcases hld_mem hx with ⟨hx, -⟩ | ⟨-, -, hx⟩
    · exact h.two (by omega) x hx
    · rw [eq] at hx; omega
  rw [if_neg h6]
  have hfin : S.pl = 7 ∨ S.pl = 8 → ∀ e b c, Fre (S.free t (.fin e b c)).1 (hld l S.to.id S.q a.k) := fun hp e b c => by
    have et : S.to = S.me := by unfold Sp.to; rw [if_neg (by omega), if_neg (by omega), if_pos (by omega)]
    have eq : S.q = 4 ∨ S.q = 8 := by unfold Sp.q; rcases hp with hp | hp <;> rw [hp] <;> decide
    have hm : ∀ x ∈ hld l S.to.id S.q a.k, S.dd = false ∧ x = S.lf.id := fun x hx => by
      rcases hld_mem hx with ⟨hx, hb⟩ | ⟨-, -, hx⟩
      · have hne := kpB_not hb (Or.inr eq)
        rw [et] at hne
        exact (h.two (by omega) x hx).resolve_left hne
      · omega
    exact free_fre (fun hd => ⟨eq_nil (fun x hx => by have := (hm x hx).1; rw [hd] at this; cases this), e, b, c, rfl⟩) (fun _ x hx => (hm x hx).2)
  by_cases h7 : S.pl = 7
  · rw [if_pos h7]
    unfold Sp.hMine
    split <;> exact hfin (Or.inl h7) _ _ _
  rw [if_neg h7]
  by_cases h8 : S.pl = 8
  · rw [if_pos h8]
    unfold Sp.hOut
    split <;> exact hfin (Or.inr h8) _ _ _
  rw [if_neg h8]
  by_cases h9 : S.pl = 9
  · have et : S.to = S.lf := by unfold Sp.to; rw [if_pos (by omega)]
    have eq : S.q = 4 := by unfold Sp.q; rw [h9]; decide
    have hl : hld l S.to.id S.q a.k = [] := eq_nil fun x hx => by
      rcases hld_mem hx with ⟨hx, hb⟩ | ⟨-, -, hx⟩
      · have hne := kpB_not hb (Or.inr (Or.inl eq))
        rw [et] at hne
        exact hne (h.one (Or.inr (Or.inr h9)) x hx)
      · rw [eq] at hx; omega
    rw [hl]
    exact Fre.nil
  exfalso
  unfold Sp.kd at hk
  have := ok.pl
  split at hk
  · omega
  · split at hk <;> omega
theorem tell_over {S : Sp} {t : Option Th} (ok : SOk S t) (a : An) (hk : S.kd ≠ 1) : S.tell t a = (S, t) := by
  have hp : S.pl = 10 ∨ S.pl = 11 := by
    have := ok.pl
    unfold Sp.kd at hk
    split at hk
    · omega
    · split at hk
      · omega
      · exact absurd rfl hk
  unfold Sp.tell
  rw [if_neg (by omega), if_neg (by omega), if_neg (by omega), if_neg (by omega), if_neg (by omega), if_neg (by omega), if_neg (by omega), if_neg (by omega)]
theorem Fre.wake {S : Sp} {l : List Int} (h : Fre S l) : Fre S.wake l := by
  unfold Sp.wake
  split
  · rename_i h10
    rw [h.no (Or.inr (Or.inl h10))]
    exact Fre.nil
  · exact h
theorem Fre.look {S : Sp} {t : Option Th} (ok : SOk S t) {l : List Int} (h : Fre S l) (hl : l ≠ []) : S.kd = 1 ∧ S.q ≠ 3 := by
  have hp : ¬ (S.pl = 1 ∨ S.pl = 10 ∨ S.pl = 11) := fun e => hl (h.no e)
  refine ⟨?_, fun e => hp (Or.inl ((q_three ok).1 e))⟩
  unfold Sp.kd
  rw [if_neg (by omega), if_neg (by omega)]

end Go.Proofs.YtofmommoeligoaaDoor
