/- A region that draws its order: an operation that looks at what is held, for which all late ones wait, be it by others. -/
import Derived.Test.YtfcmmchppcffmaaDoorMZA
namespace Go.Proofs.YtfcmmchppcffmaaDoor
open Go.RowKit

section
variable {P : Program} {md : Region.Mode} {ops : Array Oper} {Q : Exit → Act → World → Prop} {S : World → Prop} {t : Nat}

/-- Of whatever has come up, all that it waited for has. -/
def Cl (md : Region.Mode) (ops : Array Oper) (listed : Array Bool) : Prop := ∀ k o, ops[k]? = some o → listed.getD k false = true → ∀ e ∈ o.after, Region.binds md e = true → listed.getD e.on false = true
theorem getD_more {listed : Array Bool} {j x : Nat} (h : listed.getD x false = true) : (listed.setIfInBounds j true).getD x false = true := by
  by_cases e : j = x
  · subst e
    rcases Nat.lt_or_ge j listed.size with h' | h'
    · simp [h']
    · simp [Array.getElem?_eq_none h'] at h
  · rw [getD_set_ne false e]; exact h
theorem Cl.set {listed : Array Bool} {j : Nat} (h : Cl md ops listed) (hj : j ∈ Region.ready md ops listed) : Cl md ops (listed.setIfInBounds j true) := fun k o hk hl e he hb => by
  by_cases hjk : j = k
  · subst hjk
    obtain ⟨-, oj, hoj, hall⟩ := mem_ready.1 hj
    rw [hoj] at hk
    injection hk with hk
    subst hk
    exact getD_more (hall e he hb)
  · rw [getD_set_ne false hjk] at hl
    exact getD_more (h k o hk hl e he hb)
def clB (md : Region.Mode) (ops : Array Oper) (listed : Array Bool) : Bool := (List.range ops.size).all fun k => !listed.getD k false || (match ops[k]? with | some o => o.after.all fun e => !Region.binds md e || listed.getD e.on false | none => true)
theorem Cl.of {listed : Array Bool} (h : clB md ops listed = true) : Cl md ops listed := fun k o hk hl e he hb => by
  unfold clB at h
  rw [List.all_eq_true] at h
  have h1 := h k (List.mem_range.2 (Array.getElem?_eq_some_iff.1 hk).1)
  rw [hk, hl] at h1
  simp only [Bool.not_true, Bool.false_or, Array.all_eq_true_iff_forall_mem] at h1
  have h2 := h1 e he
  rw [hb] at h2
  simpa using h2
/-- Does j wait for i, be it by others? -/
def reach (md : Region.Mode) (ops : Array Oper) (i : Nat) : Nat → Nat → Bool
  | 0, _ => false
  | f + 1, j => match ops[j]? with | some o => o.after.any fun e => Region.binds md e && (e.on == i || reach md ops i f e.on) | none => false
theorem reach_not {listed : Array Bool} {i : Nat} (hc : Cl md ops listed) (hi : listed.getD i true = false) : ∀ (f j : Nat) (o : Oper), ops[j]? = some o → (∀ e ∈ o.after, Region.binds md e = true → listed.getD e.on false = true) → reach md ops i f j = true → False
  | 0, _, _, _, _, h => by cases h
  | f + 1, j, o, ho, hd, h => by
    unfold reach at h
    rw [ho] at h
    simp only [Array.any_eq_true', Bool.and_eq_true, Bool.or_eq_true, beq_iff_eq] at h
    obtain ⟨e, he, hb, h1⟩ := h
    have h2 := hd e he hb
    rcases h1 with h1 | h1
    · rw [h1] at h2
      rcases Nat.lt_or_ge i listed.size with h' | h'
      · simp [h'] at hi h2; rw [hi] at h2; cases h2
      · simp [Array.getElem?_eq_none h'] at h2
    · cases hq : ops[e.on]? with
      | none =>
        cases f with
        | zero => cases h1
        | succ f => unfold reach at h1; rw [hq] at h1; cases h1
      | some o2 => exact reach_not hc hi f e.on o2 hq (fun e2 he2 hb2 => hc _ _ hq h2 e2 he2 hb2) h1
/-- Do all late operations wait for i, be it by others? -/
def waitsT (md : Region.Mode) (ops : Array Oper) (t i : Nat) : Bool := (List.range ops.size).all fun j => decide (j < t) || reach md ops i ops.size j
theorem late_notT {i j : Nat} {listed : Array Bool} (hw : waitsT md ops t i = true) (hc : Cl md ops listed) (hi : i ∈ Region.ready md ops listed) (hj : j ∈ Region.ready md ops listed) : j < t := by
  obtain ⟨hi0, -⟩ := mem_ready.1 hi
  obtain ⟨-, oj, hoj, hall⟩ := mem_ready.1 hj
  have hjs : j < ops.size := (Array.getElem?_eq_some_iff.1 hoj).1
  unfold waitsT at hw
  rw [List.all_eq_true] at hw
  have h1 := hw j (List.mem_range.2 hjs)
  simp only [Bool.or_eq_true, decide_eq_true_eq] at h1
  rcases h1 with h1 | h1
  · exact h1
  · exact (reach_not hc hi0 _ j oj hoj hall h1).elim

theorem wpAnyL_firstT {i : Nat} {oi : Oper} {v : Value} (hi : ops[i]? = some oi) (hsel : ∀ (j : Nat) (o : Oper) cs b, ops[j]? = some o → o.op ≠ .select cs b)
    (hQ : ∀ c a w, Q (.panic c) (a.put oi.dst v) w → Q (.panic c) a w) (hit : i < t) (hwt : waitsT md ops t i = true) :
    ∀ (fuel : Nat) (listed : Array Bool) (a : Act) (w : World),
      (∀ j oj, ops[j]? = some oj → j ≠ i → listed.getD j true = false → (∀ e ∈ oj.after, Region.binds md e = true → e.on ≠ i) → oi.apart ops oj = true) →
      i ∈ Region.ready md ops listed → YieldsIf P ops S oi v a → LF t listed → Cl md ops listed → S w →
      wpAnyL P md ops Q S t fuel (listed.setIfInBounds i true) (a.put oi.dst v) w → wpAnyL P md ops Q S t (fuel + 1) listed a w := by
  intro fuel
  induction fuel with
  | zero =>
    intro listed a w _ hr hy _ _ hSw H
    refine ⟨fun h => (by rw [h] at hr; cases hr), fun j hj => ?_⟩
    by_cases hji : j = i
    · subst hji; exact hy.wpOp hi hSw ⟨fun _ => hSw, H⟩
    · have := ready_mono hj hji
      rw [H.1] at this
      cases this
  | succ fuel ih =>
    intro listed a w hfree hr hy hB hc hSw H
    refine ⟨fun h => (by rw [h] at hr; cases hr), fun j hj => ?_⟩
    by_cases hji : j = i
    · subst hji; exact hy.wpOp hi hSw ⟨fun _ => hSw, H⟩
    · have h1 := H.2 j (ready_mono hj hji)
      obtain ⟨hjun, oj, hoj, hall⟩ := mem_ready.1 hj
      have hnot : ∀ e ∈ oj.after, Region.binds md e = true → e.on ≠ i := fun e he hb heq => by
        have h1 := hall e he hb
        have h0 := (mem_ready.1 hr).1
        rw [heq] at h1
        rcases Nat.lt_or_ge i listed.size with h' | h'
        · simp [h'] at h0 h1; rw [h0] at h1; cases h1
        · simp [Array.getElem?_eq_none h'] at h1
      have h2 := wpOp_putIf hoj (hfree j oj hoj hji hjun hnot) (fun cs b => hsel i oi cs b hi) (fun cs b => hsel j oj cs b hoj) hQ hy h1
      have hfree' : ∀ k ok, ops[k]? = some ok → k ≠ i → (listed.setIfInBounds j true).getD k true = false →
          (∀ e ∈ ok.after, Region.binds md e = true → e.on ≠ i) → oi.apart ops ok = true := fun k ok hk hki hun hno => by
        refine hfree k ok hk hki ?_ hno
        by_cases hjk : j = k
        · subst hjk; exact hjun
        · rw [getD_set_ne true hjk] at hun; exact hun
      have hB' : LF t (listed.setIfInBounds j true) := hB.set (late_notT hwt hc hr hj)
      refine wpOp_mono (fun a' w' h3 => ?_) h2
      obtain ⟨hy', hS', hW'⟩ := h3
      have hS2 : S w' := hS' (by rw [Array.setIfInBounds_comm _ _ (Ne.symm hji)]; exact hB'.set hit)
      refine ⟨fun _ => hS2, ih (listed.setIfInBounds j true) a' w' hfree' (ready_mono hr (Ne.symm hji)) hy' hB' (hc.set hj) hS2 ?_⟩
      rw [Array.setIfInBounds_comm _ _ hji]
      exact hW'
/-- Take number i first: an operation that looks at what S holds; all late ones wait for it, be it by others. -/
theorem pickT (i : Nat) (d : Option Nat) {oi : Oper} {v : Value} {fuel : Nat} {listed : Array Bool} {a : Act} {w : World}
    (hi : ops[i]? = some oi) (hd : oi.dst = d) (hs : Region.noSelect ops = true) (hf : Region.free md ops listed i = true) (hr : (Region.ready md ops listed).contains i = true)
    (hit : i < t) (hw : waitsT md ops t i = true) (hL : (List.range listed.size).all (fun j => decide (j < t) || !listed.getD j false) = true) (hc : clB md ops listed = true)
    (hQ : ∀ c a w, Q (.panic c) (a.put d v) w → Q (.panic c) a w) (hwt : Region.wanted oi (yielded ops a.tmps) = true) (hy : ∀ w, S w → (execOp a.eval oi).run P w = .ok (.value v) w) (hS : S w)
    (h : wpAnyL P md ops Q S t fuel (listed.setIfInBounds i true) (a.put d v) w) : wpAnyL P md ops Q S t (fuel + 1) listed a w := by
  subst hd
  exact wpAnyL_firstT hi (Region.noSelect_spec hs) hQ hit hw fuel listed a w (Region.free_spec hi hf) (by simpa using hr) (Or.inl ⟨hwt, hy⟩) (LF.mk hL) (Cl.of hc) hS h
end

end Go.Proofs.YtfcmmchppcffmaaDoor
