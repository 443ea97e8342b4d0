/- A region that draws its order and stores what it also reads: what is held of the memory is asked behind the early operations alone; the late ones wait for all that looks at it.
   (After the library's law on regions that are held, Derived/OrdersHeld.lean: the same road, with a number from which on nothing more is held.) -/
import Derived.Test.YtmhcmlegdoapdaaDoorRA
namespace Go.Proofs.YtmhcmlegdoapdaaDoor
open Go.RowKit

section
variable {P : Program} {md : Region.Mode} {ops : Array Oper} {Q : Exit → Act → World → Prop} {S : World → Prop} {t : Nat}

/-- None of the late operations, those from t on, has come up. -/
def LF (t : Nat) (listed : Array Bool) : Prop := ∀ j, t ≤ j → listed.getD j false = false
theorem LF.set {listed : Array Bool} {i : Nat} (h : LF t listed) (hi : i < t) : LF t (listed.setIfInBounds i true) := fun j hj => by
  rw [getD_set_ne false (by omega)]; exact h j hj
theorem LF.of_set {listed : Array Bool} {i : Nat} (hi : i < t) (h : LF t (listed.setIfInBounds i true)) : LF t listed := fun j hj => by
  have := h j hj
  rwa [getD_set_ne false (by omega)] at this
theorem LF.mk {listed : Array Bool} (h : (List.range listed.size).all (fun j => decide (j < t) || !listed.getD j false) = true) : LF t listed := fun j hj => by
  rcases Nat.lt_or_ge j listed.size with h' | h'
  · rw [List.all_eq_true] at h
    have := h j (List.mem_range.2 h')
    simp only [Bool.or_eq_true, decide_eq_true_eq, Bool.not_eq_true'] at this
    rcases this with h1 | h1
    · omega
    · exact h1
  · simp [Array.getElem?_eq_none h']
theorem LF.not {listed : Array Bool} {i : Nat} (hi : t ≤ i) (hs : i < listed.size) (h : LF t (listed.setIfInBounds i true)) : False := by
  have := h i hi
  simp [hs] at this

/-- Whatever order is picked from here on; S holds behind each operation till the first late one. -/
def wpAnyL (P : Program) (md : Region.Mode) (ops : Array Oper) (Q : Exit → Act → World → Prop) (S : World → Prop) (t : Nat) : Nat → Array Bool → Act → World → Prop
  | 0, listed, a, w => Region.ready md ops listed = [] ∧ Q .normal a w
  | fuel + 1, listed, a, w =>
    (Region.ready md ops listed = [] → Q .normal a w) ∧
    ∀ i ∈ Region.ready md ops listed, wpOp P ops Q i (fun a' w' => (LF t (listed.setIfInBounds i true) → S w') ∧ wpAnyL P md ops Q S t fuel (listed.setIfInBounds i true) a' w') a w

theorem wpAny_of_L : ∀ (fuel : Nat) (listed : Array Bool) (a : Act) (w : World), wpAnyL P md ops Q S t fuel listed a w → wpAny P md ops Q fuel listed a w
  | 0, _, _, _, h => h
  | fuel + 1, _, _, _, h => ⟨h.1, fun i hi => wpOp_mono (fun a' w' h' => wpAny_of_L fuel _ a' w' h'.2) (h.2 i hi)⟩

/-- Do all late operations wait for i? -/
def waits (md : Region.Mode) (ops : Array Oper) (t i : Nat) : Bool :=
  (List.range ops.size).all fun j => decide (j < t) || (match ops[j]? with | some o => o.after.any fun e => Region.binds md e && e.on == i | none => false)

theorem late_not {i j : Nat} {listed : Array Bool} (hw : waits md ops t i = true) (hi : i ∈ Region.ready md ops listed) (hj : j ∈ Region.ready md ops listed) : j < t := by
  obtain ⟨hi0, -⟩ := mem_ready.1 hi
  obtain ⟨-, oj, hoj, hall⟩ := mem_ready.1 hj
  have hjs : j < ops.size := (Array.getElem?_eq_some_iff.1 hoj).1
  unfold waits at hw
  rw [List.all_eq_true] at hw
  have h1 := hw j (List.mem_range.2 hjs)
  rw [hoj] at h1
  simp only [Bool.or_eq_true, decide_eq_true_eq, Array.any_eq_true', Bool.and_eq_true, beq_iff_eq] at h1
  rcases h1 with h1 | ⟨e, he, hb, rfl⟩
  · exact h1
  · have h2 := hall e he hb
    rcases Nat.lt_or_ge e.on listed.size with h' | h'
    · simp [h'] at hi0 h2; rw [hi0] at h2; cases h2
    · simp [Array.getElem?_eq_none h'] at h2

theorem wpAnyL_first {T : World → Prop} {i : Nat} {oi : Oper} {v : Value} (hi : ops[i]? = some oi) (hsel : ∀ (j : Nat) (o : Oper) cs b, ops[j]? = some o → o.op ≠ .select cs b)
    (hQ : ∀ c a w, Q (.panic c) (a.put oi.dst v) w → Q (.panic c) a w) (hit : i < t) (hT : (∀ w, T w) ∨ ((∀ w, S w → T w) ∧ waits md ops t i = true)) :
    ∀ (fuel : Nat) (listed : Array Bool) (a : Act) (w : World),
      (∀ j oj, ops[j]? = some oj → j ≠ i → listed.getD j true = false → (∀ e ∈ oj.after, Region.binds md e = true → e.on ≠ i) → oi.apart ops oj = true) →
      i ∈ Region.ready md ops listed → YieldsIf P ops T oi v a → ((∀ w, T w) ∨ LF t listed) → T w → (LF t listed → S w) →
      wpAnyL P md ops Q S t fuel (listed.setIfInBounds i true) (a.put oi.dst v) w → wpAnyL P md ops Q S t (fuel + 1) listed a w := by
  intro fuel
  induction fuel with
  | zero =>
    intro listed a w _ hr hy _ hTw hSw H
    refine ⟨fun h => (by rw [h] at hr; cases hr), fun j hj => ?_⟩
    by_cases hji : j = i
    · subst hji; exact hy.wpOp hi hTw ⟨fun h => hSw (h.of_set hit), H⟩
    · have := ready_mono hj hji
      rw [H.1] at this
      cases this
  | succ fuel ih =>
    intro listed a w hfree hr hy hB hTw hSw H
    refine ⟨fun h => (by rw [h] at hr; cases hr), fun j hj => ?_⟩
    by_cases hji : j = i
    · subst hji; exact hy.wpOp hi hTw ⟨fun h => hSw (h.of_set hit), H⟩
    · have h1 := H.2 j (ready_mono hj hji)
      obtain ⟨hjun, oj, hoj, hall⟩ := mem_ready.1 hj
      have hnot : ∀ e ∈ oj.after, Region.binds md e = true → e.on ≠ i := fun e he hb heq => by
        have h1 := hall e he hb
        have h0 := (mem_ready.1 hr).1
        rw [heq] at h1
        rcases Nat.lt_or_ge i listed.size with h' | h'
        · simp [h'] at h0 h1; rw [h0] at h1; cases h1
        · simp [Array.getElem?_eq_none h'] at h1
      have h2 := wpOp_putIf hoj (hfree j oj hoj hji hjun hnot) (fun cs b => hsel i oi cs b hi) (fun cs b => hsel j oj cs b hoj) hQ hy h1
      have hfree' : ∀ k ok, ops[k]? = some ok → k ≠ i → (listed.setIfInBounds j true).getD k true = false →
          (∀ e ∈ ok.after, Region.binds md e = true → e.on ≠ i) → oi.apart ops ok = true := fun k ok hk hki hun hno => by
        refine hfree k ok hk hki ?_ hno
        by_cases hjk : j = k
        · subst hjk; exact hjun
        · rw [getD_set_ne true hjk] at hun; exact hun
      refine wpOp_mono (fun a' w' h3 => ?_) h2
      obtain ⟨hy', hS', hW'⟩ := h3
      have hS2 : LF t (listed.setIfInBounds j true) → S w' := fun h => hS' (by rw [Array.setIfInBounds_comm _ _ (Ne.symm hji)]; exact h.set hit)
      have hB' : (∀ w, T w) ∨ LF t (listed.setIfInBounds j true) := by
        rcases hT with hT | ⟨-, hwt⟩
        · exact Or.inl hT
        · rcases hB with hB | hB
          · exact Or.inl hB
          · exact Or.inr (hB.set (late_not hwt hr hj))
      have hT' : T w' := by
        rcases hT with hT | ⟨hST, hwt⟩
        · exact hT w'
        · rcases hB' with h | h
          · exact h w'
          · exact hST w' (hS2 h)
      refine ⟨hS2, ih (listed.setIfInBounds j true) a' w' hfree' (ready_mono hr (Ne.symm hji)) hy' hB' hT' hS2 ?_⟩
      rw [Array.setIfInBounds_comm _ _ hji]
      exact hW'

/-- Take number i first: an operation that looks at what S holds; all late ones wait for it. -/
theorem pickL (i : Nat) (d : Option Nat) {oi : Oper} {v : Value} {fuel : Nat} {listed : Array Bool} {a : Act} {w : World}
    (hi : ops[i]? = some oi) (hd : oi.dst = d) (hs : Region.noSelect ops = true) (hf : Region.free md ops listed i = true) (hr : (Region.ready md ops listed).contains i = true)
    (hit : i < t) (hw : waits md ops t i = true) (hL : (List.range listed.size).all (fun j => decide (j < t) || !listed.getD j false) = true)
    (hQ : ∀ c a w, Q (.panic c) (a.put d v) w → Q (.panic c) a w) (hwt : Region.wanted oi (yielded ops a.tmps) = true) (hy : ∀ w, S w → (execOp a.eval oi).run P w = .ok (.value v) w) (hS : S w)
    (h : wpAnyL P md ops Q S t fuel (listed.setIfInBounds i true) (a.put d v) w) : wpAnyL P md ops Q S t (fuel + 1) listed a w := by
  subst hd
  exact wpAnyL_first (T := S) hi (Region.noSelect_spec hs) hQ hit (Or.inr ⟨fun _ h => h, hw⟩) fuel listed a w (Region.free_spec hi hf) (by simpa using hr) (Or.inl ⟨hwt, hy⟩) (Or.inr (LF.mk hL)) hS (fun _ => hS) h
/-- .. one that looks at no memory. -/
theorem pickA (i : Nat) (d : Option Nat) {oi : Oper} {v : Value} {fuel : Nat} {listed : Array Bool} {a : Act} {w : World}
    (hi : ops[i]? = some oi) (hd : oi.dst = d) (hs : Region.noSelect ops = true) (hf : Region.free md ops listed i = true) (hr : (Region.ready md ops listed).contains i = true)
    (hit : i < t) (hQ : ∀ c a w, Q (.panic c) (a.put d v) w → Q (.panic c) a w) (hwt : Region.wanted oi (yielded ops a.tmps) = true) (hy : ∀ w, (execOp a.eval oi).run P w = .ok (.value v) w) (hS : S w)
    (h : wpAnyL P md ops Q S t fuel (listed.setIfInBounds i true) (a.put d v) w) : wpAnyL P md ops Q S t (fuel + 1) listed a w := by
  subst hd
  exact wpAnyL_first (T := fun _ => True) hi (Region.noSelect_spec hs) hQ hit (Or.inl fun _ => trivial) fuel listed a w (Region.free_spec hi hf) (by simpa using hr) (Or.inl ⟨hwt, fun w _ => hy w⟩) (Or.inl fun _ => trivial) trivial (fun _ => hS) h
/-- One alone may come up. -/
theorem oneL {i : Nat} {o : Oper} {fuel : Nat} {listed : Array Bool} {a : Act} {w : World} (hr : Region.ready md ops listed = [i]) (ho : ops[i]? = some o)
    (h : ∀ K' : Act → World → Prop, Shut (∀ a w, S w → wpAnyL P md ops Q S t fuel (listed.setIfInBounds i true) a w → K' a w) → if Region.wanted o (yielded ops a.tmps) = true then Oper.wp P o a w K' Q else K' (a.put o.dst undef) w) :
    wpAnyL P md ops Q S t (fuel + 1) listed a w := by
  refine ⟨fun h0 => (by rw [hr] at h0; cases h0), fun j hj => ?_⟩
  rw [hr] at hj
  obtain rfl : j = i := by simpa using hj
  exact wpOp_step ho (fun K' hK => h K' (fun a w hS hW => hK a w ⟨fun _ => hS, hW⟩))
/-- .. a late one. -/
theorem lateL {i : Nat} {o : Oper} {fuel : Nat} {listed : Array Bool} {a : Act} {w : World} (hr : Region.ready md ops listed = [i]) (ho : ops[i]? = some o) (hit : t ≤ i) (hl : decide (i < listed.size) = true)
    (h : ∀ K' : Act → World → Prop, Shut (∀ a w, wpAnyL P md ops Q S t fuel (listed.setIfInBounds i true) a w → K' a w) → if Region.wanted o (yielded ops a.tmps) = true then Oper.wp P o a w K' Q else K' (a.put o.dst undef) w) :
    wpAnyL P md ops Q S t (fuel + 1) listed a w := by
  refine ⟨fun h0 => (by rw [hr] at h0; cases h0), fun j hj => ?_⟩
  rw [hr] at hj
  obtain rfl : j = i := by simpa using hj
  exact wpOp_step ho (fun K' hK => h K' (fun a w hW => hK a w ⟨fun h => (h.not hit (of_decide_eq_true hl)).elim, hW⟩))
theorem doneL {listed : Array Bool} {a : Act} {w : World} (hr : Region.ready md ops listed = []) (h : Q .normal a w) : ∀ fuel, wpAnyL P md ops Q S t fuel listed a w
  | 0 => ⟨hr, h⟩
  | _ + 1 => ⟨fun _ => h, by rw [hr]; simp⟩
theorem regionL (t : Nat) (S : World → Prop) {id : Nat} {a : Act} {w : World} (hm : P.follows .mixedOrders = true) (hS : S w.drew)
    (h : S w.drew → wpAnyL P .any ops Q S t ops.size (Array.replicate ops.size false) a w.drew) : (Code.region id ops true).wp P Q a w :=
  wp_region_any hm (wpAny_of_L _ _ _ _ (h hS))

end
end Go.Proofs.YtmhcmlegdoapdaaDoor
