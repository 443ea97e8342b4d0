/- A region that draws its order and stores what it also reads: what is held of the memory is asked behind the early operations alone; the late ones wait for all that looks at it.
   (After the library's law on regions that are held, Derived/OrdersHeld.lean: the same road, with a number from which on nothing more is held.) -/
import Derived.Test.YtmhcmlegdoapdaaDoorRA
import Derived.Test.YtmhcmlegdoapdaaDoorWS
import Derived.Test.YtmhcmlegdoapdaaDoorWA
namespace Go.Proofs.YtmhcmlegdoapdaaDoor
open Go.RowKit

section
variable {P : Program} {md : Region.Mode} {ops : Array Oper} {Q : Exit → Act → World → Prop} {S : World → Prop} {t : Nat}

/-- None of the late operations, those from t on, has come up. -/
def LF (t : Nat) (listed : Array Bool) : Prop := ∀ j, t ≤ j → listed.getD j false = false
theorem LF.set {listed : Array Bool} {i : Nat} (h : LF t listed) (hi : i < t) : LF t (listed.setIfInBounds i true) := fun j hj => by
  rw [getD_set_ne false (by omega)]; exact h j hj
theorem LF.of_set {listed : Array Bool} {i : Nat} (hi : i < t) (h : LF t (listed.setIfInBounds i true)) : LF t listed := fun j hj => by
  have := h j hj
  rwa [getD_set_ne false (by omega)] at this
theorem LF.mk {listed : Array Bool} (h : (List.range listed.size).all (fun j => decide (j < t) || !listed.getD j false) = true) : LF t listed := fun j hj => by
  rcases Nat.lt_or_ge j listed.size with h' | h'
  · rw [List.all_eq_true] at h
    have := h j (List.mem_range.2 h')
    simp only [Bool.or_eq_true, decide_eq_true_eq, Bool.not_eq_true'] at this
    rcases this with h1 | h1
    · omega
    · exact h1
  · simp [Array.getElem?_eq_none h']
theorem LF.not {listed : Array Bool} {i : Nat} (hi : t ≤ i) (hs : i < listed.size) (h : LF t (listed.setIfInBounds i true)) : False := by
  have := h i hi
  simp [hs] at this

/-- Whatever order is picked from here on; S holds behind each operation till the first late one. -/
def wpAnyL (P : Program) (md : Region.Mode) (ops : Array Oper) (Q : Exit → Act → World → Prop) (S : World → Prop) (t : Nat) : Nat → Array Bool → Act → World → Prop
  | 0, listed, a, w => Region.ready md ops listed = [] ∧ Q .normal a w
  | fuel + 1, listed, a, w =>
    (Region.ready md ops listed = [] → Q .normal a w) ∧
    ∀ i ∈ Region.ready md ops listed, wpOp P ops Q i (fun a' w' => (LF t (listed.setIfInBounds i true) → S w') ∧ wpAnyL P md ops Q S t fuel (listed.setIfInBounds i true) a' w') a w

theorem wpAny_of_L : ∀ (fuel : Nat) (listed : Array Bool) (a : Act) (w : World), wpAnyL P md ops Q S t fuel listed a w → wpAny P md ops Q fuel listed a w
  | 0, _, _, _, h => h
  | fuel + 1, _, _, _, h => ⟨h.1, fun i hi => wpOp_mono (fun a' w' h' => wpAny_of_L fuel _ a' w' h'.2) (h.2 i hi)⟩

/-- Do all late operations wait for i? -/
def waits (md : Region.Mode) (ops : Array Oper) (t i : Nat) : Bool :=
  (List.range ops.size).all fun j => decide (j < t) || (match ops[j]? with | some o => o.after.any fun e => Region.binds md e && e.on == i | none => false)

theorem late_not {i j : Nat} {listed : Array Bool} (hw : waits md ops t i = true) (hi : i ∈ Region.ready md ops listed) (hj : j ∈ Region.ready md ops listed) : j < t := by
  obtain ⟨hi0, -⟩ := mem_ready.1 hi
  obtain ⟨-, oj, hoj, hall⟩ := mem_ready.1 hj
  have hjs : j < ops.size := (Array.getElem?_eq_some_iff.1 hoj).1
  unfold waits at hw
  rw [List.all_eq_true] at hw
  have h1 := hw j (List.mem_range.2 hjs)
  rw [hoj] at h1
  simp only [Bool.or_eq_true, decide_eq_true_eq, Array.any_eq_true', Bool.and_eq_true, beq_iff_eq] at h1
  rcases h1 with h1 | ⟨e, he, hb, rfl⟩
  · exact h1
  · have h2 := hall e he hb
    rcases Nat.lt_or_ge e.on listed.size with h' | h'
    · simp [h'] at hi0 h2; rw [hi0] at h2; cases h2
    · simp [Array.getElem?_eq_none h'] at h2

theorem wpAnyL_first {T : World → Prop} {i : Nat} {oi : Oper} {v : Value} (hi : ops[i]? = some oi) (hsel : ∀ (j : Nat) (o : Oper) cs b, ops[j]? = some o → o.op ≠ .select cs b)
    (hQ : ∀ c a w, Q (.panic c) (a.put oi.dst v) w → Q (.panic c) a w) (hit : i < t) (hT : (∀ w, T w) ∨ ((∀ w, S w → T w) ∧ waits md ops t i = true)) :
    ∀ (fuel : Nat) (listed : Array Bool) (a : Act) (w : World),
      (∀ j oj, ops[j]? = some oj → j ≠ i → listed.getD j true = false → (∀ e ∈ oj.after, Region.binds md e = true → e.on ≠ i) → oi.apart ops oj = true) →
      i ∈ Region.ready md ops listed → YieldsIf P ops T oi v a → ((∀ w, T w) ∨ LF t listed) → T w → (LF t listed → S w) →
      wpAnyL P md ops Q S t fuel (listed.setIfInBounds i true) (a.put oi.dst v) w → wpAnyL P md ops Q S t (fuel + 1) listed a w := by
  intro fuel
  induction fuel with
  | zero =>
    intro listed a w _ hr hy _ hTw hSw H
    refine ⟨fun h => (by rw [h] at hr; cases hr), fun j hj => ?_⟩
    by_cases hji : j = i
    · subst hji; exact hy.wpOp hi hTw ⟨fun h => hSw (h.of_set hit), H⟩
    · have := ready_mono hj hji
      rw [H.1] at this
      cases this
  | succ fuel ih =>
    intro listed a w hfree hr hy hB hTw hSw H
    refine ⟨fun h => (by rw [h] at hr; cases hr), fun j hj => ?_⟩
    by_cases hji : j = i
    · subst hji; exact hy.wpOp hi hTw ⟨fun h => hSw (h.of_set hit), H⟩
    · have h1 := H.2 j (ready_mono hj hji)
      obtain ⟨hjun, oj, hoj, hall⟩ := mem_ready.1 hj
      have hnot : ∀ e ∈ oj.after, Region.binds md e = true → e.on ≠ i := fun e he hb heq => by
        have h1 := hall e he hb
        have h0 := (mem_ready.1 hr).1
        rw [heq] at h1
        rcases Nat.lt_or_ge i listed.size with h' | h'
        · simp [h'] at h0 h1; rw [h0] at h1; cases h1
        · simp [Array.getElem?_eq_none h'] at h1
      have h2 := wpOp_putIf hoj (hfree j oj hoj hji hjun hnot) (fun cs b => hsel i oi cs b hi) (fun cs b => hsel j oj cs b hoj) hQ hy h1
      have hfree' : ∀ k ok, ops[k]? = some ok → k ≠ i → (listed.setIfInBounds j true).getD k true = false →
          (∀ e ∈ ok.after, Region.binds md e = true → e.on ≠ i) → oi.apart ops ok = true := fun k ok hk hki hun hno => by
        refine hfree k ok hk hki ?_ hno
        by_cases hjk : j = k
        · subst hjk; exact hjun
        · rw [getD_set_ne true hjk] at hun; exact hun
      refine wpOp_mono (fun a' w' h3 => ?_) h2
      obtain ⟨hy', hS', hW'⟩ := h3
      have hS2 : LF t (listed.setIfInBounds j true) → S w' := fun h => hS' (by rw [Array.setIfInBounds_comm _ _ (Ne.symm hji)]; exact h.set hit)
      have hB' : (∀ w, T w) ∨ LF t (listed.setIfInBounds j true) := by
        rcases hT with hT | ⟨-, hwt⟩
        · exact Or.inl hT
        · rcases hB with hB | hB
          · exact Or.inl hB
          · exact Or.inr (hB.set (late_not hwt hr hj))
      have hT' : T w' := by
        rcases hT with hT | ⟨hST, hwt⟩
        · exact hT w'
        · rcases hB' with h | h
          · exact h w'
          · exact hST w' (hS2 h)
      refine ⟨hS2, ih (listed.setIfInBounds j true) a' w' hfree' (ready_mono hr (Ne.symm hji)) hy' hB' hT' hS2 ?_⟩
      rw [Array.setIfInBounds_comm _ _ hji]
      exact hW'

/-- Take number i first: an operation that looks at what S holds; all late ones wait for it. -/
theorem pickL (i : Nat) (d : Option Nat) {oi : Oper} {v : Value} {fuel : Nat} {listed : Array Bool} {a : Act} {w : World}
    (hi : ops[i]? = some oi) (hd : oi.dst = d) (hs : Region.noSelect ops = true) (hf : Region.free md ops listed i = true) (hr : (Region.ready md ops listed).contains i = true)
    (hit : i < t) (hw : waits md ops t i = true) (hL : (List.range listed.size).all (fun j => decide (j < t) || !listed.getD j false) = true)
    (hQ : ∀ c a w, Q (.panic c) (a.put d v) w → Q (.panic c) a w) (hwt : Region.wanted oi (yielded ops a.tmps) = true) (hy : ∀ w, S w → (execOp a.eval oi).run P w = .ok (.value v) w) (hS : S w)
    (h : wpAnyL P md ops Q S t fuel (listed.setIfInBounds i true) (a.put d v) w) : wpAnyL P md ops Q S t (fuel + 1) listed a w := by
  subst hd
  exact wpAnyL_first (T := S) hi (Region.noSelect_spec hs) hQ hit (Or.inr ⟨fun _ h => h, hw⟩) fuel listed a w (Region.free_spec hi hf) (by simpa using hr) (Or.inl ⟨hwt, hy⟩) (Or.inr (LF.mk hL)) hS (fun _ => hS) h
/-- .. one that looks at no memory. -/
theorem pickA (i : Nat) (d : Option Nat) {oi : Oper} {v : Value} {fuel : Nat} {listed : Array Bool} {a : Act} {w : World}
    (hi : ops[i]? = some oi) (hd : oi.dst = d) (hs : Region.noSelect ops = true) (hf : Region.free md ops listed i = true) (hr : (Region.ready md ops listed).contains i = true)
    (hit : i < t) (hQ : ∀ c a w, Q (.panic c) (a.put d v) w → Q (.panic c) a w) (hwt : Region.wanted oi (yielded ops a.tmps) = true) (hy : ∀ w, (execOp a.eval oi).run P w = .ok (.value v) w) (hS : S w)
    (h : wpAnyL P md ops Q S t fuel (listed.setIfInBounds i true) (a.put d v) w) : wpAnyL P md ops Q S t (fuel + 1) listed a w := by
  subst hd
  exact wpAnyL_first (T := fun _ => True) hi (Region.noSelect_spec hs) hQ hit (Or.inl fun _ => trivial) fuel listed a w (Region.free_spec hi hf) (by simpa using hr) (Or.inl ⟨hwt, fun w _ => hy w⟩) (Or.inl fun _ => trivial) trivial (fun _ => hS) h
/-- One alone may come up. -/
theorem oneL {i : Nat} {o : Oper} {fuel : Nat} {listed : Array Bool} {a : Act} {w : World} (hr : Region.ready md ops listed = [i]) (ho : ops[i]? = some o)
    (h : ∀ K' : Act → World → Prop, Shut (∀ a w, S w → wpAnyL P md ops Q S t fuel (listed.setIfInBounds i true) a w → K' a w) → if Region.wanted o (yielded ops a.tmps) = true then Oper.wp P o a w K' Q else K' (a.put o.dst undef) w) :
    wpAnyL P md ops Q S t (fuel + 1) listed a w := by
  refine ⟨fun h0 => (by rw [hr] at h0; cases h0), fun j hj => ?_⟩
  rw [hr] at hj
  obtain rfl : j = i := by simpa using hj
  exact wpOp_step ho (fun K' hK => h K' (fun a w hS hW => hK a w ⟨fun _ => hS, hW⟩))
/-- .. a late one. -/
theorem lateL {i : Nat} {o : Oper} {fuel : Nat} {listed : Array Bool} {a : Act} {w : World} (hr : Region.ready md ops listed = [i]) (ho : ops[i]? = some o) (hit : t ≤ i) (hl : decide (i < listed.size) = true)
    (h : ∀ K' : Act → World → Prop, Shut (∀ a w, wpAnyL P md ops Q S t fuel (listed.setIfInBounds i true) a w → K' a w) → if Region.wanted o (yielded ops a.tmps) = true then Oper.wp P o a w K' Q else K' (a.put o.dst undef) w) :
    wpAnyL P md ops Q S t (fuel + 1) listed a w := by
  refine ⟨fun h0 => (by rw [hr] at h0; cases h0), fun j hj => ?_⟩
  rw [hr] at hj
  obtain rfl : j = i := by simpa using hj
  exact wpOp_step ho (fun K' hK => h K' (fun a w hW => hK a w ⟨fun h => (h.not hit (of_decide_eq_true hl)).elim, hW⟩))
theorem doneL {listed : Array Bool} {a : Act} {w : World} (hr : Region.ready md ops listed = []) (h : Q .normal a w) : ∀ fuel, wpAnyL P md ops Q S t fuel listed a w
  | 0 => ⟨hr, h⟩
  | _ + 1 => ⟨fun _ => h, by rw [hr]; simp⟩
theorem regionL (t : Nat) (S : World → Prop) {id : Nat} {a : Act} {w : World} (hm : P.follows .mixedOrders = true) (hS : S w.drew)
    (h : S w.drew → wpAnyL P .any ops Q S t ops.size (Array.replicate ops.size false) a w.drew) : (Code.region id ops true).wp P Q a w :=
  wp_region_any hm (wpAny_of_L _ _ _ _ (h hS))

end
end Go.Proofs.YtmhcmlegdoapdaaDoor

/- The document's SameAll: two rows of fields that read alike. -/
namespace Go.Proofs.YtmhcmlegdoapdaaDoor
open Go.RowKit

theorem cellsOf_get (fs : List Fd) : ∀ (j : Nat) (f : Fd), fs[j]? = some f → ∀ i, i < 14 → (cellsOf fs)[j * 14 + i]? = f.cs[i]? := by
  induction fs with
  | nil => intro j f h; simp at h
  | cons g r ih =>
    intro j f h i hi
    have hl : g.cs.toList.length = 14 := cs_size g
    unfold cellsOf at *
    rw [List.flatMap_cons]
    cases j with
    | zero =>
      obtain rfl : g = f := by simpa using h
      rw [List.getElem?_append_left (by omega)]
      simp
    | succ j =>
      rw [List.getElem?_append_right (by omega), hl, show (j + 1) * 14 + i - 14 = j * 14 + i from by omega]
      exact ih j f (by simpa using h) i hi
theorem txt_any {w : World} {base : Nat} {a : Option Addr} {c : Nat} (L : List UInt8) (h : w.ownsRow base 5 1 (.slice a L.length c) L.length (u8s (ints L))) : Txt w (.slice a L.length c) ⟨L.toArray⟩ := by
  rcases h.2 with ⟨h1, h2⟩ | ⟨g, cp, cur, h1, _⟩
  · injection h1 with e1 e2 e3
    subst e1 e3
    obtain rfl := List.eq_nil_of_length_eq_zero h2
    exact txt_nil w
  · injection h1 with e1 e2 e3
    subst e1
    exact txt_own L h
/-- Rows whose bytes are bytes. -/
def FV.byts (v : FV) : Prop := ∀ l, v.row = some l → ∃ L : List UInt8, l = ints L
theorem DAt.same {w : World} {b b' : Nat} {v : FV} {f f' : Fd} (hv : v.byts) (h : v.DAt w b f) (h' : v.DAt w b' f') :
    Calls Tryd.prog 17 #[.agg f.cs, .agg f'.cs] w fun e w' => e = .returned (.bool true) ∧ Below w.heap.size w w' := by
  rcases h with ⟨hr, rfl⟩ | ⟨l, a, c, hr, rfl, ho⟩
  · rcases h' with ⟨hr', rfl⟩ | ⟨l, a, c, hr', _⟩
    · cases v with
      | bytes l => cases hr
      | num n => exact rsame_parts _ _ _ _ _ _ _ _ _ _ _ _ _ _ _ _ _ _ _ _ w (txt_nil w) (txt_nil w)
      | int i => exact rsame_parts _ _ _ _ _ _ _ _ _ _ _ _ _ _ _ _ _ _ _ _ w (txt_nil w) (txt_nil w)
      | truth t => exact rsame_parts _ _ _ _ _ _ _ _ _ _ _ _ _ _ _ _ _ _ _ _ w (txt_nil w) (txt_nil w)
      | vec n b => exact rsame_parts _ _ _ _ _ _ _ _ _ _ _ _ _ _ _ _ _ _ _ _ w (txt_nil w) (txt_nil w)
      | key r x => exact rsame_parts _ _ _ _ _ _ _ _ _ _ _ _ _ _ _ _ _ _ _ _ w (txt_nil w) (txt_nil w)
      | ref i r x n b => exact rsame_parts _ _ _ _ _ _ _ _ _ _ _ _ _ _ _ _ _ _ _ _ w (txt_nil w) (txt_nil w)
    · rw [hr] at hr'; cases hr'
  · rcases h' with ⟨hr', rfl⟩ | ⟨l', a', c', hr', rfl, ho'⟩
    · rw [hr] at hr'; cases hr'
    · obtain rfl : l = l' := by rw [hr] at hr'; exact Option.some.inj hr'
      obtain ⟨L, rfl⟩ := hv l hr
      rw [ints_len] at ho ho' ⊢
      have t1 := txt_any L ho
      have t2 := txt_any L ho'
      cases v with
      | bytes l => exact rsame_parts _ _ _ _ _ _ _ _ _ _ _ _ _ _ _ _ _ _ _ _ w t1 t2
      | num n => cases hr
      | int i => cases hr
      | truth t => cases hr
      | vec n b => cases hr
      | key r x => cases hr
      | ref i r x n b => cases hr
theorem own_keep {w w' : World} {B e size n : Nat} {v : Value} {xs : List Value} (h : w.ownsRow B e size v n xs) (hb : Below w.heap.size w w') : w'.ownsRow B e size v n xs := by
  refine ⟨h.1, ?_⟩
  rcases h.2 with h2 | ⟨g, cap, cur, h1, h2, h3, h4⟩
  · exact Or.inl h2
  · have hlt := (h.lt g (by rw [h1]; rfl)).2
    exact Or.inr ⟨g, cap, cur, h1, h2, (hb.block g hlt).trans h3, h4⟩
theorem FV.DAt.below {w w' : World} {base : Nat} {v : FV} {f : Fd} (h : v.DAt w base f) (hb : Below w.heap.size w w') : v.DAt w' base f := by
  rcases h with h | ⟨l, a, c, hr, hf, ho⟩
  · exact Or.inl h
  · exact Or.inr ⟨l, a, c, hr, hf, own_keep ho hb⟩

/-- A row of fields that lies there. -/
structure FR (w : World) (vs : List FV) (fa : Option Addr) (fc : Nat) (fs : List Fd) (base : Nat) : Prop where
  flen : fs.length = vs.length
  own : w.ownsRow base 34 14 (.slice fa vs.length fc) vs.length (cellsOf fs)
  rows : ∀ (j : Nat) (v : FV) (f : Fd), vs[j]? = some v → fs[j]? = some f → v.DAt w base f
theorem FR.below {w w' : World} {vs : List FV} {fa : Option Addr} {fc : Nat} {fs : List Fd} {base : Nat} (h : FR w vs fa fc fs base) (hb : Below w.heap.size w w') : FR w' vs fa fc fs base :=
  ⟨h.flen, own_keep h.own hb, fun j v f h1 h2 => (h.rows j v f h1 h2).below hb⟩
theorem DReadTo.fr {w w' : World} {vs : List FV} {fa : Option Addr} {fc : Nat} (h : DReadTo w w' vs fa fc) : ∃ fs, FR w' vs fa fc fs w.heap.size := by
  obtain ⟨fs, h1, h2, h3, _⟩ := h
  exact ⟨fs, h1, h2, h3⟩
theorem FR.at_ {w : World} {vs : List FV} {fa : Option Addr} {fc : Nat} {fs : List Fd} {base : Nat} (h : FR w vs fa fc fs base) (j : Nat) (hj : j < vs.length) :
    ∃ g f, fa = some ⟨g, 0, none⟩ ∧ g < w.heap.size ∧ fs[j]? = some f ∧ vs[j].DAt w base f ∧ ∀ i, i < 14 → w.cell? ⟨g, j * 14 + i, none⟩ = f.cs[i]? := by
  obtain ⟨g, cap, h1, -⟩ := h.own.form (by omega)
  injection h1 with e1 e2 e3
  subst e1
  have hjf : j < fs.length := by rw [h.flen]; exact hj
  have hf : fs[j]? = some fs[j] := List.getElem?_eq_getElem hjf
  refine ⟨g, fs[j], rfl, (h.own.lt g rfl).2, hf, h.rows j _ _ (List.getElem?_eq_getElem hj) hf, fun i hi => ?_⟩
  have hl := h.own.1
  rw [h.own.cellAt (j * 14 + i) (by have : vs.length * 14 ≥ (j + 1) * 14 := Nat.mul_le_mul_right _ hj; omega)]
  exact cellsOf_get fs j _ hf i hi

set_option maxHeartbeats 8000000 in
set_option maxRecDepth 100000 in
theorem sameAll_any (vs : List FV) (hvb : ∀ v ∈ vs, v.byts) (hn : vs.length ≤ 1000) (fa fa' : Option Addr) (fc fc' : Nat) (fs fs' : List Fd) (b b' : Nat) (w : World) (h1 : FR w vs fa fc fs b) (h2 : FR w vs fa' fc' fs' b') :
    Calls Tryd.prog 24 #[.slice fa vs.length fc, .slice fa' vs.length fc'] w fun e w' => e = .returned (.bool true) ∧ Below w.heap.size w w' := by
  have mixed : Tryd.prog.follows .mixedOrders = true := by kernel_rfl
  replace h1 := hide h1
  replace h2 := hide h2
  go_enter Tryd.func24, Tryd.ntmps24
  go_wp2
  go_loopw [5] (fun i wr => ∃ j : Nat, j ≤ vs.length ∧ i = .int .i64 (j : Int) ∧ Below w.heap.size w wr) (fun i _ => vs.length - (intOf i).toNat)
  case atStart => exact ⟨0, by omega, rfl, Below.refl _ _⟩
  case round =>
    obtain ⟨j, hj, rfl, hbw⟩ := hrel
    by_cases hlt : j < vs.length
    · obtain ⟨g, f, rfl, hg, hf, AT1, hc⟩ := (h1.out.below hbw).at_ j hlt
      obtain ⟨g', f', rfl, hg', hf', AT2, hc'⟩ := (h2.out.below hbw).at_ j hlt
      have hvm : vs[j] ∈ vs := List.getElem_mem hlt
      generalize vs[j] = v at *
      obtain ⟨f0, f1, f2, f3, f4, f5, f6, f7, f8, f9, f10, f11, f12, f13, f14, f15⟩ := f
      obtain ⟨y0, y1, y2, y3, y4, y5, y6, y7, y8, y9, y10, y11, y12, y13, y14, y15⟩ := f'
      replace AT1 := hide AT1
      replace AT2 := hide AT2
      have hKeep : Hid (∀ W, Below wr.heap.size wr W → (fun w' => w'.cell? ⟨g, j * 14, none⟩ = some (.int .i64 f0) ∧ w'.cell? ⟨g, j * 14 + 1, none⟩ = some (.int .u64 f1) ∧ w'.cell? ⟨g, j * 14 + 2, none⟩ = some (.int .i64 f2) ∧ w'.cell? ⟨g, j * 14 + 3, none⟩ = some (.bool f3) ∧ w'.cell? ⟨g, j * 14 + 4, none⟩ = some (.slice f4 f5 f6) ∧ w'.cell? ⟨g, j * 14 + 5, none⟩ = some (.int .i64 f7) ∧ w'.cell? ⟨g, j * 14 + 6, none⟩ = some (.int .u64 f8) ∧ w'.cell? ⟨g, j * 14 + 7, none⟩ = some (.int .i64 f9) ∧ w'.cell? ⟨g, j * 14 + 8, none⟩ = some (.int .u64 f10) ∧ w'.cell? ⟨g, j * 14 + 9, none⟩ = some (.int .i64 f11) ∧ w'.cell? ⟨g, j * 14 + 10, none⟩ = some (.int .i64 f12) ∧ w'.cell? ⟨g, j * 14 + 11, none⟩ = some (.int .u64 f13) ∧ w'.cell? ⟨g, j * 14 + 12, none⟩ = some (.int .i64 f14) ∧ w'.cell? ⟨g, j * 14 + 13, none⟩ = some (.int .u64 f15) ∧ w'.cell? ⟨g', j * 14, none⟩ = some (.int .i64 y0) ∧ w'.cell? ⟨g', j * 14 + 1, none⟩ = some (.int .u64 y1) ∧ w'.cell? ⟨g', j * 14 + 2, none⟩ = some (.int .i64 y2) ∧ w'.cell? ⟨g', j * 14 + 3, none⟩ = some (.bool y3) ∧ w'.cell? ⟨g', j * 14 + 4, none⟩ = some (.slice y4 y5 y6) ∧ w'.cell? ⟨g', j * 14 + 5, none⟩ = some (.int .i64 y7) ∧ w'.cell? ⟨g', j * 14 + 6, none⟩ = some (.int .u64 y8) ∧ w'.cell? ⟨g', j * 14 + 7, none⟩ = some (.int .i64 y9) ∧ w'.cell? ⟨g', j * 14 + 8, none⟩ = some (.int .u64 y10) ∧ w'.cell? ⟨g', j * 14 + 9, none⟩ = some (.int .i64 y11) ∧ w'.cell? ⟨g', j * 14 + 10, none⟩ = some (.int .i64 y12) ∧ w'.cell? ⟨g', j * 14 + 11, none⟩ = some (.int .u64 y13) ∧ w'.cell? ⟨g', j * 14 + 12, none⟩ = some (.int .i64 y14) ∧ w'.cell? ⟨g', j * 14 + 13, none⟩ = some (.int .u64 y15)) W) := fun W hW => by
        have k1 : ∀ i, i < 14 → W.cell? ⟨g, j * 14 + i, none⟩ = (#[.int .i64 f0, .int .u64 f1, .int .i64 f2, .bool f3, .slice f4 f5 f6, .int .i64 f7, .int .u64 f8, .int .i64 f9, .int .u64 f10, .int .i64 f11, .int .i64 f12, .int .u64 f13, .int .i64 f14, .int .u64 f15] : Array Value)[i]? := fun i hi => by
          exact (hW.cell (show g < wr.heap.size from hg)).trans (hc i hi)
        have k2 : ∀ i, i < 14 → W.cell? ⟨g', j * 14 + i, none⟩ = (#[.int .i64 y0, .int .u64 y1, .int .i64 y2, .bool y3, .slice y4 y5 y6, .int .i64 y7, .int .u64 y8, .int .i64 y9, .int .u64 y10, .int .i64 y11, .int .i64 y12, .int .u64 y13, .int .i64 y14, .int .u64 y15] : Array Value)[i]? := fun i hi => by
          exact (hW.cell (show g' < wr.heap.size from hg')).trans (hc' i hi)
        exact ⟨k1 0 (by omega), k1 1 (by omega), k1 2 (by omega), k1 3 (by omega), k1 4 (by omega), k1 5 (by omega), k1 6 (by omega), k1 7 (by omega), k1 8 (by omega), k1 9 (by omega), k1 10 (by omega), k1 11 (by omega), k1 12 (by omega), k1 13 (by omega), k2 0 (by omega), k2 1 (by omega), k2 2 (by omega), k2 3 (by omega), k2 4 (by omega), k2 5 (by omega), k2 6 (by omega), k2 7 (by omega), k2 8 (by omega), k2 9 (by omega), k2 10 (by omega), k2 11 (by omega), k2 12 (by omega), k2 13 (by omega)⟩
      have HS := hide (hKeep.out wr.drew ((Below.refl _ _).drew))
      have HBW := hide hbw
      clear hc hc' hf hf' hbw
      go_wp2
      refine regionL 10 (fun w' => w'.cell? ⟨g, j * 14, none⟩ = some (.int .i64 f0) ∧ w'.cell? ⟨g, j * 14 + 1, none⟩ = some (.int .u64 f1) ∧ w'.cell? ⟨g, j * 14 + 2, none⟩ = some (.int .i64 f2) ∧ w'.cell? ⟨g, j * 14 + 3, none⟩ = some (.bool f3) ∧ w'.cell? ⟨g, j * 14 + 4, none⟩ = some (.slice f4 f5 f6) ∧ w'.cell? ⟨g, j * 14 + 5, none⟩ = some (.int .i64 f7) ∧ w'.cell? ⟨g, j * 14 + 6, none⟩ = some (.int .u64 f8) ∧ w'.cell? ⟨g, j * 14 + 7, none⟩ = some (.int .i64 f9) ∧ w'.cell? ⟨g, j * 14 + 8, none⟩ = some (.int .u64 f10) ∧ w'.cell? ⟨g, j * 14 + 9, none⟩ = some (.int .i64 f11) ∧ w'.cell? ⟨g, j * 14 + 10, none⟩ = some (.int .i64 f12) ∧ w'.cell? ⟨g, j * 14 + 11, none⟩ = some (.int .u64 f13) ∧ w'.cell? ⟨g, j * 14 + 12, none⟩ = some (.int .i64 f14) ∧ w'.cell? ⟨g, j * 14 + 13, none⟩ = some (.int .u64 f15) ∧ w'.cell? ⟨g', j * 14, none⟩ = some (.int .i64 y0) ∧ w'.cell? ⟨g', j * 14 + 1, none⟩ = some (.int .u64 y1) ∧ w'.cell? ⟨g', j * 14 + 2, none⟩ = some (.int .i64 y2) ∧ w'.cell? ⟨g', j * 14 + 3, none⟩ = some (.bool y3) ∧ w'.cell? ⟨g', j * 14 + 4, none⟩ = some (.slice y4 y5 y6) ∧ w'.cell? ⟨g', j * 14 + 5, none⟩ = some (.int .i64 y7) ∧ w'.cell? ⟨g', j * 14 + 6, none⟩ = some (.int .u64 y8) ∧ w'.cell? ⟨g', j * 14 + 7, none⟩ = some (.int .i64 y9) ∧ w'.cell? ⟨g', j * 14 + 8, none⟩ = some (.int .u64 y10) ∧ w'.cell? ⟨g', j * 14 + 9, none⟩ = some (.int .i64 y11) ∧ w'.cell? ⟨g', j * 14 + 10, none⟩ = some (.int .i64 y12) ∧ w'.cell? ⟨g', j * 14 + 11, none⟩ = some (.int .u64 y13) ∧ w'.cell? ⟨g', j * 14 + 12, none⟩ = some (.int .i64 y14) ∧ w'.cell? ⟨g', j * 14 + 13, none⟩ = some (.int .u64 y15)) mixed HS.out (fun hHeld => ?_)
      refine pickA (v := ?_) 0 (some 17) rfl rfl (by kernel_rfl) (by kernel_rfl) (by kernel_rfl) (by decide) (fun _ _ _ h => h) (by rfl) ?_ (by assumption) ?_
      rotate_left
      · intro w'
        go_simp
        try with_reducible rfl
      try simp only [Act.put, List.setIfInBounds_toArray, List.set_cons_zero, List.set_cons_succ]
      refine pickA (v := ?_) 1 (some 18) rfl rfl (by kernel_rfl) (by kernel_rfl) (by kernel_rfl) (by decide) (fun _ _ _ h => h) (by rfl) ?_ (by assumption) ?_
      rotate_left
      · intro w'
        go_simp
        try with_reducible rfl
      try simp only [Act.put, List.setIfInBounds_toArray, List.set_cons_zero, List.set_cons_succ]
      refine pickA (v := ?_) 2 (some 19) rfl rfl (by kernel_rfl) (by kernel_rfl) (by kernel_rfl) (by decide) (fun _ _ _ h => h) (by rfl) ?_ (by assumption) ?_
      rotate_left
      · intro w'
        go_simp
        try with_reducible rfl
      try simp only [Act.put, List.setIfInBounds_toArray, List.set_cons_zero, List.set_cons_succ]
      refine pickL (v := ?_) 3 (some 20) rfl rfl (by kernel_rfl) (by kernel_rfl) (by kernel_rfl) (by decide) (by kernel_rfl) (by kernel_rfl) (fun _ _ _ h => h) (by rfl) ?_ (by assumption) ?_
      rotate_left
      · intro w' hSw
        obtain ⟨q0, q1, q2, q3, q4, q5, q6, q7, q8, q9, q10, q11, q12, q13, q14, q15, q16, q17, q18, q19, q20, q21, q22, q23, q24, q25, q26, q27⟩ := hSw
        go_simp
        try with_reducible rfl
      try simp only [Act.put, List.setIfInBounds_toArray, List.set_cons_zero, List.set_cons_succ]
      refine pickA (v := ?_) 4 (some 21) rfl rfl (by kernel_rfl) (by kernel_rfl) (by kernel_rfl) (by decide) (fun _ _ _ h => h) (by rfl) ?_ (by assumption) ?_
      rotate_left
      · intro w'
        go_simp
        try with_reducible rfl
      try simp only [Act.put, List.setIfInBounds_toArray, List.set_cons_zero, List.set_cons_succ]
      refine pickA (v := ?_) 5 (some 22) rfl rfl (by kernel_rfl) (by kernel_rfl) (by kernel_rfl) (by decide) (fun _ _ _ h => h) (by rfl) ?_ (by assumption) ?_
      rotate_left
      · intro w'
        go_simp
        try with_reducible rfl
      try simp only [Act.put, List.setIfInBounds_toArray, List.set_cons_zero, List.set_cons_succ]
      refine pickA (v := ?_) 6 (some 23) rfl rfl (by kernel_rfl) (by kernel_rfl) (by kernel_rfl) (by decide) (fun _ _ _ h => h) (by rfl) ?_ (by assumption) ?_
      rotate_left
      · intro w'
        go_simp
        try with_reducible rfl
      try simp only [Act.put, List.setIfInBounds_toArray, List.set_cons_zero, List.set_cons_succ]
      refine pickL (v := ?_) 7 (some 24) rfl rfl (by kernel_rfl) (by kernel_rfl) (by kernel_rfl) (by decide) (by kernel_rfl) (by kernel_rfl) (fun _ _ _ h => h) (by rfl) ?_ (by assumption) ?_
      rotate_left
      · intro w' hSw
        obtain ⟨q0, q1, q2, q3, q4, q5, q6, q7, q8, q9, q10, q11, q12, q13, q14, q15, q16, q17, q18, q19, q20, q21, q22, q23, q24, q25, q26, q27⟩ := hSw
        go_simp
        try with_reducible rfl
      try simp only [Act.put, List.setIfInBounds_toArray, List.set_cons_zero, List.set_cons_succ]
      refine oneL (i := 8) (by kernel_rfl) rfl (fun K hK => ?_)
      go_simp
      refine (DAt.same (hvb _ hvm) (AT1.out.below ((Below.refl _ _).drew)) (AT2.out.below ((Below.refl _ _).drew))).mono ?_; rintro e W5 ⟨rfl, hb⟩
      have hb5 : Hid (Below wr.heap.size wr W5) := ((Below.refl wr.heap.size wr).drew).trans (hb.mono (Nat.le_refl _))
      have hS5 := hide (hKeep.out W5 hb5.out)
      clear hb
      refine hK.out _ _ ?_ ?_
      · exact hS5.out
      clear hK K
      try simp only [Act.put, List.setIfInBounds_toArray, List.set_cons_zero, List.set_cons_succ]
      clear hHeld
      have hHeld : (fun w' => w'.cell? ⟨g, j * 14, none⟩ = some (.int .i64 f0) ∧ w'.cell? ⟨g, j * 14 + 1, none⟩ = some (.int .u64 f1) ∧ w'.cell? ⟨g, j * 14 + 2, none⟩ = some (.int .i64 f2) ∧ w'.cell? ⟨g, j * 14 + 3, none⟩ = some (.bool f3) ∧ w'.cell? ⟨g, j * 14 + 4, none⟩ = some (.slice f4 f5 f6) ∧ w'.cell? ⟨g, j * 14 + 5, none⟩ = some (.int .i64 f7) ∧ w'.cell? ⟨g, j * 14 + 6, none⟩ = some (.int .u64 f8) ∧ w'.cell? ⟨g, j * 14 + 7, none⟩ = some (.int .i64 f9) ∧ w'.cell? ⟨g, j * 14 + 8, none⟩ = some (.int .u64 f10) ∧ w'.cell? ⟨g, j * 14 + 9, none⟩ = some (.int .i64 f11) ∧ w'.cell? ⟨g, j * 14 + 10, none⟩ = some (.int .i64 f12) ∧ w'.cell? ⟨g, j * 14 + 11, none⟩ = some (.int .u64 f13) ∧ w'.cell? ⟨g, j * 14 + 12, none⟩ = some (.int .i64 f14) ∧ w'.cell? ⟨g, j * 14 + 13, none⟩ = some (.int .u64 f15) ∧ w'.cell? ⟨g', j * 14, none⟩ = some (.int .i64 y0) ∧ w'.cell? ⟨g', j * 14 + 1, none⟩ = some (.int .u64 y1) ∧ w'.cell? ⟨g', j * 14 + 2, none⟩ = some (.int .i64 y2) ∧ w'.cell? ⟨g', j * 14 + 3, none⟩ = some (.bool y3) ∧ w'.cell? ⟨g', j * 14 + 4, none⟩ = some (.slice y4 y5 y6) ∧ w'.cell? ⟨g', j * 14 + 5, none⟩ = some (.int .i64 y7) ∧ w'.cell? ⟨g', j * 14 + 6, none⟩ = some (.int .u64 y8) ∧ w'.cell? ⟨g', j * 14 + 7, none⟩ = some (.int .i64 y9) ∧ w'.cell? ⟨g', j * 14 + 8, none⟩ = some (.int .u64 y10) ∧ w'.cell? ⟨g', j * 14 + 9, none⟩ = some (.int .i64 y11) ∧ w'.cell? ⟨g', j * 14 + 10, none⟩ = some (.int .i64 y12) ∧ w'.cell? ⟨g', j * 14 + 11, none⟩ = some (.int .u64 y13) ∧ w'.cell? ⟨g', j * 14 + 12, none⟩ = some (.int .i64 y14) ∧ w'.cell? ⟨g', j * 14 + 13, none⟩ = some (.int .u64 y15)) W5 := hS5.out
      refine pickA (v := ?_) 9 (some 26) rfl rfl (by kernel_rfl) (by kernel_rfl) (by kernel_rfl) (by decide) (fun _ _ _ h => h) (by rfl) ?_ (by assumption) ?_
      rotate_left
      · intro w'
        go_simp
        try with_reducible rfl
      try simp only [Act.put, List.setIfInBounds_toArray, List.set_cons_zero, List.set_cons_succ]
      refine doneL (by kernel_rfl) ?_ _
      clear hHeld
      go_wp2
      exact ⟨⟨j + 1, by omega, by simp, HBW.out.trans (hb5.out.mono HBW.out.size)⟩, by simp [intOf]; omega⟩
    · have HBW := hide hbw
      clear hbw
      go_wp2
      go_ret
      exact ⟨rfl, HBW.out⟩

end Go.Proofs.YtmhcmlegdoapdaaDoor
