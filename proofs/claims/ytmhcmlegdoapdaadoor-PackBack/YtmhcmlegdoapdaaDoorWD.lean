/- The document's Same: two fields that read alike. -/
import Derived.Test.YtmhcmlegdoapdaaDoorRA
import Derived.Test.YtmhcmlegdoapdaaDoorVA
import Derived.Test.YtmhcmlegdoapdaaDoorQP
namespace Go.Proofs.YtmhcmlegdoapdaaDoor
open Go.RowKit

theorem eq_vec (a b : Int) (w : World) : (binOp .eql 27 (.agg #[.int .i64 a, .int .u64 b]) (.agg #[.int .i64 a, .int .u64 b])).run Tryd.prog w = .ok (.bool true) w := by
  have u1 := Tryd.underlying3
  have a1 := Tryd.isAgg3
  have z1 := Tryd.sizeOf3
  have u2 := Tryd.underlying24
  have a2 := Tryd.isAgg24
  have z2 := Tryd.sizeOf24
  have hS : Tryd.prog.underlying 27 = some (.struct (Tryd.prog.fieldsOf 27)) := by kernel_rfl
  have hp : Tryd.prog.stoodInHeld 27 = false := by kernel_rfl
  rw [run_eql_struct, show (10000 : Nat) = 9999 + 1 from rfl, run_equalIn_agg w 9999 27 _ _ hS hp]
  simp only [Program.fieldsOf, Tryd.underlying27]
  go_simp

theorem eq_key (a b : Int) (w : World) : (binOp .eql 30 (.agg #[.int .i64 a, .int .u64 b]) (.agg #[.int .i64 a, .int .u64 b])).run Tryd.prog w = .ok (.bool true) w := by
  have u1 := Tryd.underlying28
  have a1 := Tryd.isAgg28
  have z1 := Tryd.sizeOf28
  have u2 := Tryd.underlying24
  have a2 := Tryd.isAgg24
  have z2 := Tryd.sizeOf24
  have hS : Tryd.prog.underlying 30 = some (.struct (Tryd.prog.fieldsOf 30)) := by kernel_rfl
  have hp : Tryd.prog.stoodInHeld 30 = false := by kernel_rfl
  rw [run_eql_struct, show (10000 : Nat) = 9999 + 1 from rfl, run_equalIn_agg w 9999 30 _ _ hS hp]
  simp only [Program.fieldsOf, Tryd.underlying30]
  go_simp

theorem eq_ref (i a b c d : Int) (w : World) : (binOp .eql 32 (.agg #[.int .i64 i, .int .i64 a, .int .u64 b, .int .i64 c, .int .u64 d]) (.agg #[.int .i64 i, .int .i64 a, .int .u64 b, .int .i64 c, .int .u64 d])).run Tryd.prog w = .ok (.bool true) w := by
  have u0 := Tryd.underlying28
  have a0 := Tryd.isAgg28
  have z0 := Tryd.sizeOf28
  have u1 := Tryd.underlying3
  have a1 := Tryd.isAgg3
  have z1 := Tryd.sizeOf3
  have u2 := Tryd.underlying24
  have a2 := Tryd.isAgg24
  have z2 := Tryd.sizeOf24
  have u3 := Tryd.isAgg30
  have u4 := Tryd.sizeOf30
  have u5 := Tryd.isAgg27
  have u6 := Tryd.sizeOf27
  have hS : Tryd.prog.underlying 32 = some (.struct (Tryd.prog.fieldsOf 32)) := by kernel_rfl
  have hp : Tryd.prog.stoodInHeld 32 = false := by kernel_rfl
  have hS1 : Tryd.prog.underlying 30 = some (.struct (Tryd.prog.fieldsOf 30)) := by kernel_rfl
  have hp1 : Tryd.prog.stoodInHeld 30 = false := by kernel_rfl
  have hS2 : Tryd.prog.underlying 27 = some (.struct (Tryd.prog.fieldsOf 27)) := by kernel_rfl
  have hp2 : Tryd.prog.stoodInHeld 27 = false := by kernel_rfl
  obtain ⟨dd, hd⟩ : ∃ dd, (10000 : Nat) = dd + 1 + 1 + 1 := ⟨9997, rfl⟩
  rw [run_eql_struct, hd, run_equalIn_agg w (dd + 1 + 1) 32 _ _ hS hp]
  clear hd hS
  simp only [Program.fieldsOf, Tryd.underlying32]
  have e1 : ∀ (x y : Int) w, (Op.equalIn (dd + 1 + 1) 30 (.agg #[.int .i64 x, .int .u64 y]) (.agg #[.int .i64 x, .int .u64 y])).run Tryd.prog w = .ok true w := fun x y w => by
    rw [run_equalIn_agg w (dd + 1) 30 _ _ hS1 hp1]
    simp only [Program.fieldsOf, Tryd.underlying30]
    go_simp
  have e2 : ∀ (x y : Int) w, (Op.equalIn (dd + 1 + 1) 27 (.agg #[.int .i64 x, .int .u64 y]) (.agg #[.int .i64 x, .int .u64 y])).run Tryd.prog w = .ok true w := fun x y w => by
    rw [run_equalIn_agg w (dd + 1) 27 _ _ hS2 hp2]
    simp only [Program.fieldsOf, Tryd.underlying27]
    go_simp
  go_simp

set_option maxHeartbeats 8000000 in
set_option maxRecDepth 100000 in
theorem rsame_parts (f0 f1 f2 : Int) (f3 : Bool) (a a' : Option Addr) (n n' c c' : Nat) (f7 f8 f9 f10 f11 f12 f13 f14 f15 : Int) (S : ByteArray) (w : World) (h1 : Txt w (.slice a n c) S) (h2 : Txt w (.slice a' n' c') S) :
    Calls Tryd.prog 17 #[.agg #[.int .i64 f0, .int .u64 f1, .int .i64 f2, .bool f3, .slice a n c, .int .i64 f7, .int .u64 f8, .int .i64 f9, .int .u64 f10, .int .i64 f11, .int .i64 f12, .int .u64 f13, .int .i64 f14, .int .u64 f15], .agg #[.int .i64 f0, .int .u64 f1, .int .i64 f2, .bool f3, .slice a' n' c', .int .i64 f7, .int .u64 f8, .int .i64 f9, .int .u64 f10, .int .i64 f11, .int .i64 f12, .int .u64 f13, .int .i64 f14, .int .u64 f15]] w fun e w' => e = .returned (.bool true) ∧ Below w.heap.size w w' := by
  have hv := eq_vec
  have hk := eq_key
  have hr := eq_ref
  have bel := ((Below.refl w.heap.size w).alloc (Nat.le_refl _) (.cells #[.int .i64 f0, .int .u64 f1, .int .i64 f2, .bool f3, .slice a n c, .int .i64 f7, .int .u64 f8, .int .i64 f9, .int .u64 f10, .int .i64 f11, .int .i64 f12, .int .u64 f13, .int .i64 f14, .int .u64 f15] 34)).alloc (by simp) (.cells #[.int .i64 f0, .int .u64 f1, .int .i64 f2, .bool f3, .slice a' n' c', .int .i64 f7, .int .u64 f8, .int .i64 f9, .int .u64 f10, .int .i64 f11, .int .i64 f12, .int .u64 f13, .int .i64 f14, .int .u64 f15] 34)
  have t1 := h1 _ bel
  have t2 := h2 _ bel
  replace bel := hide bel
  clear h1 h2
  go_enter Tryd.func17, Tryd.ntmps17
  go_wp2
  go_ret
  exact ⟨rfl, bel.out⟩

end Go.Proofs.YtmhcmlegdoapdaaDoor

/- A region that draws its order and stores what it also reads: what is held of the memory is asked behind the early operations alone; the late ones wait for all that looks at it.
   (After the library's law on regions that are held, Derived/OrdersHeld.lean: the same road, with a number from which on nothing more is held.) -/
namespace Go.Proofs.YtmhcmlegdoapdaaDoor
open Go.RowKit

section
variable {P : Program} {md : Region.Mode} {ops : Array Oper} {Q : Exit → Act → World → Prop} {S : World → Prop} {t : Nat}

/-- None of the late operations, those from t on, has come up. -/
def LF (t : Nat) (listed : Array Bool) : Prop := ∀ j, t ≤ j → listed.getD j false = false
theorem LF.set {listed : Array Bool} {i : Nat} (h : LF t listed) (hi : i < t) : LF t (listed.setIfInBounds i true) := fun j hj => by
  rw [getD_set_ne false (by omega)]; exact h j hj
theorem LF.of_set {listed : Array Bool} {i : Nat} (hi : i < t) (h : LF t (listed.setIfInBounds i true)) : LF t listed := fun j hj => by
  have := h j hj
  rwa [getD_set_ne false (by omega)] at this
theorem LF.mk {listed : Array Bool} (h : (List.range listed.size).all (fun j => decide (j < t) || !listed.getD j false) = true) : LF t listed := fun j hj => by
  rcases Nat.lt_or_ge j listed.size with h' | h'
  · rw [List.all_eq_true] at h
    have := h j (List.mem_range.2 h')
    simp only [Bool.or_eq_true, decide_eq_true_eq, Bool.not_eq_true'] at this
    rcases this with h1 | h1
    · omega
    · exact h1
  · simp [Array.getElem?_eq_none h']
theorem LF.not {listed : Array Bool} {i : Nat} (hi : t ≤ i) (hs : i < listed.size) (h : LF t (listed.setIfInBounds i true)) : False := by
  have := h i hi
  simp [hs] at this

/-- Whatever order is picked from here on; S holds behind each operation till the first late one. -/
def wpAnyL (P : Program) (md : Region.Mode) (ops : Array Oper) (Q : Exit → Act → World → Prop) (S : World → Prop) (t : Nat) : Nat → Array Bool → Act → World → Prop
  | 0, listed, a, w => Region.ready md ops listed = [] ∧ Q .normal a w
  | fuel + 1, listed, a, w =>
    (Region.ready md ops listed = [] → Q .normal a w) ∧
    ∀ i ∈ Region.ready md ops listed, wpOp P ops Q i (fun a' w' => (LF t (listed.setIfInBounds i true) → S w') ∧ wpAnyL P md ops Q S t fuel (listed.setIfInBounds i true) a' w') a w

theorem wpAny_of_L : ∀ (fuel : Nat) (listed : Array Bool) (a : Act) (w : World), wpAnyL P md ops Q S t fuel listed a w → wpAny P md ops Q fuel listed a w
  | 0, _, _, _, h => h
  | fuel + 1, _, _, _, h => ⟨h.1, fun i hi => wpOp_mono (fun a' w' h' => wpAny_of_L fuel _ a' w' h'.2) (h.2 i hi)⟩

/-- Do all late operations wait for i? -/
def waits (md : Region.Mode) (ops : Array Oper) (t i : Nat) : Bool :=
  (List.range ops.size).all fun j => decide (j < t) || (match ops[j]? with | some o => o.after.any fun e => Region.binds md e && e.on == i | none => false)

theorem late_not {i j : Nat} {listed : Array Bool} (hw : waits md ops t i = true) (hi : i ∈ Region.ready md ops listed) (hj : j ∈ Region.ready md ops listed) : j < t := by
  obtain ⟨hi0, -⟩ := mem_ready.1 hi
  obtain ⟨-, oj, hoj, hall⟩ := mem_ready.1 hj
  have hjs : j < ops.size := (Array.getElem?_eq_some_iff.1 hoj).1
  unfold waits at hw
  rw [List.all_eq_true] at hw
  have h1 := hw j (List.mem_range.2 hjs)
  rw [hoj] at h1
  simp only [Bool.or_eq_true, decide_eq_true_eq, Array.any_eq_true', Bool.and_eq_true, beq_iff_eq] at h1
  rcases h1 with h1 | ⟨e, he, hb, rfl⟩
  · exact h1
  · have h2 := hall e he hb
    rcases Nat.lt_or_ge e.on listed.size with h' | h'
    · simp [h'] at hi0 h2; rw [hi0] at h2; cases h2
    · simp [Array.getElem?_eq_none h'] at h2

theorem wpAnyL_first {T : World → Prop} {i : Nat} {oi : Oper} {v : Value} (hi : ops[i]? = some oi) (hsel : ∀ (j : Nat) (o : Oper) cs b, ops[j]? = some o → o.op ≠ .select cs b)
    (hQ : ∀ c a w, Q (.panic c) (a.put oi.dst v) w → Q (.panic c) a w) (hit : i < t) (hT : (∀ w, T w) ∨ ((∀ w, S w → T w) ∧ waits md ops t i = true)) :
    ∀ (fuel : Nat) (listed : Array Bool) (a : Act) (w : World),
      (∀ j oj, ops[j]? = some oj → j ≠ i → listed.getD j true = false → (∀ e ∈ oj.after, Region.binds md e = true → e.on ≠ i) → oi.apart ops oj = true) →
      i ∈ Region.ready md ops listed → YieldsIf P ops T oi v a → ((∀ w, T w) ∨ LF t listed) → T w → (LF t listed → S w) →
      wpAnyL P md ops Q S t fuel (listed.setIfInBounds i true) (a.put oi.dst v) w → wpAnyL P md ops Q S t (fuel + 1) listed a w := by
  intro fuel
  induction fuel with
  | zero =>
    intro listed a w _ hr hy _ hTw hSw H
    refine ⟨fun h => (by rw [h] at hr; cases hr), fun j hj => ?_⟩
    by_cases hji : j = i
    · subst hji; exact hy.wpOp hi hTw ⟨fun h => hSw (h.of_set hit), H⟩
    · have := ready_mono hj hji
      rw [H.1] at this
      cases this
  | succ fuel ih =>
    intro listed a w hfree hr hy hB hTw hSw H
    refine ⟨fun h => (by rw [h] at hr; cases hr), fun j hj => ?_⟩
    by_cases hji : j = i
    · subst hji; exact hy.wpOp hi hTw ⟨fun h => hSw (h.of_set hit), H⟩
    · have h1 := H.2 j (ready_mono hj hji)
      obtain ⟨hjun, oj, hoj, hall⟩ := mem_ready.1 hj
      have hnot : ∀ e ∈ oj.after, Region.binds md e = true → e.on ≠ i := fun e he hb heq => by
        have h1 := hall e he hb
        have h0 := (mem_ready.1 hr).1
        rw [heq] at h1
        rcases Nat.lt_or_ge i listed.size with h' | h'
        · simp [h'] at h0 h1; rw [h0] at h1; cases h1
        · simp [Array.getElem?_eq_none h'] at h1
      have h2 := wpOp_putIf hoj (hfree j oj hoj hji hjun hnot) (fun cs b => hsel i oi cs b hi) (fun cs b => hsel j oj cs b hoj) hQ hy h1
      have hfree' : ∀ k ok, ops[k]? = some ok → k ≠ i → (listed.setIfInBounds j true).getD k true = false →
          (∀ e ∈ ok.after, Region.binds md e = true → e.on ≠ i) → oi.apart ops ok = true := fun k ok hk hki hun hno => by
        refine hfree k ok hk hki ?_ hno
        by_cases hjk : j = k
        · subst hjk; exact hjun
        · rw [getD_set_ne true hjk] at hun; exact hun
      refine wpOp_mono (fun a' w' h3 => ?_) h2
      obtain ⟨hy', hS', hW'⟩ := h3
      have hS2 : LF t (listed.setIfInBounds j true) → S w' := fun h => hS' (by rw [Array.setIfInBounds_comm _ _ (Ne.symm hji)]; exact h.set hit)
      have hB' : (∀ w, T w) ∨ LF t (listed.setIfInBounds j true) := by
        rcases hT with hT | ⟨-, hwt⟩
        · exact Or.inl hT
        · rcases hB with hB | hB
          · exact Or.inl hB
          · exact Or.inr (hB.set (late_not hwt hr hj))
      have hT' : T w' := by
        rcases hT with hT | ⟨hST, hwt⟩
        · exact hT w'
        · rcases hB' with h | h
          · exact h w'
          · exact hST w' (hS2 h)
      refine ⟨hS2, ih (listed.setIfInBounds j true) a' w' hfree' (ready_mono hr (Ne.symm hji)) hy' hB' hT' hS2 ?_⟩
      rw [Array.setIfInBounds_comm _ _ hji]
      exact hW'

/-- Take number i first: an operation that looks at what S holds; all late ones wait for it. -/
theorem pickL (i : Nat) (d : Option Nat) {oi : Oper} {v : Value} {fuel : Nat} {listed : Array Bool} {a : Act} {w : World}
    (hi : ops[i]? = some oi) (hd : oi.dst = d) (hs : Region.noSelect ops = true) (hf : Region.free md ops listed i = true) (hr : (Region.ready md ops listed).contains i = true)
    (hit : i < t) (hw : waits md ops t i = true) (hL : (List.range listed.size).all (fun j => decide (j < t) || !listed.getD j false) = true)
    (hQ : ∀ c a w, Q (.panic c) (a.put d v) w → Q (.panic c) a w) (hwt : Region.wanted oi (yielded ops a.tmps) = true) (hy : ∀ w, S w → (execOp a.eval oi).run P w = .ok (.value v) w) (hS : S w)
    (h : wpAnyL P md ops Q S t fuel (listed.setIfInBounds i true) (a.put d v) w) : wpAnyL P md ops Q S t (fuel + 1) listed a w := by
  subst hd
  exact wpAnyL_first (T := S) hi (Region.noSelect_spec hs) hQ hit (Or.inr ⟨fun _ h => h, hw⟩) fuel listed a w (Region.free_spec hi hf) (by simpa using hr) (Or.inl ⟨hwt, hy⟩) (Or.inr (LF.mk hL)) hS (fun _ => hS) h
/-- .. one that looks at no memory. -/
theorem pickA (i : Nat) (d : Option Nat) {oi : Oper} {v : Value} {fuel : Nat} {listed : Array Bool} {a : Act} {w : World}
    (hi : ops[i]? = some oi) (hd : oi.dst = d) (hs : Region.noSelect ops = true) (hf : Region.free md ops listed i = true) (hr : (Region.ready md ops listed).contains i = true)
    (hit : i < t) (hQ : ∀ c a w, Q (.panic c) (a.put d v) w → Q (.panic c) a w) (hwt : Region.wanted oi (yielded ops a.tmps) = true) (hy : ∀ w, (execOp a.eval oi).run P w = .ok (.value v) w) (hS : S w)
    (h : wpAnyL P md ops Q S t fuel (listed.setIfInBounds i true) (a.put d v) w) : wpAnyL P md ops Q S t (fuel + 1) listed a w := by
  subst hd
  exact wpAnyL_first (T := fun _ => True) hi (Region.noSelect_spec hs) hQ hit (Or.inl fun _ => trivial) fuel listed a w (Region.free_spec hi hf) (by simpa using hr) (Or.inl ⟨hwt, fun w _ => hy w⟩) (Or.inl fun _ => trivial) trivial (fun _ => hS) h
/-- One alone may come up. -/
theorem oneL {i : Nat} {o : Oper} {fuel : Nat} {listed : Array Bool} {a : Act} {w : World} (hr : Region.ready md ops listed = [i]) (ho : ops[i]? = some o)
    (h : ∀ K' : Act → World → Prop, Shut (∀ a w, S w → wpAnyL P md ops Q S t fuel (listed.setIfInBounds i true) a w → K' a w) → if Region.wanted o (yielded ops a.tmps) = true then Oper.wp P o a w K' Q else K' (a.put o.dst undef) w) :
    wpAnyL P md ops Q S t (fuel + 1) listed a w := by
  refine ⟨fun h0 => (by rw [hr] at h0; cases h0), fun j hj => ?_⟩
  rw [hr] at hj
  obtain rfl : j = i := by simpa using hj
  exact wpOp_step ho (fun K' hK => h K' (fun a w hS hW => hK a w ⟨fun _ => hS, hW⟩))
/-- .. a late one. -/
theorem lateL {i : Nat} {o : Oper} {fuel : Nat} {listed : Array Bool} {a : Act} {w : World} (hr : Region.ready md ops listed = [i]) (ho : ops[i]? = some o) (hit : t ≤ i) (hl : decide (i < listed.size) = true)
    (h : ∀ K' : Act → World → Prop, Shut (∀ a w, wpAnyL P md ops Q S t fuel (listed.setIfInBounds i true) a w → K' a w) → if Region.wanted o (yielded ops a.tmps) = true then Oper.wp P o a w K' Q else K' (a.put o.dst undef) w) :
    wpAnyL P md ops Q S t (fuel + 1) listed a w := by
  refine ⟨fun h0 => (by rw [hr] at h0; cases h0), fun j hj => ?_⟩
  rw [hr] at hj
  obtain rfl : j = i := by simpa using hj
  exact wpOp_step ho (fun K' hK => h K' (fun a w hW => hK a w ⟨fun h => (h.not hit (of_decide_eq_true hl)).elim, hW⟩))
theorem doneL {listed : Array Bool} {a : Act} {w : World} (hr : Region.ready md ops listed = []) (h : Q .normal a w) : ∀ fuel, wpAnyL P md ops Q S t fuel listed a w
  | 0 => ⟨hr, h⟩
  | _ + 1 => ⟨fun _ => h, by rw [hr]; simp⟩
theorem regionL (t : Nat) (S : World → Prop) {id : Nat} {a : Act} {w : World} (hm : P.follows .mixedOrders = true) (hS : S w.drew)
    (h : S w.drew → wpAnyL P .any ops Q S t ops.size (Array.replicate ops.size false) a w.drew) : (Code.region id ops true).wp P Q a w :=
  wp_region_any hm (wpAny_of_L _ _ _ _ (h hS))

end
end Go.Proofs.YtmhcmlegdoapdaaDoor

/- The document's SameAll: two rows of fields that read alike. -/
namespace Go.Proofs.YtmhcmlegdoapdaaDoor
open Go.RowKit

theorem cellsOf_get (fs : List Fd) : ∀ (j : Nat) (f : Fd), fs[j]? = some f → ∀ i, i < 14 → (cellsOf fs)[j * 14 + i]? = f.cs[i]? := by
  induction fs with
  | nil => intro j f h; simp at h
  | cons g r ih =>
    intro j f h i hi
    have hl : g.cs.toList.length = 14 := cs_size g
    unfold cellsOf at *
    rw [List.flatMap_cons]
    cases j with
    | zero =>
      obtain rfl : g = f := by simpa using h
      rw [List.getElem?_append_left (by omega)]
      simp
    | succ j =>
      rw [List.getElem?_append_right (by omega), hl, show (j + 1) * 14 + i - 14 = j * 14 + i from by omega]
      exact ih j f (by simpa using h) i hi
theorem txt_any {w : World} {base : Nat} {a : Option Addr} {c : Nat} (L : List UInt8) (h : w.ownsRow base 5 1 (.slice a L.length c) L.length (u8s (ints L))) : Txt w (.slice a L.length c) ⟨L.toArray⟩ := by
  rcases h.2 with ⟨h1, h2⟩ | ⟨g, cp, cur, h1, _⟩
  · injection h1 with e1 e2 e3
    subst e1 e3
    obtain rfl := List.eq_nil_of_length_eq_zero h2
    exact txt_nil w
  · injection h1 with e1 e2 e3
    subst e1
    exact txt_own L h
/-- Rows whose bytes are bytes. -/
def FV.byts (v : FV) : Prop := ∀ l, v.row = some l → ∃ L : List UInt8, l = ints L
theorem DAt.same {w : World} {b b' : Nat} {v : FV} {f f' : Fd} (hv : v.byts) (h : v.DAt w b f) (h' : v.DAt w b' f') :
    Calls Tryd.prog 17 #[.agg f.cs, .agg f'.cs] w fun e w' => e = .returned (.bool true) ∧ Below w.heap.size w w' := by
  rcases h with ⟨hr, rfl⟩ | ⟨l, a, c, hr, rfl, ho⟩
  · rcases h' with ⟨hr', rfl⟩ | ⟨l, a, c, hr', _⟩
    · cases v with
      | bytes l => cases hr
      | num n => exact rsame_parts _ _ _ _ _ _ _ _ _ _ _ _ _ _ _ _ _ _ _ _ w (txt_nil w) (txt_nil w)
      | int i => exact rsame_parts _ _ _ _ _ _ _ _ _ _ _ _ _ _ _ _ _ _ _ _ w (txt_nil w) (txt_nil w)
      | truth t => exact rsame_parts _ _ _ _ _ _ _ _ _ _ _ _ _ _ _ _ _ _ _ _ w (txt_nil w) (txt_nil w)
      | vec n b => exact rsame_parts _ _ _ _ _ _ _ _ _ _ _ _ _ _ _ _ _ _ _ _ w (txt_nil w) (txt_nil w)
      | key r x => exact rsame_parts _ _ _ _ _ _ _ _ _ _ _ _ _ _ _ _ _ _ _ _ w (txt_nil w) (txt_nil w)
      | ref i r x n b => exact rsame_parts _ _ _ _ _ _ _ _ _ _ _ _ _ _ _ _ _ _ _ _ w (txt_nil w) (txt_nil w)
    · rw [hr] at hr'; cases hr'
  · rcases h' with ⟨hr', rfl⟩ | ⟨l', a', c', hr', rfl, ho'⟩
    · rw [hr] at hr'; cases hr'
    · obtain rfl : l = l' := by rw [hr] at hr'; exact Option.some.inj hr'
      obtain ⟨L, rfl⟩ := hv l hr
      rw [ints_len] at ho ho' ⊢
      have t1 := txt_any L ho
      have t2 := txt_any L ho'
      cases v with
      | bytes l => exact rsame_parts _ _ _ _ _ _ _ _ _ _ _ _ _ _ _ _ _ _ _ _ w t1 t2
      | num n => cases hr
      | int i => cases hr
      | truth t => cases hr
      | vec n b => cases hr
      | key r x => cases hr
      | ref i r x n b => cases hr
theorem own_keep {w w' : World} {B e size n : Nat} {v : Value} {xs : List Value} (h : w.ownsRow B e size v n xs) (hb : Below w.heap.size w w') : w'.ownsRow B e size v n xs := by
  refine ⟨h.1, ?_⟩
  rcases h.2 with h2 | ⟨g, cap, cur, h1, h2, h3, h4⟩
  · exact Or.inl h2
  · have hlt := (h.lt g (by rw [h1]; rfl)).2
    exact Or.inr ⟨g, cap, cur, h1, h2, (hb.block g hlt).trans h3, h4⟩
theorem FV.DAt.below {w w' : World} {base : Nat} {v : FV} {f : Fd} (h : v.DAt w base f) (hb : Below w.heap.size w w') : v.DAt w' base f := by
  rcases h with h | ⟨l, a, c, hr, hf, ho⟩
  · exact Or.inl h
  · exact Or.inr ⟨l, a, c, hr, hf, own_keep ho hb⟩

/-- A row of fields that lies there. -/
structure FR (w : World) (vs : List FV) (fa : Option Addr) (fc : Nat) (fs : List Fd) (base : Nat) : Prop where
  flen : fs.length = vs.length
  own : w.ownsRow base 34 14 (.slice fa vs.length fc) vs.length (cellsOf fs)
  rows : ∀ (j : Nat) (v : FV) (f : Fd), vs[j]? = some v → fs[j]? = some f → v.DAt w base f
theorem FR.below {w w' : World} {vs : List FV} {fa : Option Addr} {fc : Nat} {fs : List Fd} {base : Nat} (h : FR w vs fa fc fs base) (hb : Below w.heap.size w w') : FR w' vs fa fc fs base :=
  ⟨h.flen, own_keep h.own hb, fun j v f h1 h2 => (h.rows j v f h1 h2).below hb⟩
theorem DReadTo.fr {w w' : World} {vs : List FV} {fa : Option Addr} {fc : Nat} (h : DReadTo w w' vs fa fc) : ∃ fs, FR w' vs fa fc fs w.heap.size := by
  obtain ⟨fs, h1, h2, h3, _⟩ := h
  exact ⟨fs, h1, h2, h3⟩
theorem FR.at_ {w : World} {vs : List FV} {fa : Option Addr} {fc : Nat} {fs : List Fd} {base : Nat} (h : FR w vs fa fc fs base) (j : Nat) (hj : j < vs.length) :
    ∃ g f, fa = some ⟨g, 0, none⟩ ∧ g < w.heap.size ∧ fs[j]? = some f ∧ vs[j].DAt w base f ∧ ∀ i, i < 14 → w.cell? ⟨g, j * 14 + i, none⟩ = f.cs[i]? := by
  obtain ⟨g, cap, h1, -⟩ := h.own.form (by omega)
  injection h1 with e1 e2 e3
  subst e1
  have hjf : j < fs.length := by rw [h.flen]; exact hj
  have hf : fs[j]? = some fs[j] := List.getElem?_eq_getElem hjf
  refine ⟨g, fs[j], rfl, (h.own.lt g rfl).2, hf, h.rows j _ _ (List.getElem?_eq_getElem hj) hf, fun i hi => ?_⟩
  have hl := h.own.1
  rw [h.own.cellAt (j * 14 + i) (by have : vs.length * 14 ≥ (j + 1) * 14 := Nat.mul_le_mul_right _ hj; omega)]
  exact cellsOf_get fs j _ hf i hi

set_option maxHeartbeats 8000000 in
set_option maxRecDepth 100000 in
theorem sameAll_any (vs : List FV) (hvb : ∀ v ∈ vs, v.byts) (hn : vs.length ≤ 1000) (fa fa' : Option Addr) (fc fc' : Nat) (fs fs' : List Fd) (b b' : Nat) (w : World) (h1 : FR w vs fa fc fs b) (h2 : FR w vs fa' fc' fs' b') :
    Calls Tryd.prog 24 #[.slice fa vs.length fc, .slice fa' vs.length fc'] w fun e w' => e = .returned (.bool true) ∧ Below w.heap.size w w' := by
  have mixed : Tryd.prog.follows .mixedOrders = true := by kernel_rfl
  replace h1 := hide h1
  replace h2 := hide h2
  go_enter Tryd.func24, Tryd.ntmps24
  go_wp2
  go_loopw [5] (fun i wr => ∃ j : Nat, j ≤ vs.length ∧ i = .int .i64 (j : Int) ∧ Below w.heap.size w wr) (fun i _ => vs.length - (intOf i).toNat)
  case atStart => exact ⟨0, by omega, rfl, Below.refl _ _⟩
  case round =>
    obtain ⟨j, hj, rfl, hbw⟩ := hrel
    by_cases hlt : j < vs.length
    · obtain ⟨g, f, rfl, hg, hf, AT1, hc⟩ := (h1.out.below hbw).at_ j hlt
      obtain ⟨g', f', rfl, hg', hf', AT2, hc'⟩ := (h2.out.below hbw).at_ j hlt
      have hvm : vs[j] ∈ vs := List.getElem_mem hlt
      generalize vs[j] = v at *
      obtain ⟨f0, f1, f2, f3, f4, f5, f6, f7, f8, f9, f10, f11, f12, f13, f14, f15⟩ := f
      obtain ⟨y0, y1, y2, y3, y4, y5, y6, y7, y8, y9, y10, y11, y12, y13, y14, y15⟩ := f'
      replace AT1 := hide AT1
      replace AT2 := hide AT2
      have hKeep : Hid (∀ W, Below wr.heap.size wr W → (fun w' => w'.cell? ⟨g, j * 14, none⟩ = some (.int .i64 f0) ∧ w'.cell? ⟨g, j * 14 + 1, none⟩ = some (.int .u64 f1) ∧ w'.cell? ⟨g, j * 14 + 2, none⟩ = some (.int .i64 f2) ∧ w'.cell? ⟨g, j * 14 + 3, none⟩ = some (.bool f3) ∧ w'.cell? ⟨g, j * 14 + 4, none⟩ = some (.slice f4 f5 f6) ∧ w'.cell? ⟨g, j * 14 + 5, none⟩ = some (.int .i64 f7) ∧ w'.cell? ⟨g, j * 14 + 6, none⟩ = some (.int .u64 f8) ∧ w'.cell? ⟨g, j * 14 + 7, none⟩ = some (.int .i64 f9) ∧ w'.cell? ⟨g, j * 14 + 8, none⟩ = some (.int .u64 f10) ∧ w'.cell? ⟨g, j * 14 + 9, none⟩ = some (.int .i64 f11) ∧ w'.cell? ⟨g, j * 14 + 10, none⟩ = some (.int .i64 f12) ∧ w'.cell? ⟨g, j * 14 + 11, none⟩ = some (.int .u64 f13) ∧ w'.cell? ⟨g, j * 14 + 12, none⟩ = some (.int .i64 f14) ∧ w'.cell? ⟨g, j * 14 + 13, none⟩ = some (.int .u64 f15) ∧ w'.cell? ⟨g', j * 14, none⟩ = some (.int .i64 y0) ∧ w'.cell? ⟨g', j * 14 + 1, none⟩ = some (.int .u64 y1) ∧ w'.cell? ⟨g', j * 14 + 2, none⟩ = some (.int .i64 y2) ∧ w'.cell? ⟨g', j * 14 + 3, none⟩ = some (.bool y3) ∧ w'.cell? ⟨g', j * 14 + 4, none⟩ = some (.slice y4 y5 y6) ∧ w'.cell? ⟨g', j * 14 + 5, none⟩ = some (.int .i64 y7) ∧ w'.cell? ⟨g', j * 14 + 6, none⟩ = some (.int .u64 y8) ∧ w'.cell? ⟨g', j * 14 + 7, none⟩ = some (.int .i64 y9) ∧ w'.cell? ⟨g', j * 14 + 8, none⟩ = some (.int .u64 y10) ∧ w'.cell? ⟨g', j * 14 + 9, none⟩ = some (.int .i64 y11) ∧ w'.cell? ⟨g', j * 14 + 10, none⟩ = some (.int .i64 y12) ∧ w'.cell? ⟨g', j * 14 + 11, none⟩ = some (.int .u64 y13) ∧ w'.cell? ⟨g', j * 14 + 12, none⟩ = some (.int .i64 y14) ∧ w'.cell? ⟨g', j * 14 + 13, none⟩ = some (.int .u64 y15)) W) := fun W hW => by
        have k1 : ∀ i, i < 14 → W.cell? ⟨g, j * 14 + i, none⟩ = (#[.int .i64 f0, .int .u64 f1, .int .i64 f2, .bool f3, .slice f4 f5 f6, .int .i64 f7, .int .u64 f8, .int .i64 f9, .int .u64 f10, .int .i64 f11, .int .i64 f12, .int .u64 f13, .int .i64 f14, .int .u64 f15] : Array Value)[i]? := fun i hi => by
          exact (hW.cell (show g < wr.heap.size from hg)).trans (hc i hi)
        have k2 : ∀ i, i < 14 → W.cell? ⟨g', j * 14 + i, none⟩ = (#[.int .i64 y0, .int .u64 y1, .int .i64 y2, .bool y3, .slice y4 y5 y6, .int .i64 y7, .int .u64 y8, .int .i64 y9, .int .u64 y10, .int .i64 y11, .int .i64 y12, .int .u64 y13, .int .i64 y14, .int .u64 y15] : Array Value)[i]? := fun i hi => by
          exact (hW.cell (show g' < wr.heap.size from hg')).trans (hc' i hi)
        exact ⟨k1 0 (by omega), k1 1 (by omega), k1 2 (by omega), k1 3 (by omega), k1 4 (by omega), k1 5 (by omega), k1 6 (by omega), k1 7 (by omega), k1 8 (by omega), k1 9 (by omega), k1 10 (by omega), k1 11 (by omega), k1 12 (by omega), k1 13 (by omega), k2 0 (by omega), k2 1 (by omega), k2 2 (by omega), k2 3 (by omega), k2 4 (by omega), k2 5 (by omega), k2 6 (by omega), k2 7 (by omega), k2 8 (by omega), k2 9 (by omega), k2 10 (by omega), k2 11 (by omega), k2 12 (by omega), k2 13 (by omega)⟩
      have HS := hide (hKeep.out wr.drew ((Below.refl _ _).drew))
      have HBW := hide hbw
      clear hc hc' hf hf' hbw
      go_wp2
      refine regionL 10 (fun w' => w'.cell? ⟨g, j * 14, none⟩ = some (.int .i64 f0) ∧ w'.cell? ⟨g, j * 14 + 1, none⟩ = some (.int .u64 f1) ∧ w'.cell? ⟨g, j * 14 + 2, none⟩ = some (.int .i64 f2) ∧ w'.cell? ⟨g, j * 14 + 3, none⟩ = some (.bool f3) ∧ w'.cell? ⟨g, j * 14 + 4, none⟩ = some (.slice f4 f5 f6) ∧ w'.cell? ⟨g, j * 14 + 5, none⟩ = some (.int .i64 f7) ∧ w'.cell? ⟨g, j * 14 + 6, none⟩ = some (.int .u64 f8) ∧ w'.cell? ⟨g, j * 14 + 7, none⟩ = some (.int .i64 f9) ∧ w'.cell? ⟨g, j * 14 + 8, none⟩ = some (.int .u64 f10) ∧ w'.cell? ⟨g, j * 14 + 9, none⟩ = some (.int .i64 f11) ∧ w'.cell? ⟨g, j * 14 + 10, none⟩ = some (.int .i64 f12) ∧ w'.cell? ⟨g, j * 14 + 11, none⟩ = some (.int .u64 f13) ∧ w'.cell? ⟨g, j * 14 + 12, none⟩ = some (.int .i64 f14) ∧ w'.cell? ⟨g, j * 14 + 13, none⟩ = some (.int .u64 f15) ∧ w'.cell? ⟨g', j * 14, none⟩ = some (.int .i64 y0) ∧ w'.cell? ⟨g', j * 14 + 1, none⟩ = some (.int .u64 y1) ∧ w'.cell? ⟨g', j * 14 + 2, none⟩ = some (.int .i64 y2) ∧ w'.cell? ⟨g', j * 14 + 3, none⟩ = some (.bool y3) ∧ w'.cell? ⟨g', j * 14 + 4, none⟩ = some (.slice y4 y5 y6) ∧ w'.cell? ⟨g', j * 14 + 5, none⟩ = some (.int .i64 y7) ∧ w'.cell? ⟨g', j * 14 + 6, none⟩ = some (.int .u64 y8) ∧ w'.cell? ⟨g', j * 14 + 7, none⟩ = some (.int .i64 y9) ∧ w'.cell? ⟨g', j * 14 + 8, none⟩ = some (.int .u64 y10) ∧ w'.cell? ⟨g', j * 14 + 9, none⟩ = some (.int .i64 y11) ∧ w'.cell? ⟨g', j * 14 + 10, none⟩ = some (.int .i64 y12) ∧ w'.cell? ⟨g', j * 14 + 11, none⟩ = some (.int .u64 y13) ∧ w'.cell? ⟨g', j * 14 + 12, none⟩ = some (.int .i64 y14) ∧ w'.cell? ⟨g', j * 14 + 13, none⟩ = some (.int .u64 y15)) mixed HS.out (fun hHeld => ?_)
      refine pickA (v := ?_) 0 (some 17) rfl rfl (by kernel_rfl) (by kernel_rfl) (by kernel_rfl) (by decide) (fun _ _ _ h => h) (by rfl) ?_ (by assumption) ?_
      rotate_left
      · intro w'
        go_simp
        try with_reducible rfl
      try simp only [Act.put, List.setIfInBounds_toArray, List.set_cons_zero, List.set_cons_succ]
      refine pickA (v := ?_) 1 (some 18) rfl rfl (by kernel_rfl) (by kernel_rfl) (by kernel_rfl) (by decide) (fun _ _ _ h => h) (by rfl) ?_ (by assumption) ?_
      rotate_left
      · intro w'
        go_simp
        try with_reducible rfl
      try simp only [Act.put, List.setIfInBounds_toArray, List.set_cons_zero, List.set_cons_succ]
      refine pickA (v := ?_) 2 (some 19) rfl rfl (by kernel_rfl) (by kernel_rfl) (by kernel_rfl) (by decide) (fun _ _ _ h => h) (by rfl) ?_ (by assumption) ?_
      rotate_left
      · intro w'
        go_simp
        try with_reducible rfl
      try simp only [Act.put, List.setIfInBounds_toArray, List.set_cons_zero, List.set_cons_succ]
      refine pickL (v := ?_) 3 (some 20) rfl rfl (by kernel_rfl) (by kernel_rfl) (by kernel_rfl) (by decide) (by kernel_rfl) (by kernel_rfl) (fun _ _ _ h => h) (by rfl) ?_ (by assumption) ?_
      rotate_left
      · intro w' hSw
        obtain ⟨q0, q1, q2, q3, q4, q5, q6, q7, q8, q9, q10, q11, q12, q13, q14, q15, q16, q17, q18, q19, q20, q21, q22, q23, q24, q25, q26, q27⟩ := hSw
        go_simp
        try with_reducible rfl
      try simp only [Act.put, List.setIfInBounds_toArray, List.set_cons_zero, List.set_cons_succ]
      refine pickA (v := ?_) 4 (some 21) rfl rfl (by kernel_rfl) (by kernel_rfl) (by kernel_rfl) (by decide) (fun _ _ _ h => h) (by rfl) ?_ (by assumption) ?_
      rotate_left
      · intro w'
        go_simp
        try with_reducible rfl
      try simp only [Act.put, List.setIfInBounds_toArray, List.set_cons_zero, List.set_cons_succ]
      refine pickA (v := ?_) 5 (some 22) rfl rfl (by kernel_rfl) (by kernel_rfl) (by kernel_rfl) (by decide) (fun _ _ _ h => h) (by rfl) ?_ (by assumption) ?_
      rotate_left
      · intro w'
        go_simp
        try with_reducible rfl
      try simp only [Act.put, List.setIfInBounds_toArray, List.set_cons_zero, List.set_cons_succ]
      refine pickA (v := ?_) 6 (some 23) rfl rfl (by kernel_rfl) (by kernel_rfl) (by kernel_rfl) (by decide) (fun _ _ _ h => h) (by rfl) ?_ (by assumption) ?_
      rotate_left
      · intro w'
        go_simp
        try with_reducible rfl
      try simp only [Act.put, List.setIfInBounds_toArray, List.set_cons_zero, List.set_cons_succ]
      refine pickL (v := ?_) 7 (some 24) rfl rfl (by kernel_rfl) (by kernel_rfl) (by kernel_rfl) (by decide) (by kernel_rfl) (by kernel_rfl) (fun _ _ _ h => h) (by rfl) ?_ (by assumption) ?_
      rotate_left
      · intro w' hSw
        obtain ⟨q0, q1, q2, q3, q4, q5, q6, q7, q8, q9, q10, q11, q12, q13, q14, q15, q16, q17, q18, q19, q20, q21, q22, q23, q24, q25, q26, q27⟩ := hSw
        go_simp
        try with_reducible rfl
      try simp only [Act.put, List.setIfInBounds_toArray, List.set_cons_zero, List.set_cons_succ]
      refine oneL (i := 8) (by kernel_rfl) rfl (fun K hK => ?_)
      go_simp
      refine (DAt.same (hvb _ hvm) (AT1.out.below ((Below.refl _ _).drew)) (AT2.out.below ((Below.refl _ _).drew))).mono ?_; rintro e W5 ⟨rfl, hb⟩
      have hb5 : Hid (Below wr.heap.size wr W5) := ((Below.refl wr.heap.size wr).drew).trans (hb.mono (Nat.le_refl _))
      have hS5 := hide (hKeep.out W5 hb5.out)
      clear hb
      refine hK.out _ _ ?_ ?_
      · exact hS5.out
      clear hK K
      try simp only [Act.put, List.setIfInBounds_toArray, List.set_cons_zero, List.set_cons_succ]
      clear hHeld
      have hHeld : (fun w' => w'.cell? ⟨g, j * 14, none⟩ = some (.int .i64 f0) ∧ w'.cell? ⟨g, j * 14 + 1, none⟩ = some (.int .u64 f1) ∧ w'.cell? ⟨g, j * 14 + 2, none⟩ = some (.int .i64 f2) ∧ w'.cell? ⟨g, j * 14 + 3, none⟩ = some (.bool f3) ∧ w'.cell? ⟨g, j * 14 + 4, none⟩ = some (.slice f4 f5 f6) ∧ w'.cell? ⟨g, j * 14 + 5, none⟩ = some (.int .i64 f7) ∧ w'.cell? ⟨g, j * 14 + 6, none⟩ = some (.int .u64 f8) ∧ w'.cell? ⟨g, j * 14 + 7, none⟩ = some (.int .i64 f9) ∧ w'.cell? ⟨g, j * 14 + 8, none⟩ = some (.int .u64 f10) ∧ w'.cell? ⟨g, j * 14 + 9, none⟩ = some (.int .i64 f11) ∧ w'.cell? ⟨g, j * 14 + 10, none⟩ = some (.int .i64 f12) ∧ w'.cell? ⟨g, j * 14 + 11, none⟩ = some (.int .u64 f13) ∧ w'.cell? ⟨g, j * 14 + 12, none⟩ = some (.int .i64 f14) ∧ w'.cell? ⟨g, j * 14 + 13, none⟩ = some (.int .u64 f15) ∧ w'.cell? ⟨g', j * 14, none⟩ = some (.int .i64 y0) ∧ w'.cell? ⟨g', j * 14 + 1, none⟩ = some (.int .u64 y1) ∧ w'.cell? ⟨g', j * 14 + 2, none⟩ = some (.int .i64 y2) ∧ w'.cell? ⟨g', j * 14 + 3, none⟩ = some (.bool y3) ∧ w'.cell? ⟨g', j * 14 + 4, none⟩ = some (.slice y4 y5 y6) ∧ w'.cell? ⟨g', j * 14 + 5, none⟩ = some (.int .i64 y7) ∧ w'.cell? ⟨g', j * 14 + 6, none⟩ = some (.int .u64 y8) ∧ w'.cell? ⟨g', j * 14 + 7, none⟩ = some (.int .i64 y9) ∧ w'.cell? ⟨g', j * 14 + 8, none⟩ = some (.int .u64 y10) ∧ w'.cell? ⟨g', j * 14 + 9, none⟩ = some (.int .i64 y11) ∧ w'.cell? ⟨g', j * 14 + 10, none⟩ = some (.int .i64 y12) ∧ w'.cell? ⟨g', j * 14 + 11, none⟩ = some (.int .u64 y13) ∧ w'.cell? ⟨g', j * 14 + 12, none⟩ = some (.int .i64 y14) ∧ w'.cell? ⟨g', j * 14 + 13, none⟩ = some (.int .u64 y15)) W5 := hS5.out
      refine pickA (v := ?_) 9 (some 26) rfl rfl (by kernel_rfl) (by kernel_rfl) (by kernel_rfl) (by decide) (fun _ _ _ h => h) (by rfl) ?_ (by assumption) ?_
      rotate_left
      · intro w'
        go_simp
        try with_reducible rfl
      try simp only [Act.put, List.setIfInBounds_toArray, List.set_cons_zero, List.set_cons_succ]
      refine doneL (by kernel_rfl) ?_ _
      clear hHeld
      go_wp2
      exact ⟨⟨j + 1, by omega, by simp, HBW.out.trans (hb5.out.mono HBW.out.size)⟩, by simp [intOf]; omega⟩
    · have HBW := hide hbw
      clear hbw
      go_wp2
      go_ret
      exact ⟨rfl, HBW.out⟩

end Go.Proofs.YtmhcmlegdoapdaaDoor

/- PackReads: the law walked. -/
namespace Go.Proofs.YtmhcmlegdoapdaaDoor
open Go.RowKit

theorem ints_of (l : List Int) (h : ∀ c ∈ l, 0 ≤ c ∧ c < 256) : ∃ L : List UInt8, l = ints L := by
  refine ⟨l.map (fun c => UInt8.ofNat c.toNat), ?_⟩
  unfold ints
  rw [List.map_map]
  conv => lhs; rw [← List.map_id l]
  refine List.map_congr_left fun c hc => ?_
  have := h c hc
  simp only [id, Function.comp, UInt8.toNat_ofNat']
  omega
theorem ints_bd (L : List UInt8) : ∀ c ∈ ints L, 0 ≤ c ∧ c < 256 := by
  intro c hc
  unfold ints at hc
  obtain ⟨u, _, rfl⟩ := List.mem_map.1 hc
  have := u.toNat_lt
  omega
theorem read_byts (ks l : List Int) (hks : ∀ k ∈ ks, 1 ≤ k ∧ k ≤ 7) (hl : ∀ c ∈ l, 0 ≤ c ∧ c < 256) (vs : List FV) (n : Nat) (h : pfields ks l = .ok vs n) : ∀ v ∈ vs, v.byts := by
  obtain ⟨h1, -, -, -⟩ := pfields_dec ks hks l hl vs n h
  intro v hv l' hr
  refine ints_of l' fun c hc => ?_
  have hm : c ∈ encs vs := by
    unfold encs
    refine List.mem_flatMap.2 ⟨v, hv, ?_⟩
    cases v with
    | bytes r =>
      cases hr
      exact List.mem_append_right _ hc
    | num n => cases hr
    | int i => cases hr
    | truth t => cases hr
    | vec n b => cases hr
    | key r x => cases hr
    | ref i r x n b => cases hr
  rw [← h1] at hm
  exact hl c (List.mem_of_mem_take hm)
theorem read_len (ks l : List Int) (hks : ∀ k ∈ ks, 1 ≤ k ∧ k ≤ 7) (hl : ∀ c ∈ l, 0 ≤ c ∧ c < 256) (vs : List FV) (n : Nat) (h : pfields ks l = .ok vs n) : vs.length = ks.length ∧ n ≤ l.length := by
  obtain ⟨-, h2, -, h4⟩ := pfields_dec ks hks l hl vs n h
  exact ⟨by rw [← h4, List.length_map], h2⟩
theorem Bys.below {w w' : World} {sb : Nat} {a : Option Addr} {cap : Nat} {l : List Int} (h : Bys w sb a cap l) (hb : Below w.heap.size w w') : Bys w' sb a cap l := by
  obtain ⟨h1, h2, h3, h4, h5, h6⟩ := h
  refine ⟨h1, h2, h3, h4, Nat.lt_of_lt_of_le h5 hb.size, ?_⟩
  rcases h6 with h6 | ⟨o, ha, hc⟩
  · exact Or.inl h6
  · exact Or.inr ⟨o, ha, fun j hj => (hb.cell (by exact h5)).trans (hc j hj)⟩
/-- Kinds that are handed in. -/
def Kds (w : World) (ka : Option Addr) (ks : List Int) : Prop := ∀ (j : Nat) (k : Int), ks[j]? = some k → ∃ kb ko, ka = some ⟨kb, ko, none⟩ ∧ w.cell? ⟨kb, ko + j, none⟩ = some (.int .i64 k)
theorem Kds.below {w w' : World} {ka : Option Addr} {ks : List Int} (h : Kds w ka ks) (hb : Below w.heap.size w w') : Kds w' ka ks := fun j k hj => by
  obtain ⟨kb, ko, h1, h2⟩ := h j k hj
  exact ⟨kb, ko, h1, (hb.cell (lt_of_cell h2)).trans h2⟩
theorem Kds.take {w : World} {ka : Option Addr} {ks : List Int} (h : Kds w ka ks) (n : Nat) : Kds w ka (ks.take n) := fun j k hj => by
  rw [List.getElem?_take] at hj
  split at hj
  · exact h j k hj
  · cases hj
theorem kinds_or (ks : List Int) : (∀ k ∈ ks, 1 ≤ k ∧ k ≤ 7) ∨ ∃ (k0 : Nat) (hk0 : k0 < ks.length), (∀ j (hj : j < k0), 1 ≤ ks[j] ∧ ks[j] ≤ 7) ∧ ¬ (1 ≤ ks[k0] ∧ ks[k0] ≤ 7) := by
  induction ks with
  | nil => exact Or.inl (by simp)
  | cons k r ih =>
    by_cases hk : 1 ≤ k ∧ k ≤ 7
    · rcases ih with h | ⟨k0, hk0, h1, h2⟩
      · exact Or.inl (by intro x hx; rcases List.mem_cons.1 hx with rfl | hx; exact hk; exact h x hx)
      · refine Or.inr ⟨k0 + 1, by simpa using hk0, fun j hj => ?_, by simpa using h2⟩
        cases j with
        | zero => simpa using hk
        | succ j => simpa using h1 j (by omega)
    · exact Or.inr ⟨0, by simp, fun j hj => by omega, by simpa using hk⟩

/-- What First tells, by both. -/
def Fst (w : World) (p : PR (List FV)) (e : Ending) (w' : World) : Prop :=
  (match p with
    | .ok vs n => ∃ fa fc fs b, e = .returned (.tuple #[.slice fa vs.length fc, .int .i64 (n : Int), .int .i64 0]) ∧ FR w' vs fa fc fs b
    | .bad i er => e = .returned (.tuple #[.slice none 0 0, .int .i64 (i : Int), .int .i64 er])) ∧ RowKit.Below w.heap.size w w'
/-- What Unpack tells, by both. -/
def Unq (w : World) (p : PR (List FV)) (len : Nat) (e : Ending) (w' : World) : Prop :=
  (match p with
    | .ok vs n => (n < len ∧ e = .returned (.tuple #[.slice none 0 0, .int .i64 (n : Int), .int .i64 33])) ∨ (len ≤ n ∧ ∃ fa fc fs b, e = .returned (.tuple #[.slice fa vs.length fc, .int .i64 0, .int .i64 0]) ∧ FR w' vs fa fc fs b)
    | .bad i er => e = .returned (.tuple #[.slice none 0 0, .int .i64 (i : Int), .int .i64 er])) ∧ RowKit.Below w.heap.size w w'
theorem Unp.q {w w' : World} {p : PR (List FV)} {len : Nat} {e : Ending} (h : Unp w p len e w') : Unq w p len e w' := by
  refine ⟨?_, h.2⟩
  have h1 := h.1
  cases p with
  | ok vs n =>
    rcases h1 with h1 | ⟨h1, fa, fc, h2, h3⟩
    · exact Or.inl h1
    · obtain ⟨fs, h4⟩ := h3.fr
      exact Or.inr ⟨h1, fa, fc, fs, _, h2, h4⟩
  | bad i er => exact h1
section
variable (ks l : List Int) (hks : ∀ k ∈ ks, 1 ≤ k ∧ k ≤ 7) (n m : Nat) (hl : l.length = n) (hm : ks.length = m) (hn : m ≤ 1000) (sb : Nat) (a : Option Addr) (cap : Nat) (ka : Option Addr) (kc : Nat) (w : World) (hR : Ranks w) (hB : Bys w sb a cap l) (hK : Kds w ka ks)
include hks hl hm hn hR hB hK
theorem firstN : Calls Tryd.prog 20 #[.slice a n cap, .slice ka m kc] w fun e w' => Fst w (pfields ks l) e w' := by
  subst hl hm
  refine (first_any ks l hks hn sb a cap ka kc w hR hB hK).mono ?_
  intro e w' h
  refine ⟨?_, h.2⟩
  have h1 := h.1
  rcases hp : pfields ks l with ⟨vs, n⟩ | ⟨i, er⟩
  · rw [hp] at h1
    obtain ⟨fa, fc, h2, h3⟩ := h1
    obtain ⟨fs, h4⟩ := h3.d.fr
    exact ⟨fa, fc, fs, _, h2, h4⟩
  · rw [hp] at h1; exact h1
theorem unpackN : Calls Tryd.prog 19 #[.slice a n cap, .slice ka m kc] w fun e w' => Unq w (pfields ks l) n e w' := by
  subst hl hm
  exact (unpack_any ks l hks hn sb a cap ka kc w hR hB hK).mono fun e w' h => h.q
omit hR
theorem rfirstN : Calls Tryd.prog 22 #[.slice a n cap, .slice ka m kc] w fun e w' => Fst w (pfields ks l) e w' := by
  subst hl hm
  refine (rfirst_any ks l hks hn sb a cap ka kc w hB hK).mono ?_
  intro e w' h
  refine ⟨?_, h.2⟩
  have h1 := h.1
  rcases hp : pfields ks l with ⟨vs, n⟩ | ⟨i, er⟩
  · rw [hp] at h1
    obtain ⟨fa, fc, h2, h3⟩ := h1
    obtain ⟨fs, h4⟩ := h3.fr
    exact ⟨fa, fc, fs, _, h2, h4⟩
  · rw [hp] at h1; exact h1.1
theorem runpackN : Calls Tryd.prog 23 #[.slice a n cap, .slice ka m kc] w fun e w' => Unq w (pfields ks l) n e w' := by
  subst hl hm
  exact (runpack_any ks l hks hn sb a cap ka kc w hB hK).mono fun e w' h => h.q
end
theorem kds_at (ks : List Int) (k0 : Nat) (hk0 : k0 < ks.length) (ka : Option Addr) (w : World) (hK : Kds w ka ks) : ∃ kb ko, ka = some ⟨kb, ko, none⟩ ∧ ∀ (j : Nat) (k : Int), ks[j]? = some k → w.cell? ⟨kb, ko + j, none⟩ = some (.int .i64 k) := by
  obtain ⟨kb, ko, h1, -⟩ := hK k0 _ (List.getElem?_eq_getElem hk0)
  refine ⟨kb, ko, h1, fun j k hj => ?_⟩
  obtain ⟨kb', ko', h2, h3⟩ := hK j k hj
  rw [h1] at h2
  injection h2 with h2
  injection h2 with e1 e2 _
  subst e1 e2
  exact h3
section
variable (ks : List Int) (m : Nat) (hm : ks.length = m) (k0 : Nat) (hk0 : k0 < ks.length) (hks : ∀ j (hj : j < k0), 1 ≤ ks[j] ∧ ks[j] ≤ 7) (hbad : ¬ (1 ≤ ks[k0] ∧ ks[k0] ≤ 7)) (hn : m ≤ 1000) (a : Option Addr) (n cap : Nat) (ka : Option Addr) (kc : Nat) (w : World) (hK : Kds w ka ks)
include hm hk0 hks hbad hn hK
theorem firstX : Calls Tryd.prog 20 #[.slice a n cap, .slice ka m kc] w fun e w' => e = .returned (.tuple #[.slice none 0 0, .int .i64 0, .int .i64 30]) ∧ w' = w := by
  obtain ⟨kb, ko, rfl, h⟩ := kds_at ks k0 hk0 ka w hK
  subst hm
  exact first_none ks k0 hk0 hks hbad hn _ kb ko kc w h
theorem rfirstX : Calls Tryd.prog 22 #[.slice a n cap, .slice ka m kc] w fun e w' => e = .returned (.tuple #[.slice none 0 0, .int .i64 0, .int .i64 30]) ∧ w' = w := by
  obtain ⟨kb, ko, rfl, h⟩ := kds_at ks k0 hk0 ka w hK
  subst hm
  exact rfirst_none ks k0 hk0 hks hbad hn _ kb ko kc w h
end
theorem fr_nil (w : World) : FR w [] none 0 [] 0 := ⟨rfl, World.ownsRow_nil _ _ _ _, fun j v f h _ => by simp at h⟩
theorem same_nil (w : World) : Calls Tryd.prog 24 #[.slice none 0 0, .slice none 0 0] w fun e w' => e = .returned (.bool true) ∧ Below w.heap.size w w' :=
  sameAll_any [] (by simp) (by simp) none none 0 0 [] [] 0 0 w (fr_nil w) (fr_nil w)
set_option maxHeartbeats 1000000 in
set_option maxRecDepth 100000 in
theorem fewKinds_any (ka : Option Addr) (m kc : Nat) (hmc : m ≤ kc) (hkc : kc ≤ 9223372036854775807) (hn : ka = none → m = 0) (w : World) :
    Calls Tryd.prog 21 #[.slice ka m kc] w fun e w' => (∃ m', m' = min m 20 ∧ e = .returned (.slice ka m' kc)) ∧ w' = w := by
  by_cases h : m ≤ 20
  · go_enter Tryd.func21, Tryd.ntmps21
    go_wp2
    go_ret
    exact ⟨⟨m, by omega, rfl⟩, rfl⟩
  · obtain ⟨ad, rfl⟩ : ∃ ad, ka = some ad := by
      cases ka with
      | none => have := hn rfl; omega
      | some ad => exact ⟨ad, rfl⟩
    clear hn
    go_enter Tryd.func21, Tryd.ntmps21
    go_wp2
    go_ret
    exact ⟨⟨20, by omega, rfl⟩, rfl⟩

set_option maxHeartbeats 64000000 in
set_option maxRecDepth 100000 in
theorem packReads_any (L : List UInt8) (ks : List Int) (sb : Nat) (a : Option Addr) (len cap : Nat) (ka : Option Addr) (m kc : Nat) (w : World) (hR : Ranks w) (hlen : L.length = len) (hkl : ks.length = m)
    (hlc : len ≤ cap) (hcap : cap ≤ 9223372036854775807) (hsb : sb < w.heap.size) (ha : (a = none ∧ L = [] ∧ cap = 0) ∨ ∃ o, a = some ⟨sb, o, none⟩ ∧ ∀ j (hj : j < L.length), w.cell? ⟨sb, o + j, none⟩ = some (.int .u8 (L[j].toNat : Int)))
    (hmc : m ≤ kc) (hkc : kc ≤ 9223372036854775807) (hkn : ka = none → m = 0) (hK : Kds w ka ks) :
    Calls Tryd.prog 5 #[.slice a len cap, .slice ka m kc] w fun e w' => e = .returned (.bool true) ∧ Below w.heap.size w w' := by
  obtain ⟨l1, hl1e⟩ : ∃ l1, l1 = ints (L.take 700) := ⟨_, rfl⟩
  have hl1 : l1.length = min 700 len := by rw [hl1e, ints_len, List.length_take, hlen]
  have HB : Hid (Bys w sb a cap l1) := by
    refine ⟨by omega, hcap, by omega, by rw [hl1e]; exact ints_bd _, hsb, ?_⟩
    rcases ha with ⟨h1, h2, h3⟩ | ⟨o, h1, h2⟩
    · exact Or.inl ⟨h1, by rw [hl1e, h2]; rfl, h3⟩
    · refine Or.inr ⟨o, h1, fun j hj => ?_⟩
      subst hl1e
      rw [ints_len] at hj
      rw [ints_get _ j hj, List.getElem_take]
      rw [List.length_take] at hj
      exact h2 j (by omega)
  have hnone : a = none → len = 0 := fun h => by
    rcases ha with ⟨h1, h2, h3⟩ | ⟨o, h1, h2⟩
    · rw [← hlen, h2]; rfl
    · rw [h] at h1; cases h1
  clear ha hl1e hlen
  replace hR := hide hR
  replace hK := hide hK
  replace hkl := hide hkl
  by_cases hbig : len ≤ 700
  · have hl1 : Hid (l1.length = len) := by show _ = _; rw [hl1]; omega
    clear hnone
    go_enter Tryd.func5, Tryd.ntmps5
    go_wp2_with fail
    refine (fewKinds_any ka m kc hmc hkc hkn _).mono ?_; rintro e w0 ⟨⟨m', hm0, rfl⟩, rfl⟩
    obtain ⟨ks1, hks1⟩ : ∃ ks1, ks1 = ks.take 20 := ⟨_, rfl⟩
    have hm' : ks1.length = m' := by rw [hks1, List.length_take, hkl.out]; omega
    have hm20 : m' ≤ 1000 := by omega
    have HK : Hid (Kds w0 ka ks1) := by rw [hks1]; exact hK.out.take 20
    have B0 : Hid (Below w0.heap.size w0 w0) := Below.refl _ _
    replace hm' := hide hm'
    clear hks1 hm0
    rcases kinds_or ks1 with hks | ⟨k0, hk0, hks, hbad⟩
    · rcases hp : pfields ks1 l1 with ⟨vs, n⟩ | ⟨i, er⟩
      · have hvb := hide (read_byts ks1 l1 hks HB.out.2.2.2.1 vs n hp)
        have hvl : vs.length ≤ 1000 := by rw [(read_len ks1 l1 hks HB.out.2.2.2.1 vs n hp).1, hm'.out]; exact hm20
        have hks := hide hks
        by_cases hnl : n < len
        · replace hnl := hide hnl
          go_wp2_with fail
          refine (firstN ks1 l1 hks.out len m' hl1.out hm'.out hm20 sb a cap ka kc _ (hR.out.below B0.out) (HB.out.below B0.out) (HK.out.below B0.out)).mono ?_; intro e w1 hE
          rw [hp] at hE
          obtain ⟨⟨fa, fc, fs, bb, rfl, hF⟩, hb⟩ := hE
          have B1 := hide (B0.out.trans (hb.mono B0.out.size))
          have F1 := hide hF
          clear hF
          clear hb
          go_wp2_with fail
          refine (rfirstN ks1 l1 hks.out len m' hl1.out hm'.out hm20 sb a cap ka kc _ (HB.out.below B1.out) (HK.out.below B1.out)).mono ?_; intro e w2 hE
          rw [hp] at hE
          obtain ⟨⟨ga, gc, gs, gb, rfl, hG⟩, hb⟩ := hE
          have B2 := hide (B1.out.trans (hb.mono B1.out.size))
          replace F1 := hide (F1.out.below hb)
          have G1 := hide hG
          clear hG
          clear hb
          go_wp2_with fail
          refine (unpackN ks1 l1 hks.out len m' hl1.out hm'.out hm20 sb a cap ka kc _ (hR.out.below B2.out) (HB.out.below B2.out) (HK.out.below B2.out)).mono ?_; intro e w3 hE
          rw [hp] at hE
          obtain ⟨hE, hb⟩ := hE
          have B3 := hide (B2.out.trans (hb.mono B2.out.size))
          replace F1 := hide (F1.out.below hb)
          replace G1 := hide (G1.out.below hb)
          obtain rfl : e = .returned (.tuple #[.slice none 0 0, .int .i64 (n : Int), .int .i64 33]) := by
            rcases hE with ⟨-, h⟩ | ⟨h, -⟩
            · exact h
            · have := hnl.out; omega
          clear hE
          clear hb
          go_wp2_with fail
          refine (runpackN ks1 l1 hks.out len m' hl1.out hm'.out hm20 sb a cap ka kc _ (HB.out.below B3.out) (HK.out.below B3.out)).mono ?_; intro e w4 hE
          rw [hp] at hE
          obtain ⟨hE, hb⟩ := hE
          have B4 := hide (B3.out.trans (hb.mono B3.out.size))
          replace F1 := hide (F1.out.below hb)
          replace G1 := hide (G1.out.below hb)
          obtain rfl : e = .returned (.tuple #[.slice none 0 0, .int .i64 (n : Int), .int .i64 33]) := by
            rcases hE with ⟨-, h⟩ | ⟨h, -⟩
            · exact h
            · have := hnl.out; omega
          clear hE
          clear hb
          go_wp2_with fail
          refine (sameAll_any vs hvb.out hvl fa ga fc gc fs gs _ _ _ F1.out G1.out).mono ?_; rintro e w5 ⟨rfl, hb⟩
          have B5 := hide (B4.out.trans (hb.mono B4.out.size))
          clear hb
          go_wp2_with fail
          refine (same_nil _).mono ?_; rintro e w6 ⟨rfl, hb⟩
          have B6 := hide (B5.out.trans (hb.mono B5.out.size))
          clear hb
          go_wp2_with fail
          refine (alive_any _ (hR.out.below B6.out)).mono ?_; rintro e w7 ⟨rfl, hb⟩
          have B7 := hide (B6.out.trans (hb.mono B6.out.size))
          clear hb
          go_wp2
          go_ret
          exact ⟨rfl, B7.out⟩
        · replace hnl := hide hnl
          go_wp2_with fail
          refine (firstN ks1 l1 hks.out len m' hl1.out hm'.out hm20 sb a cap ka kc _ (hR.out.below B0.out) (HB.out.below B0.out) (HK.out.below B0.out)).mono ?_; intro e w1 hE
          rw [hp] at hE
          obtain ⟨⟨fa, fc, fs, bb, rfl, hF⟩, hb⟩ := hE
          have B1 := hide (B0.out.trans (hb.mono B0.out.size))
          have F1 := hide hF
          clear hF
          clear hb
          go_wp2_with fail
          refine (rfirstN ks1 l1 hks.out len m' hl1.out hm'.out hm20 sb a cap ka kc _ (HB.out.below B1.out) (HK.out.below B1.out)).mono ?_; intro e w2 hE
          rw [hp] at hE
          obtain ⟨⟨ga, gc, gs, gb, rfl, hG⟩, hb⟩ := hE
          have B2 := hide (B1.out.trans (hb.mono B1.out.size))
          replace F1 := hide (F1.out.below hb)
          have G1 := hide hG
          clear hG
          clear hb
          go_wp2_with fail
          refine (unpackN ks1 l1 hks.out len m' hl1.out hm'.out hm20 sb a cap ka kc _ (hR.out.below B2.out) (HB.out.below B2.out) (HK.out.below B2.out)).mono ?_; intro e w3 hE
          rw [hp] at hE
          obtain ⟨hE, hb⟩ := hE
          have B3 := hide (B2.out.trans (hb.mono B2.out.size))
          replace F1 := hide (F1.out.below hb)
          replace G1 := hide (G1.out.below hb)
          obtain ⟨fa3, fc3, fs3, bb3, rfl, hF⟩ : ∃ fa fc fs b, e = .returned (.tuple #[.slice fa vs.length fc, .int .i64 0, .int .i64 0]) ∧ FR w3 vs fa fc fs b := by
            rcases hE with ⟨h, -⟩ | ⟨-, h⟩
            · have := hnl.out; omega
            · exact h
          clear hE
          have F3 := hide hF
          clear hF
          clear hb
          go_wp2_with fail
          refine (runpackN ks1 l1 hks.out len m' hl1.out hm'.out hm20 sb a cap ka kc _ (HB.out.below B3.out) (HK.out.below B3.out)).mono ?_; intro e w4 hE
          rw [hp] at hE
          obtain ⟨hE, hb⟩ := hE
          have B4 := hide (B3.out.trans (hb.mono B3.out.size))
          replace F3 := hide (F3.out.below hb)
          replace F1 := hide (F1.out.below hb)
          replace G1 := hide (G1.out.below hb)
          obtain ⟨fa4, fc4, fs4, bb4, rfl, hF⟩ : ∃ fa fc fs b, e = .returned (.tuple #[.slice fa vs.length fc, .int .i64 0, .int .i64 0]) ∧ FR w4 vs fa fc fs b := by
            rcases hE with ⟨h, -⟩ | ⟨-, h⟩
            · have := hnl.out; omega
            · exact h
          clear hE
          have F4 := hide hF
          clear hF
          clear hb
          go_wp2_with fail
          refine (sameAll_any vs hvb.out hvl fa ga fc gc fs gs _ _ _ F1.out G1.out).mono ?_; rintro e w5 ⟨rfl, hb⟩
          have B5 := hide (B4.out.trans (hb.mono B4.out.size))
          replace F3 := hide (F3.out.below hb)
          replace F4 := hide (F4.out.below hb)
          clear hb
          go_wp2_with fail
          refine (sameAll_any vs hvb.out hvl fa3 fa4 fc3 fc4 fs3 fs4 _ _ _ F3.out F4.out).mono ?_; rintro e w6 ⟨rfl, hb⟩
          have B6 := hide (B5.out.trans (hb.mono B5.out.size))
          clear hb
          go_wp2_with fail
          refine (alive_any _ (hR.out.below B6.out)).mono ?_; rintro e w7 ⟨rfl, hb⟩
          have B7 := hide (B6.out.trans (hb.mono B6.out.size))
          clear hb
          go_wp2
          go_ret
          exact ⟨rfl, B7.out⟩
      · have hks := hide hks
        go_wp2_with fail
        refine (firstN ks1 l1 hks.out len m' hl1.out hm'.out hm20 sb a cap ka kc _ (hR.out.below B0.out) (HB.out.below B0.out) (HK.out.below B0.out)).mono ?_; intro e w1 hE
        rw [hp] at hE
        obtain ⟨rfl, hb⟩ := hE
        have B1 := hide (B0.out.trans (hb.mono B0.out.size))
        clear hb
        go_wp2_with fail
        refine (rfirstN ks1 l1 hks.out len m' hl1.out hm'.out hm20 sb a cap ka kc _ (HB.out.below B1.out) (HK.out.below B1.out)).mono ?_; intro e w2 hE
        rw [hp] at hE
        obtain ⟨rfl, hb⟩ := hE
        have B2 := hide (B1.out.trans (hb.mono B1.out.size))
        clear hb
        go_wp2_with fail
        refine (unpackN ks1 l1 hks.out len m' hl1.out hm'.out hm20 sb a cap ka kc _ (hR.out.below B2.out) (HB.out.below B2.out) (HK.out.below B2.out)).mono ?_; intro e w3 hE
        rw [hp] at hE
        obtain ⟨rfl, hb⟩ := hE
        have B3 := hide (B2.out.trans (hb.mono B2.out.size))
        clear hb
        go_wp2_with fail
        refine (runpackN ks1 l1 hks.out len m' hl1.out hm'.out hm20 sb a cap ka kc _ (HB.out.below B3.out) (HK.out.below B3.out)).mono ?_; intro e w4 hE
        rw [hp] at hE
        obtain ⟨rfl, hb⟩ := hE
        have B4 := hide (B3.out.trans (hb.mono B3.out.size))
        clear hb
        go_wp2_with fail
        refine (same_nil _).mono ?_; rintro e w5 ⟨rfl, hb⟩
        have B5 := hide (B4.out.trans (hb.mono B4.out.size))
        clear hb
        go_wp2_with fail
        refine (same_nil _).mono ?_; rintro e w6 ⟨rfl, hb⟩
        have B6 := hide (B5.out.trans (hb.mono B5.out.size))
        clear hb
        go_wp2_with fail
        refine (alive_any _ (hR.out.below B6.out)).mono ?_; rintro e w7 ⟨rfl, hb⟩
        have B7 := hide (B6.out.trans (hb.mono B6.out.size))
        clear hb
        go_wp2
        go_ret
        exact ⟨rfl, B7.out⟩
    · have hks := hide hks
      have hbad := hide hbad
      go_wp2_with fail
      refine (firstX ks1 m' hm'.out k0 hk0 hks.out hbad.out hm20 a len cap ka kc _ (HK.out.below B0.out)).mono ?_; rintro e w1 ⟨rfl, rfl⟩
      go_wp2_with fail
      refine (rfirstX ks1 m' hm'.out k0 hk0 hks.out hbad.out hm20 a len cap ka kc _ (HK.out.below B0.out)).mono ?_; rintro e w1 ⟨rfl, rfl⟩
      go_wp2_with fail
      refine (unpack_none a len cap _ _ (firstX ks1 m' hm'.out k0 hk0 hks.out hbad.out hm20 a len cap ka kc _ (HK.out.below B0.out))).mono ?_; rintro e w1 ⟨rfl, rfl⟩
      go_wp2_with fail
      refine (runpack_none a len cap _ _ (rfirstX ks1 m' hm'.out k0 hk0 hks.out hbad.out hm20 a len cap ka kc _ (HK.out.below B0.out))).mono ?_; rintro e w1 ⟨rfl, rfl⟩
      go_wp2_with fail
      refine (same_nil _).mono ?_; rintro e w5 ⟨rfl, hb⟩
      have B5 := hide (B0.out.trans (hb.mono B0.out.size))
      clear hb
      go_wp2_with fail
      refine (same_nil _).mono ?_; rintro e w6 ⟨rfl, hb⟩
      have B6 := hide (B5.out.trans (hb.mono B5.out.size))
      clear hb
      go_wp2_with fail
      refine (alive_any _ (hR.out.below B6.out)).mono ?_; rintro e w7 ⟨rfl, hb⟩
      have B7 := hide (B6.out.trans (hb.mono B6.out.size))
      clear hb
      go_wp2
      go_ret
      exact ⟨rfl, B7.out⟩
  · have hl1 : Hid (l1.length = 700) := by show _ = _; rw [hl1]; omega
    obtain ⟨ad, rfl⟩ : ∃ ad, a = some ad := by
      cases a with
      | none => have := hnone rfl; omega
      | some ad => exact ⟨ad, rfl⟩
    clear hnone
    go_enter Tryd.func5, Tryd.ntmps5
    go_wp2_with fail
    refine (fewKinds_any ka m kc hmc hkc hkn _).mono ?_; rintro e w0 ⟨⟨m', hm0, rfl⟩, rfl⟩
    obtain ⟨ks1, hks1⟩ : ∃ ks1, ks1 = ks.take 20 := ⟨_, rfl⟩
    have hm' : ks1.length = m' := by rw [hks1, List.length_take, hkl.out]; omega
    have hm20 : m' ≤ 1000 := by omega
    have HK : Hid (Kds w0 ka ks1) := by rw [hks1]; exact hK.out.take 20
    have B0 : Hid (Below w0.heap.size w0 w0) := Below.refl _ _
    replace hm' := hide hm'
    clear hks1 hm0
    rcases kinds_or ks1 with hks | ⟨k0, hk0, hks, hbad⟩
    · rcases hp : pfields ks1 l1 with ⟨vs, n⟩ | ⟨i, er⟩
      · have hvb := hide (read_byts ks1 l1 hks HB.out.2.2.2.1 vs n hp)
        have hvl : vs.length ≤ 1000 := by rw [(read_len ks1 l1 hks HB.out.2.2.2.1 vs n hp).1, hm'.out]; exact hm20
        have hks := hide hks
        by_cases hnl : n < 700
        · replace hnl := hide hnl
          go_wp2_with fail
          refine (firstN ks1 l1 hks.out 700 m' hl1.out hm'.out hm20 sb (some ad) cap ka kc _ (hR.out.below B0.out) (HB.out.below B0.out) (HK.out.below B0.out)).mono ?_; intro e w1 hE
          rw [hp] at hE
          obtain ⟨⟨fa, fc, fs, bb, rfl, hF⟩, hb⟩ := hE
          have B1 := hide (B0.out.trans (hb.mono B0.out.size))
          have F1 := hide hF
          clear hF
          clear hb
          go_wp2_with fail
          refine (rfirstN ks1 l1 hks.out 700 m' hl1.out hm'.out hm20 sb (some ad) cap ka kc _ (HB.out.below B1.out) (HK.out.below B1.out)).mono ?_; intro e w2 hE
          rw [hp] at hE
          obtain ⟨⟨ga, gc, gs, gb, rfl, hG⟩, hb⟩ := hE
          have B2 := hide (B1.out.trans (hb.mono B1.out.size))
          replace F1 := hide (F1.out.below hb)
          have G1 := hide hG
          clear hG
          clear hb
          go_wp2_with fail
          refine (unpackN ks1 l1 hks.out 700 m' hl1.out hm'.out hm20 sb (some ad) cap ka kc _ (hR.out.below B2.out) (HB.out.below B2.out) (HK.out.below B2.out)).mono ?_; intro e w3 hE
          rw [hp] at hE
          obtain ⟨hE, hb⟩ := hE
          have B3 := hide (B2.out.trans (hb.mono B2.out.size))
          replace F1 := hide (F1.out.below hb)
          replace G1 := hide (G1.out.below hb)
          obtain rfl : e = .returned (.tuple #[.slice none 0 0, .int .i64 (n : Int), .int .i64 33]) := by
            rcases hE with ⟨-, h⟩ | ⟨h, -⟩
            · exact h
            · have := hnl.out; omega
          clear hE
          clear hb
          go_wp2_with fail
          refine (runpackN ks1 l1 hks.out 700 m' hl1.out hm'.out hm20 sb (some ad) cap ka kc _ (HB.out.below B3.out) (HK.out.below B3.out)).mono ?_; intro e w4 hE
          rw [hp] at hE
          obtain ⟨hE, hb⟩ := hE
          have B4 := hide (B3.out.trans (hb.mono B3.out.size))
          replace F1 := hide (F1.out.below hb)
          replace G1 := hide (G1.out.below hb)
          obtain rfl : e = .returned (.tuple #[.slice none 0 0, .int .i64 (n : Int), .int .i64 33]) := by
            rcases hE with ⟨-, h⟩ | ⟨h, -⟩
            · exact h
            · have := hnl.out; omega
          clear hE
          clear hb
          go_wp2_with fail
          refine (sameAll_any vs hvb.out hvl fa ga fc gc fs gs _ _ _ F1.out G1.out).mono ?_; rintro e w5 ⟨rfl, hb⟩
          have B5 := hide (B4.out.trans (hb.mono B4.out.size))
          clear hb
          go_wp2_with fail
          refine (same_nil _).mono ?_; rintro e w6 ⟨rfl, hb⟩
          have B6 := hide (B5.out.trans (hb.mono B5.out.size))
          clear hb
          go_wp2_with fail
          refine (alive_any _ (hR.out.below B6.out)).mono ?_; rintro e w7 ⟨rfl, hb⟩
          have B7 := hide (B6.out.trans (hb.mono B6.out.size))
          clear hb
          go_wp2
          go_ret
          exact ⟨rfl, B7.out⟩
        · replace hnl := hide hnl
          go_wp2_with fail
          refine (firstN ks1 l1 hks.out 700 m' hl1.out hm'.out hm20 sb (some ad) cap ka kc _ (hR.out.below B0.out) (HB.out.below B0.out) (HK.out.below B0.out)).mono ?_; intro e w1 hE
          rw [hp] at hE
          obtain ⟨⟨fa, fc, fs, bb, rfl, hF⟩, hb⟩ := hE
          have B1 := hide (B0.out.trans (hb.mono B0.out.size))
          have F1 := hide hF
          clear hF
          clear hb
          go_wp2_with fail
          refine (rfirstN ks1 l1 hks.out 700 m' hl1.out hm'.out hm20 sb (some ad) cap ka kc _ (HB.out.below B1.out) (HK.out.below B1.out)).mono ?_; intro e w2 hE
          rw [hp] at hE
          obtain ⟨⟨ga, gc, gs, gb, rfl, hG⟩, hb⟩ := hE
          have B2 := hide (B1.out.trans (hb.mono B1.out.size))
          replace F1 := hide (F1.out.below hb)
          have G1 := hide hG
          clear hG
          clear hb
          go_wp2_with fail
          refine (unpackN ks1 l1 hks.out 700 m' hl1.out hm'.out hm20 sb (some ad) cap ka kc _ (hR.out.below B2.out) (HB.out.below B2.out) (HK.out.below B2.out)).mono ?_; intro e w3 hE
          rw [hp] at hE
          obtain ⟨hE, hb⟩ := hE
          have B3 := hide (B2.out.trans (hb.mono B2.out.size))
          replace F1 := hide (F1.out.below hb)
          replace G1 := hide (G1.out.below hb)
          obtain ⟨fa3, fc3, fs3, bb3, rfl, hF⟩ : ∃ fa fc fs b, e = .returned (.tuple #[.slice fa vs.length fc, .int .i64 0, .int .i64 0]) ∧ FR w3 vs fa fc fs b := by
            rcases hE with ⟨h, -⟩ | ⟨-, h⟩
            · have := hnl.out; omega
            · exact h
          clear hE
          have F3 := hide hF
          clear hF
          clear hb
          go_wp2_with fail
          refine (runpackN ks1 l1 hks.out 700 m' hl1.out hm'.out hm20 sb (some ad) cap ka kc _ (HB.out.below B3.out) (HK.out.below B3.out)).mono ?_; intro e w4 hE
          rw [hp] at hE
          obtain ⟨hE, hb⟩ := hE
          have B4 := hide (B3.out.trans (hb.mono B3.out.size))
          replace F3 := hide (F3.out.below hb)
          replace F1 := hide (F1.out.below hb)
          replace G1 := hide (G1.out.below hb)
          obtain ⟨fa4, fc4, fs4, bb4, rfl, hF⟩ : ∃ fa fc fs b, e = .returned (.tuple #[.slice fa vs.length fc, .int .i64 0, .int .i64 0]) ∧ FR w4 vs fa fc fs b := by
            rcases hE with ⟨h, -⟩ | ⟨-, h⟩
            · have := hnl.out; omega
            · exact h
          clear hE
          have F4 := hide hF
          clear hF
          clear hb
          go_wp2_with fail
          refine (sameAll_any vs hvb.out hvl fa ga fc gc fs gs _ _ _ F1.out G1.out).mono ?_; rintro e w5 ⟨rfl, hb⟩
          have B5 := hide (B4.out.trans (hb.mono B4.out.size))
          replace F3 := hide (F3.out.below hb)
          replace F4 := hide (F4.out.below hb)
          clear hb
          go_wp2_with fail
          refine (sameAll_any vs hvb.out hvl fa3 fa4 fc3 fc4 fs3 fs4 _ _ _ F3.out F4.out).mono ?_; rintro e w6 ⟨rfl, hb⟩
          have B6 := hide (B5.out.trans (hb.mono B5.out.size))
          clear hb
          go_wp2_with fail
          refine (alive_any _ (hR.out.below B6.out)).mono ?_; rintro e w7 ⟨rfl, hb⟩
          have B7 := hide (B6.out.trans (hb.mono B6.out.size))
          clear hb
          go_wp2
          go_ret
          exact ⟨rfl, B7.out⟩
      · have hks := hide hks
        go_wp2_with fail
        refine (firstN ks1 l1 hks.out 700 m' hl1.out hm'.out hm20 sb (some ad) cap ka kc _ (hR.out.below B0.out) (HB.out.below B0.out) (HK.out.below B0.out)).mono ?_; intro e w1 hE
        rw [hp] at hE
        obtain ⟨rfl, hb⟩ := hE
        have B1 := hide (B0.out.trans (hb.mono B0.out.size))
        clear hb
        go_wp2_with fail
        refine (rfirstN ks1 l1 hks.out 700 m' hl1.out hm'.out hm20 sb (some ad) cap ka kc _ (HB.out.below B1.out) (HK.out.below B1.out)).mono ?_; intro e w2 hE
        rw [hp] at hE
        obtain ⟨rfl, hb⟩ := hE
        have B2 := hide (B1.out.trans (hb.mono B1.out.size))
        clear hb
        go_wp2_with fail
        refine (unpackN ks1 l1 hks.out 700 m' hl1.out hm'.out hm20 sb (some ad) cap ka kc _ (hR.out.below B2.out) (HB.out.below B2.out) (HK.out.below B2.out)).mono ?_; intro e w3 hE
        rw [hp] at hE
        obtain ⟨rfl, hb⟩ := hE
        have B3 := hide (B2.out.trans (hb.mono B2.out.size))
        clear hb
        go_wp2_with fail
        refine (runpackN ks1 l1 hks.out 700 m' hl1.out hm'.out hm20 sb (some ad) cap ka kc _ (HB.out.below B3.out) (HK.out.below B3.out)).mono ?_; intro e w4 hE
        rw [hp] at hE
        obtain ⟨rfl, hb⟩ := hE
        have B4 := hide (B3.out.trans (hb.mono B3.out.size))
        clear hb
        go_wp2_with fail
        refine (same_nil _).mono ?_; rintro e w5 ⟨rfl, hb⟩
        have B5 := hide (B4.out.trans (hb.mono B4.out.size))
        clear hb
        go_wp2_with fail
        refine (same_nil _).mono ?_; rintro e w6 ⟨rfl, hb⟩
        have B6 := hide (B5.out.trans (hb.mono B5.out.size))
        clear hb
        go_wp2_with fail
        refine (alive_any _ (hR.out.below B6.out)).mono ?_; rintro e w7 ⟨rfl, hb⟩
        have B7 := hide (B6.out.trans (hb.mono B6.out.size))
        clear hb
        go_wp2
        go_ret
        exact ⟨rfl, B7.out⟩
    · have hks := hide hks
      have hbad := hide hbad
      go_wp2_with fail
      refine (firstX ks1 m' hm'.out k0 hk0 hks.out hbad.out hm20 (some ad) 700 cap ka kc _ (HK.out.below B0.out)).mono ?_; rintro e w1 ⟨rfl, rfl⟩
      go_wp2_with fail
      refine (rfirstX ks1 m' hm'.out k0 hk0 hks.out hbad.out hm20 (some ad) 700 cap ka kc _ (HK.out.below B0.out)).mono ?_; rintro e w1 ⟨rfl, rfl⟩
      go_wp2_with fail
      refine (unpack_none (some ad) 700 cap _ _ (firstX ks1 m' hm'.out k0 hk0 hks.out hbad.out hm20 (some ad) 700 cap ka kc _ (HK.out.below B0.out))).mono ?_; rintro e w1 ⟨rfl, rfl⟩
      go_wp2_with fail
      refine (runpack_none (some ad) 700 cap _ _ (rfirstX ks1 m' hm'.out k0 hk0 hks.out hbad.out hm20 (some ad) 700 cap ka kc _ (HK.out.below B0.out))).mono ?_; rintro e w1 ⟨rfl, rfl⟩
      go_wp2_with fail
      refine (same_nil _).mono ?_; rintro e w5 ⟨rfl, hb⟩
      have B5 := hide (B0.out.trans (hb.mono B0.out.size))
      clear hb
      go_wp2_with fail
      refine (same_nil _).mono ?_; rintro e w6 ⟨rfl, hb⟩
      have B6 := hide (B5.out.trans (hb.mono B5.out.size))
      clear hb
      go_wp2_with fail
      refine (alive_any _ (hR.out.below B6.out)).mono ?_; rintro e w7 ⟨rfl, hb⟩
      have B7 := hide (B6.out.trans (hb.mono B6.out.size))
      clear hb
      go_wp2
      go_ret
      exact ⟨rfl, B7.out⟩

end Go.Proofs.YtmhcmlegdoapdaaDoor
