/- A map whose keys are claims and whose values are waiters: looked up, stored into, taken out of. -/
import Derived.Test.YtdogdinkopocaaaDoorKM
namespace Go.Proofs.YtdogdinkopocaaaDoor
open Go.RowKit Go.Maps Go.ChangeMaps

/-- A claim: a list, an owner. -/
abbrev Cc := Int × Int × Int × Int
/-- A waiter: its turn, its ticket. -/
abbrev Wt := Int × Int
def cv (x : Cc) : Value := .agg #[.int .i64 x.1, .int .u64 x.2.1, .int .i64 x.2.2.1, .int .i64 x.2.2.2]
def okC (x : Cc) : Prop := (Lit.int .i64 x.1).wf = true ∧ (Lit.int .u64 x.2.1).wf = true ∧ (Lit.int .i64 x.2.2.1).wf = true ∧ (Lit.int .i64 x.2.2.2).wf = true
theorem cv_inj {x y : Cc} (h : cv x = cv y) : x = y := by
  unfold cv at h
  injection h with h
  obtain ⟨x1, x2, x3, x4⟩ := x
  obtain ⟨y1, y2, y3, y4⟩ := y
  simp at h
  simp [h]
theorem keyedC : Keyed Tryd.prog 114 := Keyed.of_law (deep_law_laid (by kernel_rfl) (m := 4) (by omega) (of_decide_eq_true (by kernel_rfl)) (by kernel_rfl) (by kernel_rfl))
theorem keyTypeC : Tryd.prog.keyType 114 = true := by kernel_rfl
theorem formedC (a b c d : Int) : (Value.agg #[.int .i64 a, .int .u64 b, .int .i64 c, .int .i64 d]).formed Tryd.prog 114 = true := by kernel_rfl
theorem litsC (a b c e : Int) (h : okC (a, b, c, e)) : Tryd.prog.keyLits (Tryd.prog.types.size + 1) 114 [.int .i64 a, .int .u64 b, .int .i64 c, .int .i64 e] = some [.int .i64 a, .int .u64 b, .int .i64 c, .int .i64 e] := by
  obtain ⟨d, hd⟩ : ∃ d, Tryd.prog.types.size = d + 1 + 1 := ⟨Tryd.prog.types.size - 2, (by kernel_rfl : Tryd.prog.types.size = Tryd.prog.types.size - 2 + 1 + 1)⟩
  have c0 : Tryd.prog.cellsOf 114 = 4 := by kernel_rfl
  have c1 : Tryd.prog.cellsOf 27 = 2 := by kernel_rfl
  have c4 : Tryd.prog.cellsOf 52 = 2 := by kernel_rfl
  have c2 : Tryd.prog.cellsOf 3 = 1 := by kernel_rfl
  have c3 : Tryd.prog.cellsOf 23 = 1 := by kernel_rfl
  obtain ⟨h1, h2, h3, h4⟩ := h
  simp only [] at h1 h2 h3 h4
  rw [hd]
  simp [Program.keyLits, Tryd.underlying114, Tryd.underlying52, Tryd.underlying27, Tryd.underlying3, Tryd.underlying23, c0, c1, c2, c3, c4, h1, h2, h3, h4]
  rw [if_pos (by decide), if_pos (by decide)]
  rfl
theorem keyC (x : Cc) (h : okC x) : ∃ l, keyOf Tryd.prog 114 (cv x) = some l := by
  refine ⟨.string (keyBytes [.int .i64 x.1, .int .u64 x.2.1, .int .i64 x.2.2.1, .int .i64 x.2.2.2]), ?_⟩
  simp only [keyOf, Tryd.underlying114]
  rw [if_pos (by simp [keyTypeC, cv, formedC])]
  show ((Tryd.prog.keyLits (Tryd.prog.types.size + 1) 114 [.int .i64 x.1, .int .u64 x.2.1, .int .i64 x.2.2.1, .int .i64 x.2.2.2]).map _) = _
  rw [litsC x.1 x.2.1 x.2.2.1 x.2.2.2 h]
  rfl

/-- A waiter's value. -/
def wv (x : Wt) : Value := .agg #[.int .i64 x.1, .int .i64 x.2]
/-- Block m is a map of just these claims to these waiters. -/
def WMp (w : World) (m : Nat) (L : List (Cc × Wt)) : Prop :=
  ∃ es cl, w.heap[m]? = some (.map es cl) ∧ es.toList.map (fun x => (x.key, x.val)) = L.map (fun x => (cv x.1, wv x.2)) ∧ MapKept.Stamped es cl ∧ (∀ x ∈ L, okC x.1)
theorem WMp.lt {w : World} {m : Nat} {L : List (Cc × Wt)} (h : WMp w m L) : m < w.heap.size := by
  obtain ⟨es, cl, h, -⟩ := h
  exact lt_of_heap h
theorem WMp.kept {w w' : World} {m : Nat} {L : List (Cc × Wt)} (h : WMp w m L) (hb : w'.heap[m]? = w.heap[m]?) : WMp w' m L := by
  obtain ⟨es, cl, h1, h2⟩ := h
  exact ⟨es, cl, hb.trans h1, h2⟩
theorem WMp.kp {S : List Nat} {w w' : World} {m : Nat} {L : List (Cc × Wt)} (h : WMp w m L) (hk : Kp S w w') (hn : m ∉ S) : WMp w' m L := h.kept (hk.block m h.lt hn)
theorem WMp.below {w w' : World} {m : Nat} {L : List (Cc × Wt)} (h : WMp w m L) (hb : Below w.heap.size w w') : WMp w' m L := h.kept (hb.block m h.lt)
theorem WMp.made (w : World) : WMp (w.alloc (.map #[] 0)) w.heap.size [] := ⟨#[], 0, heap_new w _, rfl, MapKept.stamped_empty 0, by simp⟩
theorem WMp.off {w : World} {m b : Nat} {L : List (Cc × Wt)} {cs : Array Value} {t : TypeId} (h : WMp w m L) (hb : IsB w b cs t) : b ≠ m := by
  rintro rfl
  obtain ⟨es, cl, h, -⟩ := h
  unfold IsB at hb
  rw [h] at hb
  cases hb
theorem WMp.nodup {w : World} {m : Nat} {L : List (Cc × Wt)} (h : WMp w m L) : (L.map (·.1)).Nodup := by
  obtain ⟨es, cl, h1, h2, h3, h4⟩ := h
  have h5 : es.toList.Pairwise (fun x y => x.key ≠ y.key) := ((MapKept.stamped_iff es cl).1 h3).2.2
  have h6 : (es.toList.map (fun x => (x.key, x.val))).Pairwise (fun x y => x.1 ≠ y.1) := by rw [List.pairwise_map]; exact h5
  rw [h2, List.pairwise_map] at h6
  unfold List.Nodup
  rw [List.pairwise_map]
  exact h6.imp fun h e => h (by show cv _ = cv _; rw [e])
theorem WMp.one {w : World} {m : Nat} {L : List (Cc × Wt)} (h : WMp w m L) {x y : Cc × Wt} (hx : x ∈ L) (hy : y ∈ L) (he : x.1 = y.1) : x = y := by
  have hn := h.nodup
  clear h
  induction L with
  | nil => cases hx
  | cons a t ih =>
    simp only [List.map_cons, List.nodup_cons, List.mem_map] at hn
    rcases List.mem_cons.1 hx with hx1 | hx1 <;> rcases List.mem_cons.1 hy with hy1 | hy1
    · rw [hx1, hy1]
    · exact absurd ⟨y, hy1, by rw [← he, hx1]⟩ hn.1
    · exact absurd ⟨x, hx1, by rw [he, hy1]⟩ hn.1
    · exact ih hx1 hy1 hn.2

theorem mapTC : Tryd.prog.underlying 75 = some (.map 114 116) := Tryd.underlying75
theorem zeroC (w : World) : (zeroValue 116).run Tryd.prog w = .ok (.agg #[.int .i64 0, .int .i64 0]) w := by kernel_rfl
/-- What is found. -/
theorem WMp.find {w : World} {m : Nat} {L : List (Cc × Wt)} (h : WMp w m L) (v : Cc) (hv : okC v) : ∃ es cl, w.heap[m]? = some (.map es cl) ∧ es.toList.map (fun x => (x.key, x.val)) = L.map (fun x => (cv x.1, wv x.2)) ∧ MapKept.Stamped es cl ∧
    (∀ (e : Bool), (Instr.checkKey e 10000 114 (cv v)).run Tryd.prog w = .ok () w) ∧ (Instr.keyThatStays (cv v) (cv v)).run Tryd.prog w = .ok (cv v) w ∧
    (((Instr.findKey 114 (cv v) es.toList).run Tryd.prog w = .ok none w ∧ (∀ e ∈ es.toList, e.key ≠ cv v) ∧ ∀ x ∈ L, x.1 ≠ v) ∨
     ∃ j e r, (Instr.findKey 114 (cv v) es.toList).run Tryd.prog w = .ok (some (j, wv r)) w ∧ es.toList[j]? = some e ∧ e.key = cv v ∧ e.val = wv r ∧ L[j]? = some (v, r)) := by
  obtain ⟨es, cl, h1, h2, h3, h4⟩ := h
  obtain ⟨kl, hk⟩ := keyC v hv
  have hmem : ∀ e ∈ es.toList, ∃ x ∈ L, e.key = cv x.1 ∧ e.val = wv x.2 := by
    intro e he
    have : (e.key, e.val) ∈ L.map (fun x => (cv x.1, wv x.2)) := by rw [← h2]; exact List.mem_map.2 ⟨e, he, rfl⟩
    obtain ⟨x, hx, e1⟩ := List.mem_map.1 this
    injection e1 with e1 e2
    exact ⟨x, hx, e1.symm, e2.symm⟩
  refine ⟨es, cl, h1, h2, h3, fun e => keyedC.check w e hk, keyedC.stays w hk, ?_⟩
  rcases keyedC.find w hk es.toList (fun e he => by obtain ⟨x, hx, e1, -⟩ := hmem e he; rw [e1]; exact keyC x.1 (h4 x hx)) with ⟨f1, f2⟩ | ⟨j, e, f1, f2, f3⟩
  · refine Or.inl ⟨f1, f2, fun x hx e => ?_⟩
    have : (cv x.1, wv x.2) ∈ es.toList.map (fun x => (x.key, x.val)) := by rw [h2]; exact List.mem_map.2 ⟨x, hx, rfl⟩
    obtain ⟨e', he', e1⟩ := List.mem_map.1 this
    injection e1 with e1 e2
    exact f2 e' he' (by rw [e1, e])
  · have g1 : (es.toList.map (fun x => (x.key, x.val)))[j]? = some (e.key, e.val) := by simp [f2]
    rw [h2, List.getElem?_map] at g1
    obtain ⟨x, hx, e1⟩ := Option.map_eq_some_iff.1 g1
    injection e1 with e1 e2
    have hxv : x.1 = v := cv_inj (e1.trans f3)
    refine Or.inr ⟨j, e, x.2, ?_, f2, f3, e2.symm, ?_⟩
    · rw [f1, ← e2]
    · rw [hx, ← hxv]
theorem WMp.look_no {w : World} {m : Nat} {L : List (Cc × Wt)} (h : WMp w m L) (v : Cc) (hv : okC v) (hn : ∀ x ∈ L, x.1 ≠ v) : (Instr.lookup 75 (.map (some m)) (cv v) false).run Tryd.prog w = .ok (.agg #[.int .i64 0, .int .i64 0]) w := by
  obtain ⟨es, cl, h1, h2, h3, hc, hs, ⟨f1, -, -⟩ | ⟨j, e, r, -, -, -, -, hj⟩⟩ := h.find v hv
  · simp [Instr.lookup, run_underlying mapTC, MapKept.run_getObj_map h1, hc, f1, Result.andThen]
  · exact absurd rfl (hn _ (List.mem_of_getElem? hj))
theorem WMp.look_in {w : World} {m : Nat} {L : List (Cc × Wt)} (h : WMp w m L) (v : Cc) (hv : okC v) (r : Wt) (hn : (v, r) ∈ L) : (Instr.lookup 75 (.map (some m)) (cv v) false).run Tryd.prog w = .ok (wv r) w := by
  have h' := h
  obtain ⟨es, cl, h1, h2, h3, hc, hs, ⟨-, -, f2⟩ | ⟨j, e, s, f1, -, -, -, hj⟩⟩ := h.find v hv
  · exact absurd rfl (f2 _ hn)
  · have hsr : s = r := congrArg Prod.snd (h'.one (List.mem_of_getElem? hj) hn rfl)
    subst hsr
    clear hn h' hj
    generalize wv s = u at *
    simp [Instr.lookup, run_underlying mapTC, MapKept.run_getObj_map h1, hc, f1, Result.andThen]
theorem WMp.look_no2 {w : World} {m : Nat} {L : List (Cc × Wt)} (h : WMp w m L) (v : Cc) (hv : okC v) (hn : ∀ x ∈ L, x.1 ≠ v) : (Instr.lookup 75 (.map (some m)) (cv v) true).run Tryd.prog w = .ok (.tuple #[.agg #[.int .i64 0, .int .i64 0], .bool false]) w := by
  obtain ⟨es, cl, h1, h2, h3, hc, hs, ⟨f1, -, -⟩ | ⟨j, e, r, -, -, -, -, hj⟩⟩ := h.find v hv
  · simp [Instr.lookup, run_underlying mapTC, MapKept.run_getObj_map h1, hc, f1, Result.andThen]
  · exact absurd rfl (hn _ (List.mem_of_getElem? hj))
theorem WMp.look_in2 {w : World} {m : Nat} {L : List (Cc × Wt)} (h : WMp w m L) (v : Cc) (hv : okC v) (r : Wt) (hn : (v, r) ∈ L) : (Instr.lookup 75 (.map (some m)) (cv v) true).run Tryd.prog w = .ok (.tuple #[wv r, .bool true]) w := by
  have h' := h
  obtain ⟨es, cl, h1, h2, h3, hc, hs, ⟨-, -, f2⟩ | ⟨j, e, s, f1, -, -, -, hj⟩⟩ := h.find v hv
  · exact absurd rfl (f2 _ hn)
  · have hsr : s = r := congrArg Prod.snd (h'.one (List.mem_of_getElem? hj) hn rfl)
    subst hsr
    clear hn h' hj
    generalize wv s = u at *
    simp [Instr.lookup, run_underlying mapTC, MapKept.run_getObj_map h1, hc, f1, Result.andThen]


theorem WMp.put_new {w : World} {m : Nat} {L : List (Cc × Wt)} (h : WMp w m L) (v : Cc) (hv : okC v) (r : Wt) (hn : ∀ x ∈ L, x.1 ≠ v) : ∃ w', (Instr.mapUpdate 75 (.map (some m)) (cv v) (wv r)).run Tryd.prog w = .ok () w' ∧ WMp w' m (L ++ [(v, r)]) ∧ w.grownBy w' (some m) := by
  have hlt := h.lt
  have hok := h.choose_spec.choose_spec.2.2.2
  obtain ⟨es, cl, h1, h2, h3, hc, hs, ⟨f1, f2, -⟩ | ⟨j, e, s, -, -, -, -, hj⟩⟩ := h.find v hv
  · refine ⟨setBlock w m (.map (es.push ⟨cv v, wv r, cl⟩) (cl + 1)), ?_, ⟨_, _, heap_setBlock _ hlt, ?_, MapKept.stamped_push h3 f2, ?_⟩, grown_setBlock w m _⟩
    · simp [Instr.mapUpdate, run_underlying mapTC, MapKept.run_getObj_map h1, hc, f1, MapKept.run_setObj_map _ h1, Result.andThen, setBlock]
    · simp [h2]
    · intro x hx
      rcases List.mem_append.1 hx with hx | hx
      · exact hok x hx
      · simp at hx
        rw [hx]
        exact hv
  · exact absurd rfl (hn _ (List.mem_of_getElem? hj))
theorem WMp.put_same {w : World} {m : Nat} {L : List (Cc × Wt)} (h : WMp w m L) (v : Cc) (hv : okC v) (r : Wt) (hn : (v, r) ∈ L) : ∃ w', (Instr.mapUpdate 75 (.map (some m)) (cv v) (wv r)).run Tryd.prog w = .ok () w' ∧ WMp w' m L ∧ w.grownBy w' (some m) := by
  have h' := h
  have hlt := h.lt
  have hok := h.choose_spec.choose_spec.2.2.2
  obtain ⟨es, cl, h1, h2, h3, hc, hs, ⟨-, -, f2⟩ | ⟨j, e, s, f1, f2, f3, f4, hj⟩⟩ := h.find v hv
  · exact absurd rfl (f2 _ hn)
  · have hsr : s = r := congrArg Prod.snd (h'.one (List.mem_of_getElem? hj) hn rfl)
    subst hsr
    have hj' : es[j]? = some e := by simpa using f2
    have hl : (es.modify j fun x => { x with key := cv v, val := wv s }).toList = es.toList := by
      rw [Array.toList_modify]
      apply List.ext_getElem?
      intro i
      rw [List.getElem?_modify]
      by_cases hij : j = i
      · subst hij
        rw [f2]
        simp
        rw [← f3, ← f4]
      · simp [hij]
    have he : (es.modify j fun x => { x with key := cv v, val := wv s }) = es := Array.toList_inj.1 hl
    refine ⟨setBlock w m (.map es cl), ?_, ⟨_, _, heap_setBlock _ hlt, h2, h3, hok⟩, grown_setBlock w m _⟩
    simp [Instr.mapUpdate, run_underlying mapTC, MapKept.run_getObj_map h1, hc, f1, hj', f3, hs, MapKept.run_setObj_map _ h1, Result.andThen, setBlock, he]
theorem eraseIdx_filterC : ∀ (L : List (Cc × Wt)) (j : Nat) (v : Cc) (r : Wt), (L.map (·.1)).Nodup → L[j]? = some (v, r) → L.eraseIdx j = L.filter (fun x => decide (x.1 ≠ v))
  | [], _, _, _, _, h => by simp at h
  | a :: t, 0, v, r, hn, h => by
    simp at h
    subst h
    simp only [List.map_cons, List.nodup_cons, List.mem_map, not_exists, not_and] at hn
    simp
    exact (List.filter_eq_self.2 (fun x hx => by simp; exact fun e => hn.1 x hx e)).symm
  | a :: t, j + 1, v, r, hn, h => by
    simp only [List.map_cons, List.nodup_cons, List.mem_map, not_exists, not_and] at hn
    have hm : (v, r) ∈ t := List.mem_of_getElem? (by simpa using h)
    have : a.1 ≠ v := fun e => hn.1 _ hm e.symm
    simp [this, eraseIdx_filterC t j v r hn.2 (by simpa using h)]
theorem WMp.drop {w : World} {m : Nat} {L : List (Cc × Wt)} (h : WMp w m L) (v : Cc) (hv : okC v) (ty : TypeId) : ∃ w', (Builtin.delete_ #[75, 114] ty #[.map (some m), cv v]).run Tryd.prog w = .ok (.tuple #[]) w' ∧ WMp w' m (L.filter (fun x => decide (x.1 ≠ v))) ∧ w.grownBy w' (some m) := by
  have hlt := h.lt
  have hnd := h.nodup
  have hok := h.choose_spec.choose_spec.2.2.2
  have hok2 : ∀ x ∈ L.filter (fun x => decide (x.1 ≠ v)), okC x.1 := fun x hx => hok x (List.mem_filter.1 hx).1
  obtain ⟨es, cl, h1, h2, h3, hc, hs, ⟨f1, -, f2⟩ | ⟨j, e, s, f1, f2, f3, f4, hj⟩⟩ := h.find v hv
  · refine ⟨setBlock w m (.map es cl), ?_, ⟨_, _, heap_setBlock _ hlt, ?_, h3, hok2⟩, grown_setBlock w m _⟩
    · simp [Builtin.delete_, run_underlying mapTC, MapKept.run_getObj_map h1, hc, f1, MapKept.run_setObj_map _ h1, Result.andThen, setBlock]
    · rw [h2, List.filter_eq_self.2 (fun x hx => by simpa using f2 x hx)]
  · have hjs : j < es.size := by simpa using (List.getElem?_eq_some_iff.1 f2).1
    have hsub : (es.eraseIdxIfInBounds j).toList = es.toList.eraseIdx j := by
      unfold Array.eraseIdxIfInBounds
      rw [dif_pos hjs]
      simp
    refine ⟨setBlock w m (.map (es.eraseIdxIfInBounds j) cl), ?_, ⟨_, _, heap_setBlock _ hlt, ?_, MapKept.stamped_erase h3 j, hok2⟩, grown_setBlock w m _⟩
    · simp [Builtin.delete_, run_underlying mapTC, MapKept.run_getObj_map h1, hc, f1, MapKept.run_setObj_map _ h1, Result.andThen, setBlock]
    · rw [hsub, ← eraseIdx_filterC L j v s hnd hj, map_eraseIdx, map_eraseIdx, h2]

end Go.Proofs.YtdogdinkopocaaaDoor
