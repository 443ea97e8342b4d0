/- A map whose keys are vectors and whose values are pointers: looked up, stored into, taken out of. -/
import Derived.Test.YtdogdinkopocaaaDoorKV
import Derived.DeepKeys4
import Derived.Maps.Keyed
namespace Go.Proofs.YtdogdinkopocaaaDoor
open Go.RowKit Go.Maps Go.ChangeMaps

abbrev Vc := Int × Int
/-- A vector's value. -/
def vv (x : Vc) : Value := (.agg #[.int .i64 (x.1), .int .u64 (x.2)])
/-- Its numbers are those of machines. -/
def okV (x : Vc) : Prop := (Lit.int .i64 x.1).wf = true ∧ (Lit.int .u64 x.2).wf = true
theorem vv_inj {x y : Vc} (h : vv x = vv y) : x = y := by
  unfold vv at h
  injection h with h
  obtain ⟨x1, x2⟩ := x
  obtain ⟨y1, y2⟩ := y
  simp at h
  simp [h]
theorem keyedV : Keyed Tryd.prog 27 := Keyed.of_law (deep_law_laid (by kernel_rfl) (m := 2) (by omega) (of_decide_eq_true (by kernel_rfl)) (by kernel_rfl) (by kernel_rfl))
theorem keyTypeV : Tryd.prog.keyType 27 = true := by kernel_rfl
theorem formedV (n b : Int) : ((.agg #[.int .i64 (n), .int .u64 (b)]) : Value).formed Tryd.prog 27 = true := by kernel_rfl
theorem litsV (n b : Int) (h : okV (n, b)) : Tryd.prog.keyLits (Tryd.prog.types.size + 1) 27 [.int .i64 n, .int .u64 b] = some [.int .i64 n, .int .u64 b] := by
  obtain ⟨d, hd⟩ : ∃ d, Tryd.prog.types.size = d + 1 := ⟨Tryd.prog.types.size - 1, (by kernel_rfl : Tryd.prog.types.size = Tryd.prog.types.size - 1 + 1)⟩
  have c1 : Tryd.prog.cellsOf 27 = 2 := by kernel_rfl
  have c2 : Tryd.prog.cellsOf 3 = 1 := by kernel_rfl
  have c3 : Tryd.prog.cellsOf 23 = 1 := by kernel_rfl
  rw [hd]
  simp [Program.keyLits, Tryd.underlying27, Tryd.underlying3, Tryd.underlying23, c1, c2, c3, h.1, h.2]
theorem keyV (x : Vc) (h : okV x) : ∃ l, keyOf Tryd.prog 27 (vv x) = some l := by
  refine ⟨.string (keyBytes [.int .i64 x.1, .int .u64 x.2]), ?_⟩
  simp only [keyOf, Tryd.underlying27]
  rw [if_pos (by simp [keyTypeV, vv, formedV])]
  show ((Tryd.prog.keyLits (Tryd.prog.types.size + 1) 27 [.int .i64 x.1, .int .u64 x.2]).map _) = _
  rw [litsV x.1 x.2 h]
  rfl

/-- A record's pointer. -/
def rp (r : Nat) : Value := .pointer (some ⟨r, 0, none⟩)
theorem rp_inj {r s : Nat} (h : rp r = rp s) : r = s := by
  unfold rp at h
  injection h with h
  injection h with h
  injection h
/-- Block m is a map of just these vectors to these records. -/
def VMp (w : World) (m : Nat) (L : List (Vc × Nat)) : Prop :=
  ∃ es cl, w.heap[m]? = some (.map es cl) ∧ es.toList.map (fun x => (x.key, x.val)) = L.map (fun x => (vv x.1, rp x.2)) ∧ MapKept.Stamped es cl ∧ (∀ x ∈ L, okV x.1)
theorem VMp.lt {w : World} {m : Nat} {L : List (Vc × Nat)} (h : VMp w m L) : m < w.heap.size := by
  obtain ⟨es, cl, h, -⟩ := h
  exact lt_of_heap h
theorem VMp.kept {w w' : World} {m : Nat} {L : List (Vc × Nat)} (h : VMp w m L) (hb : w'.heap[m]? = w.heap[m]?) : VMp w' m L := by
  obtain ⟨es, cl, h1, h2⟩ := h
  exact ⟨es, cl, hb.trans h1, h2⟩
theorem VMp.kp {S : List Nat} {w w' : World} {m : Nat} {L : List (Vc × Nat)} (h : VMp w m L) (hk : Kp S w w') (hn : m ∉ S) : VMp w' m L := h.kept (hk.block m h.lt hn)
theorem VMp.below {w w' : World} {m : Nat} {L : List (Vc × Nat)} (h : VMp w m L) (hb : Below w.heap.size w w') : VMp w' m L := h.kept (hb.block m h.lt)
theorem VMp.made (w : World) : VMp (w.alloc (.map #[] 0)) w.heap.size [] := ⟨#[], 0, heap_new w _, rfl, MapKept.stamped_empty 0, by simp⟩
theorem VMp.off {w : World} {m b : Nat} {L : List (Vc × Nat)} {cs : Array Value} {t : TypeId} (h : VMp w m L) (hb : IsB w b cs t) : b ≠ m := by
  rintro rfl
  obtain ⟨es, cl, h, -⟩ := h
  unfold IsB at hb
  rw [h] at hb
  cases hb
theorem VMp.nodup {w : World} {m : Nat} {L : List (Vc × Nat)} (h : VMp w m L) : (L.map (·.1)).Nodup := by
  obtain ⟨es, cl, h1, h2, h3, h4⟩ := h
  have h5 : es.toList.Pairwise (fun x y => x.key ≠ y.key) := ((MapKept.stamped_iff es cl).1 h3).2.2
  have h6 : (es.toList.map (fun x => (x.key, x.val))).Pairwise (fun x y => x.1 ≠ y.1) := by rw [List.pairwise_map]; exact h5
  rw [h2, List.pairwise_map] at h6
  unfold List.Nodup
  rw [List.pairwise_map]
  exact h6.imp fun h e => h (by show vv _ = vv _; rw [e])
theorem VMp.one {w : World} {m : Nat} {L : List (Vc × Nat)} (h : VMp w m L) {x y : Vc × Nat} (hx : x ∈ L) (hy : y ∈ L) (he : x.1 = y.1) : x = y := by
  have hn := h.nodup
  clear h
  induction L with
  | nil => cases hx
  | cons a t ih =>
    simp only [List.map_cons, List.nodup_cons, List.mem_map] at hn
    rcases List.mem_cons.1 hx with hx1 | hx1 <;> rcases List.mem_cons.1 hy with hy1 | hy1
    · rw [hx1, hy1]
    · exact absurd ⟨y, hy1, by rw [← he, hx1]⟩ hn.1
    · exact absurd ⟨x, hx1, by rw [he, hy1]⟩ hn.1
    · exact ih hx1 hy1 hn.2

theorem mapT : Tryd.prog.underlying 96 = some (.map 27 122) := Tryd.underlying96
theorem zeroP (w : World) : (zeroValue 122).run Tryd.prog w = .ok (.pointer none) w := by kernel_rfl
/-- What is found. -/
theorem VMp.find {w : World} {m : Nat} {L : List (Vc × Nat)} (h : VMp w m L) (v : Vc) (hv : okV v) : ∃ es cl, w.heap[m]? = some (.map es cl) ∧ es.toList.map (fun x => (x.key, x.val)) = L.map (fun x => (vv x.1, rp x.2)) ∧ MapKept.Stamped es cl ∧
    (∀ (e : Bool), (Instr.checkKey e 10000 27 (vv v)).run Tryd.prog w = .ok () w) ∧ (Instr.keyThatStays (vv v) (vv v)).run Tryd.prog w = .ok (vv v) w ∧
    (((Instr.findKey 27 (vv v) es.toList).run Tryd.prog w = .ok none w ∧ (∀ e ∈ es.toList, e.key ≠ vv v) ∧ ∀ x ∈ L, x.1 ≠ v) ∨
     ∃ j e r, (Instr.findKey 27 (vv v) es.toList).run Tryd.prog w = .ok (some (j, rp r)) w ∧ es.toList[j]? = some e ∧ e.key = vv v ∧ e.val = rp r ∧ L[j]? = some (v, r)) := by
  obtain ⟨es, cl, h1, h2, h3, h4⟩ := h
  obtain ⟨kl, hk⟩ := keyV v hv
  have hmem : ∀ e ∈ es.toList, ∃ x ∈ L, e.key = vv x.1 ∧ e.val = rp x.2 := by
    intro e he
    have : (e.key, e.val) ∈ L.map (fun x => (vv x.1, rp x.2)) := by rw [← h2]; exact List.mem_map.2 ⟨e, he, rfl⟩
    obtain ⟨x, hx, e1⟩ := List.mem_map.1 this
    injection e1 with e1 e2
    exact ⟨x, hx, e1.symm, e2.symm⟩
  refine ⟨es, cl, h1, h2, h3, fun e => keyedV.check w e hk, keyedV.stays w hk, ?_⟩
  rcases keyedV.find w hk es.toList (fun e he => by obtain ⟨x, hx, e1, -⟩ := hmem e he; rw [e1]; exact keyV x.1 (h4 x hx)) with ⟨f1, f2⟩ | ⟨j, e, f1, f2, f3⟩
  · refine Or.inl ⟨f1, f2, fun x hx e => ?_⟩
    have : (vv x.1, rp x.2) ∈ es.toList.map (fun x => (x.key, x.val)) := by rw [h2]; exact List.mem_map.2 ⟨x, hx, rfl⟩
    obtain ⟨e', he', e1⟩ := List.mem_map.1 this
    injection e1 with e1 e2
    exact f2 e' he' (by rw [e1, e])
  · have g1 : (es.toList.map (fun x => (x.key, x.val)))[j]? = some (e.key, e.val) := by simp [f2]
    rw [h2, List.getElem?_map] at g1
    obtain ⟨x, hx, e1⟩ := Option.map_eq_some_iff.1 g1
    injection e1 with e1 e2
    have hxv : x.1 = v := vv_inj (e1.trans f3)
    refine Or.inr ⟨j, e, x.2, ?_, f2, f3, e2.symm, ?_⟩
    · rw [f1, ← e2]
    · rw [hx, ← hxv]
theorem VMp.look_no {w : World} {m : Nat} {L : List (Vc × Nat)} (h : VMp w m L) (v : Vc) (hv : okV v) (hn : ∀ x ∈ L, x.1 ≠ v) : (Instr.lookup 96 (.map (some m)) (vv v) false).run Tryd.prog w = .ok (.pointer none) w := by
  obtain ⟨es, cl, h1, h2, h3, hc, hs, ⟨f1, -, -⟩ | ⟨j, e, r, -, -, -, -, hj⟩⟩ := h.find v hv
  · simp [Instr.lookup, run_underlying mapT, MapKept.run_getObj_map h1, hc, f1, Result.andThen]
  · exact absurd rfl (hn _ (List.mem_of_getElem? hj))
theorem VMp.look_in {w : World} {m : Nat} {L : List (Vc × Nat)} (h : VMp w m L) (v : Vc) (hv : okV v) (r : Nat) (hn : (v, r) ∈ L) : (Instr.lookup 96 (.map (some m)) (vv v) false).run Tryd.prog w = .ok (rp r) w := by
  have h' := h
  obtain ⟨es, cl, h1, h2, h3, hc, hs, ⟨-, -, f2⟩ | ⟨j, e, s, f1, -, -, -, hj⟩⟩ := h.find v hv
  · exact absurd rfl (f2 _ hn)
  · have hsr : s = r := congrArg Prod.snd (h'.one (List.mem_of_getElem? hj) hn rfl)
    subst hsr
    clear hn h' hj
    generalize rp s = u at *
    simp [Instr.lookup, run_underlying mapT, MapKept.run_getObj_map h1, hc, f1, Result.andThen]
theorem grown_setBlock (w : World) (m : Nat) (o : Obj) : w.grownBy (setBlock w m o) (some m) := by
  refine ⟨rfl, rfl, rfl, by simp [setBlock], fun k hk hn => ?_⟩
  simp only [setBlock]
  rw [Array.getElem?_setIfInBounds_ne (fun e => hn (by rw [e]))]
theorem heap_setBlock {w : World} {m : Nat} (o : Obj) (h : m < w.heap.size) : (setBlock w m o).heap[m]? = some o := by
  simp [setBlock, h]
theorem VMp.put_new {w : World} {m : Nat} {L : List (Vc × Nat)} (h : VMp w m L) (v : Vc) (hv : okV v) (r : Nat) (hn : ∀ x ∈ L, x.1 ≠ v) : ∃ w', (Instr.mapUpdate 96 (.map (some m)) (vv v) (rp r)).run Tryd.prog w = .ok () w' ∧ VMp w' m (L ++ [(v, r)]) ∧ w.grownBy w' (some m) := by
  have hlt := h.lt
  have hok := h.choose_spec.choose_spec.2.2.2
  obtain ⟨es, cl, h1, h2, h3, hc, hs, ⟨f1, f2, -⟩ | ⟨j, e, s, -, -, -, -, hj⟩⟩ := h.find v hv
  · refine ⟨setBlock w m (.map (es.push ⟨vv v, rp r, cl⟩) (cl + 1)), ?_, ⟨_, _, heap_setBlock _ hlt, ?_, MapKept.stamped_push h3 f2, ?_⟩, grown_setBlock w m _⟩
    · simp [Instr.mapUpdate, run_underlying mapT, MapKept.run_getObj_map h1, hc, f1, MapKept.run_setObj_map _ h1, Result.andThen, setBlock]
    · simp [h2]
    · intro x hx
      rcases List.mem_append.1 hx with hx | hx
      · exact hok x hx
      · simp at hx
        rw [hx]
        exact hv
  · exact absurd rfl (hn _ (List.mem_of_getElem? hj))
theorem VMp.put_same {w : World} {m : Nat} {L : List (Vc × Nat)} (h : VMp w m L) (v : Vc) (hv : okV v) (r : Nat) (hn : (v, r) ∈ L) : ∃ w', (Instr.mapUpdate 96 (.map (some m)) (vv v) (rp r)).run Tryd.prog w = .ok () w' ∧ VMp w' m L ∧ w.grownBy w' (some m) := by
  have h' := h
  have hlt := h.lt
  have hok := h.choose_spec.choose_spec.2.2.2
  obtain ⟨es, cl, h1, h2, h3, hc, hs, ⟨-, -, f2⟩ | ⟨j, e, s, f1, f2, f3, f4, hj⟩⟩ := h.find v hv
  · exact absurd rfl (f2 _ hn)
  · have hsr : s = r := congrArg Prod.snd (h'.one (List.mem_of_getElem? hj) hn rfl)
    subst hsr
    have hj' : es[j]? = some e := by simpa using f2
    have hl : (es.modify j fun x => { x with key := vv v, val := rp s }).toList = es.toList := by
      rw [Array.toList_modify]
      apply List.ext_getElem?
      intro i
      rw [List.getElem?_modify]
      by_cases hij : j = i
      · subst hij
        rw [f2]
        simp
        rw [← f3, ← f4]
      · simp [hij]
    have he : (es.modify j fun x => { x with key := vv v, val := rp s }) = es := Array.toList_inj.1 hl
    refine ⟨setBlock w m (.map es cl), ?_, ⟨_, _, heap_setBlock _ hlt, h2, h3, hok⟩, grown_setBlock w m _⟩
    simp [Instr.mapUpdate, run_underlying mapT, MapKept.run_getObj_map h1, hc, f1, hj', f3, hs, MapKept.run_setObj_map _ h1, Result.andThen, setBlock, he]
theorem eraseIdx_filter : ∀ (L : List (Vc × Nat)) (j : Nat) (v : Vc) (r : Nat), (L.map (·.1)).Nodup → L[j]? = some (v, r) → L.eraseIdx j = L.filter (fun x => decide (x.1 ≠ v))
  | [], _, _, _, _, h => by simp at h
  | a :: t, 0, v, r, hn, h => by
    simp at h
    subst h
    simp only [List.map_cons, List.nodup_cons, List.mem_map, not_exists, not_and] at hn
    simp
    exact (List.filter_eq_self.2 (fun x hx => by simp; exact fun e => hn.1 x hx e)).symm
  | a :: t, j + 1, v, r, hn, h => by
    simp only [List.map_cons, List.nodup_cons, List.mem_map, not_exists, not_and] at hn
    have hm : (v, r) ∈ t := List.mem_of_getElem? (by simpa using h)
    have : a.1 ≠ v := fun e => hn.1 _ hm e.symm
    simp [this, eraseIdx_filter t j v r hn.2 (by simpa using h)]
theorem VMp.drop {w : World} {m : Nat} {L : List (Vc × Nat)} (h : VMp w m L) (v : Vc) (hv : okV v) (ty : TypeId) : ∃ w', (Builtin.delete_ #[96, 27] ty #[.map (some m), vv v]).run Tryd.prog w = .ok (.tuple #[]) w' ∧ VMp w' m (L.filter (fun x => decide (x.1 ≠ v))) ∧ w.grownBy w' (some m) := by
  have hlt := h.lt
  have hnd := h.nodup
  have hok := h.choose_spec.choose_spec.2.2.2
  have hok2 : ∀ x ∈ L.filter (fun x => decide (x.1 ≠ v)), okV x.1 := fun x hx => hok x (List.mem_filter.1 hx).1
  obtain ⟨es, cl, h1, h2, h3, hc, hs, ⟨f1, -, f2⟩ | ⟨j, e, s, f1, f2, f3, f4, hj⟩⟩ := h.find v hv
  · refine ⟨setBlock w m (.map es cl), ?_, ⟨_, _, heap_setBlock _ hlt, ?_, h3, hok2⟩, grown_setBlock w m _⟩
    · simp [Builtin.delete_, run_underlying mapT, MapKept.run_getObj_map h1, hc, f1, MapKept.run_setObj_map _ h1, Result.andThen, setBlock]
    · rw [h2, List.filter_eq_self.2 (fun x hx => by simpa using f2 x hx)]
  · have hjs : j < es.size := by simpa using (List.getElem?_eq_some_iff.1 f2).1
    have hsub : (es.eraseIdxIfInBounds j).toList = es.toList.eraseIdx j := by
      unfold Array.eraseIdxIfInBounds
      rw [dif_pos hjs]
      simp
    refine ⟨setBlock w m (.map (es.eraseIdxIfInBounds j) cl), ?_, ⟨_, _, heap_setBlock _ hlt, ?_, MapKept.stamped_erase h3 j, hok2⟩, grown_setBlock w m _⟩
    · simp [Builtin.delete_, run_underlying mapT, MapKept.run_getObj_map h1, hc, f1, MapKept.run_setObj_map _ h1, Result.andThen, setBlock]
    · rw [hsub, ← eraseIdx_filter L j v s hnd hj, map_eraseIdx, map_eraseIdx, h2]

end Go.Proofs.YtdogdinkopocaaaDoor
