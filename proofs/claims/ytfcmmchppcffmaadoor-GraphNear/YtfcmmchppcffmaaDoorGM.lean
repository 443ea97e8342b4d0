/- A map whose keys are vectors: looked up, an entry of it made and stored into. -/
import Derived.Test.YtfcmmchppcffmaaDoorGF
import Derived.DeepKeys4
import Derived.Maps.Keyed
import Derived.WideKeyEntry
namespace Go.Proofs.YtfcmmchppcffmaaDoor
open Go.RowKit Go.Maps Go.ChangeMaps

abbrev Vc := Int × Int
/-- A vector's value. -/
def vv (x : Vc) : Value := (.agg #[.int .i64 (x.1), .int .u64 (x.2)])
/-- Its numbers are those of machines. -/
def okV (x : Vc) : Prop := (Lit.int .i64 x.1).wf = true ∧ (Lit.int .u64 x.2).wf = true
theorem vv_inj {x y : Vc} (h : vv x = vv y) : x = y := by
  unfold vv at h
  injection h with h
  obtain ⟨x1, x2⟩ := x
  obtain ⟨y1, y2⟩ := y
  simp at h
  simp [h]
theorem keyedV : Keyed Tryd.prog 28 := Keyed.of_law (deep_law_laid (by kernel_rfl) (m := 2) (by omega) (of_decide_eq_true (by kernel_rfl)) (by kernel_rfl) (by kernel_rfl))
theorem keyTypeV : Tryd.prog.keyType 28 = true := by kernel_rfl
theorem formedV (n b : Int) : ((.agg #[.int .i64 (n), .int .u64 (b)]) : Value).formed Tryd.prog 28 = true := by kernel_rfl
theorem litsV (n b : Int) (h : okV (n, b)) : Tryd.prog.keyLits (Tryd.prog.types.size + 1) 28 [.int .i64 n, .int .u64 b] = some [.int .i64 n, .int .u64 b] := by
  obtain ⟨d, hd⟩ : ∃ d, Tryd.prog.types.size = d + 1 := ⟨Tryd.prog.types.size - 1, (by kernel_rfl : Tryd.prog.types.size = Tryd.prog.types.size - 1 + 1)⟩
  have c1 : Tryd.prog.cellsOf 28 = 2 := by kernel_rfl
  have c2 : Tryd.prog.cellsOf 3 = 1 := by kernel_rfl
  have c3 : Tryd.prog.cellsOf 24 = 1 := by kernel_rfl
  rw [hd]
  simp [Program.keyLits, Tryd.underlying28, Tryd.underlying3, Tryd.underlying24, c1, c2, c3, h.1, h.2]
theorem keyV (x : Vc) (h : okV x) : ∃ l, keyOf Tryd.prog 28 (vv x) = some l := by
  refine ⟨.string (keyBytes [.int .i64 x.1, .int .u64 x.2]), ?_⟩
  simp only [keyOf, Tryd.underlying28]
  rw [if_pos (by simp [keyTypeV, vv, formedV])]
  show ((Tryd.prog.keyLits (Tryd.prog.types.size + 1) 28 [.int .i64 x.1, .int .u64 x.2]).map _) = _
  rw [litsV x.1 x.2 h]
  rfl

/-- Block m is a map of just these vectors to these values. -/
def MV (w : World) (m : Nat) (L : List (Vc × Value)) : Prop :=
  ∃ es cl, w.heap[m]? = some (.map es cl) ∧ es.toList.map (fun x => (x.key, x.val)) = L.map (fun x => (vv x.1, x.2)) ∧ MapKept.Stamped es cl ∧ (∀ x ∈ L, okV x.1)
theorem MV.lt {w : World} {m : Nat} {L : List (Vc × Value)} (h : MV w m L) : m < w.heap.size := by
  obtain ⟨es, cl, h, -⟩ := h
  exact lt_of_heap h
theorem MV.kept {w w' : World} {m : Nat} {L : List (Vc × Value)} (h : MV w m L) (hb : w'.heap[m]? = w.heap[m]?) : MV w' m L := by
  obtain ⟨es, cl, h1, h2⟩ := h
  exact ⟨es, cl, hb.trans h1, h2⟩
theorem MV.kp {S : List Nat} {w w' : World} {m : Nat} {L : List (Vc × Value)} (h : MV w m L) (hk : Kp S w w') (hn : m ∉ S) : MV w' m L := h.kept (hk.block m h.lt hn)
theorem MV.below {w w' : World} {m : Nat} {L : List (Vc × Value)} (h : MV w m L) (hb : Below w.heap.size w w') : MV w' m L := h.kept (hb.block m h.lt)
theorem MV.made (w : World) : MV (w.alloc (.map #[] 0)) w.heap.size [] := ⟨#[], 0, heap_new w _, rfl, MapKept.stamped_empty 0, by simp⟩
theorem MV.off {w : World} {m b : Nat} {L : List (Vc × Value)} {cs : Array Value} {t : TypeId} (h : MV w m L) (hb : IsB w b cs t) : b ≠ m := by
  rintro rfl
  obtain ⟨es, cl, h, -⟩ := h
  unfold IsB at hb
  rw [h] at hb
  cases hb
theorem MV.nodup {w : World} {m : Nat} {L : List (Vc × Value)} (h : MV w m L) : (L.map (·.1)).Nodup := by
  obtain ⟨es, cl, h1, h2, h3, h4⟩ := h
  have h5 : es.toList.Pairwise (fun x y => x.key ≠ y.key) := ((MapKept.stamped_iff es cl).1 h3).2.2
  have h6 : (es.toList.map (fun x => (x.key, x.val))).Pairwise (fun x y => x.1 ≠ y.1) := by rw [List.pairwise_map]; exact h5
  rw [h2, List.pairwise_map] at h6
  unfold List.Nodup
  rw [List.pairwise_map]
  exact h6.imp fun h e => h (by show vv _ = vv _; rw [e])
theorem MV.one {w : World} {m : Nat} {L : List (Vc × Value)} (h : MV w m L) {x y : Vc × Value} (hx : x ∈ L) (hy : y ∈ L) (he : x.1 = y.1) : x = y := by
  have hn := h.nodup
  clear h
  induction L with
  | nil => cases hx
  | cons a t ih =>
    simp only [List.map_cons, List.nodup_cons, List.mem_map] at hn
    rcases List.mem_cons.1 hx with hx1 | hx1 <;> rcases List.mem_cons.1 hy with hy1 | hy1
    · rw [hx1, hy1]
    · exact absurd ⟨y, hy1, by rw [← he, hx1]⟩ hn.1
    · exact absurd ⟨x, hx1, by rw [he, hy1]⟩ hn.1
    · exact ih hx1 hy1 hn.2

theorem mapT : Tryd.prog.underlying 70 = some (.map 28 22) := Tryd.underlying70
theorem zeroP (w : World) : (zeroValue 22).run Tryd.prog w = .ok (.slice none 0 0) w := by kernel_rfl
/-- What is found. -/
theorem MV.find {w : World} {m : Nat} {L : List (Vc × Value)} (h : MV w m L) (v : Vc) (hv : okV v) : ∃ es cl, w.heap[m]? = some (.map es cl) ∧ es.toList.map (fun x => (x.key, x.val)) = L.map (fun x => (vv x.1, x.2)) ∧ MapKept.Stamped es cl ∧
    (∀ (e : Bool), (Instr.checkKey e 10000 28 (vv v)).run Tryd.prog w = .ok () w) ∧ (Instr.keyThatStays (vv v) (vv v)).run Tryd.prog w = .ok (vv v) w ∧
    (((Instr.findKey 28 (vv v) es.toList).run Tryd.prog w = .ok none w ∧ (∀ e ∈ es.toList, e.key ≠ vv v) ∧ ∀ x ∈ L, x.1 ≠ v) ∨
     ∃ (j : Nat) (e : MapEntry) (r : Value), (Instr.findKey 28 (vv v) es.toList).run Tryd.prog w = .ok (some (j, r)) w ∧ es.toList[j]? = some e ∧ e.key = vv v ∧ e.val = r ∧ L[j]? = some (v, r)) := by
  obtain ⟨es, cl, h1, h2, h3, h4⟩ := h
  obtain ⟨kl, hk⟩ := keyV v hv
  have hmem : ∀ e ∈ es.toList, ∃ x ∈ L, e.key = vv x.1 ∧ e.val = x.2 := by
    intro e he
    have : (e.key, e.val) ∈ L.map (fun x => (vv x.1, x.2)) := by rw [← h2]; exact List.mem_map.2 ⟨e, he, rfl⟩
    obtain ⟨x, hx, e1⟩ := List.mem_map.1 this
    injection e1 with e1 e2
    exact ⟨x, hx, e1.symm, e2.symm⟩
  refine ⟨es, cl, h1, h2, h3, fun e => keyedV.check w e hk, keyedV.stays w hk, ?_⟩
  rcases keyedV.find w hk es.toList (fun e he => by obtain ⟨x, hx, e1, -⟩ := hmem e he; rw [e1]; exact keyV x.1 (h4 x hx)) with ⟨f1, f2⟩ | ⟨j, e, f1, f2, f3⟩
  · refine Or.inl ⟨f1, f2, fun x hx e => ?_⟩
    have : (vv x.1, x.2) ∈ es.toList.map (fun x => (x.key, x.val)) := by rw [h2]; exact List.mem_map.2 ⟨x, hx, rfl⟩
    obtain ⟨e', he', e1⟩ := List.mem_map.1 this
    injection e1 with e1 e2
    exact f2 e' he' (by rw [e1, e])
  · have g1 : (es.toList.map (fun x => (x.key, x.val)))[j]? = some (e.key, e.val) := by simp [f2]
    rw [h2, List.getElem?_map] at g1
    obtain ⟨x, hx, e1⟩ := Option.map_eq_some_iff.1 g1
    injection e1 with e1 e2
    have hxv : x.1 = v := vv_inj (e1.trans f3)
    refine Or.inr ⟨j, e, x.2, ?_, f2, f3, e2.symm, ?_⟩
    · rw [f1, ← e2]
    · rw [hx, ← hxv]
theorem MV.look_no {w : World} {m : Nat} {L : List (Vc × Value)} (h : MV w m L) (v : Vc) (hv : okV v) (hn : ∀ x ∈ L, x.1 ≠ v) : (Instr.lookup 70 (.map (some m)) (vv v) false).run Tryd.prog w = .ok (.slice none 0 0) w := by
  obtain ⟨es, cl, h1, h2, h3, hc, hs, ⟨f1, -, -⟩ | ⟨j, e, r, -, -, -, -, hj⟩⟩ := h.find v hv
  · simp [Instr.lookup, run_underlying mapT, MapKept.run_getObj_map h1, hc, f1, Result.andThen]
  · exact absurd rfl (hn _ (List.mem_of_getElem? hj))
theorem MV.look_in {w : World} {m : Nat} {L : List (Vc × Value)} (h : MV w m L) (v : Vc) (hv : okV v) (r : Value) (hn : (v, r) ∈ L) : (Instr.lookup 70 (.map (some m)) (vv v) false).run Tryd.prog w = .ok (r) w := by
  have h' := h
  obtain ⟨es, cl, h1, h2, h3, hc, hs, ⟨-, -, f2⟩ | ⟨j, e, s, f1, -, -, -, hj⟩⟩ := h.find v hv
  · exact absurd rfl (f2 _ hn)
  · have hsr : s = r := congrArg Prod.snd (h'.one (List.mem_of_getElem? hj) hn rfl)
    subst hsr
    clear hn h' hj
    simp [Instr.lookup, run_underlying mapT, MapKept.run_getObj_map h1, hc, f1, Result.andThen]
theorem grown_setBlock (w : World) (m : Nat) (o : Obj) : w.grownBy (setBlock w m o) (some m) := by
  refine ⟨rfl, rfl, rfl, by simp [setBlock], fun k hk hn => ?_⟩
  simp only [setBlock]
  rw [Array.getElem?_setIfInBounds_ne (fun e => hn (by rw [e]))]
theorem heap_setBlock {w : World} {m : Nat} (o : Obj) (h : m < w.heap.size) : (setBlock w m o).heap[m]? = some o := by
  simp [setBlock, h]

/-- What a map is behind an entry's storing. -/
def updE (E : List (Vc × Value)) (v : Vc) (val : Value) : List (Vc × Value) := if v ∈ E.map (·.1) then E.map (fun x => if x.1 = v then (v, val) else x) else E ++ [(v, val)]
theorem map_mod : ∀ (E : List (Vc × Value)) (j : Nat) (v : Vc) (u val : Value), (E.map (·.1)).Nodup → E[j]? = some (v, u) → E.modify j (fun x => (x.1, val)) = E.map (fun x => if x.1 = v then (v, val) else x)
  | [], j, v, u, val, _, h => by simp at h
  | a :: t, 0, v, u, val, hn, h => by
    simp at h
    subst h
    simp only [List.map_cons, List.nodup_cons, List.mem_map, not_exists, not_and] at hn
    simp
    have e : t.map (fun x => if x.1 = v then (v, val) else x) = t.map id := List.map_congr_left (fun x hx => by rw [if_neg (fun e => hn.1 x hx e)]; rfl)
    rw [e]
    simp
  | a :: t, j + 1, v, u, val, hn, h => by
    simp only [List.map_cons, List.nodup_cons, List.mem_map, not_exists, not_and] at hn
    have h2 : t[j]? = some (v, u) := by simpa using h
    have hne : a.1 ≠ v := fun e => hn.1 _ (List.mem_of_getElem? h2) e.symm
    simp [List.modify_succ_cons, map_mod t j v u val hn.2 h2, hne]
theorem MV.entry {w : World} {m : Nat} {E : List (Vc × Value)} (h : MV w m E) (v : Vc) (hv : okV v) :
    ∃ (v0 : Value) (st : Nat) (w1 : World), (Instr.mapEntry 70 (.map (some m)) (vv v)).run Tryd.prog w = .ok (.tuple #[v0, goInt st]) w1 ∧ w.grownBy w1 (some m) ∧
      ((v, v0) ∈ E ∨ ((∀ x ∈ E, x.1 ≠ v) ∧ v0 = .slice none 0 0)) ∧
      ∀ (w2 : World) (val : Value), w2.heap[m]? = w1.heap[m]? → ∃ w3, (Instr.entryStore 70 (.map (some m)) (goInt st) val).run Tryd.prog w2 = .ok () w3 ∧ MV w3 m (updE E v val) ∧ w2.grownBy w3 (some m) := by
  have hlt := h.lt
  have hnd := h.nodup
  have hok := h.choose_spec.choose_spec.2.2.2
  obtain ⟨es, cl, h1, h2, h3, hc, hs, ⟨f1, f2, f3⟩ | ⟨j, e, r, f1, f2, f3, f4, hj⟩⟩ := h.find v hv
  · obtain ⟨s1, s2, -⟩ := (MapKept.stamped_iff es cl).1 h3
    refine ⟨.slice none 0 0, cl, setBlock w m (.map (es.push ⟨vv v, .slice none 0 0, cl⟩) (cl + 1)), ?_, grown_setBlock w m _, Or.inr ⟨f3, rfl⟩, fun w2 val hw2 => ?_⟩
    · simp [Instr.mapEntry, run_underlying mapT, MapKept.run_getObj_map h1, hc, f1, MapKept.run_setObj_map _ h1, Result.andThen, setBlock]
    · rw [heap_setBlock _ hlt] at hw2
      have hlt2 : m < w2.heap.size := lt_of_heap hw2
      have hidx : (es.push ⟨vv v, .slice none 0 0, cl⟩).findIdx? (fun e => ((e.born : Nat) : Int) == ((cl : Nat) : Int)) = some es.size := by
        rw [WideElems.findIdx_arr]
        exact WideElems.findIdx_born (l := (es.push ⟨vv v, .slice none 0 0, cl⟩).toList) (j := es.size) (e0 := ⟨vv v, .slice none 0 0, cl⟩) (by
          simp only [Array.toList_push, List.map_append, List.map_cons, List.map_nil]
          refine List.nodup_append.2 ⟨s2, by simp, fun a ha c hc e1 => ?_⟩
          simp only [List.mem_singleton] at hc
          obtain ⟨x, hx, rfl⟩ := List.mem_map.1 ha
          have := s1 x hx
          omega) (by simp)
      have hmod : (es.push ⟨vv v, .slice none 0 0, cl⟩).modify es.size (fun e => { e with val := val }) = es.push ⟨vv v, val, cl⟩ := by
        apply Array.ext'
        rw [Array.toList_modify, Array.toList_push, Array.toList_push, ← Array.length_toList, WideElems.modify_last]
      refine ⟨setBlock w2 m (.map (es.push ⟨vv v, val, cl⟩) (cl + 1)), ?_, ⟨_, _, heap_setBlock _ hlt2, ?_, MapKept.stamped_push h3 f2, ?_⟩, grown_setBlock w2 m _⟩
      · simp [Instr.entryStore, MapKept.run_getObj_map hw2, asInt, asIntOf, goInt, hidx, hmod, MapKept.run_setObj_map _ hw2, Result.andThen, setBlock]
      · have hnm : v ∉ E.map (·.1) := fun hm => by
          obtain ⟨x, hx, rfl⟩ := List.mem_map.1 hm
          exact f3 x hx rfl
        unfold updE
        rw [if_neg hnm]
        simp [h2]
      · intro x hx
        unfold updE at hx
        rw [if_neg (fun hm => by obtain ⟨y, hy, e⟩ := List.mem_map.1 hm; exact f3 y hy e)] at hx
        rcases List.mem_append.1 hx with hx | hx
        · exact hok x hx
        · simp at hx
          rw [hx]
          exact hv
  · obtain ⟨s1, s2, -⟩ := (MapKept.stamped_iff es cl).1 h3
    have hj' : es[j]? = some e := by simpa using f2
    have hsame : es.modify j (fun e => { e with key := vv v }) = es := by
      apply Array.ext'
      rw [Array.toList_modify]
      apply List.ext_getElem?
      intro i
      rw [List.getElem?_modify]
      by_cases hij : j = i
      · subst hij
        rw [f2]
        simp
        rw [← f3]
      · simp [hij]
    refine ⟨r, e.born, setBlock w m (.map es cl), ?_, grown_setBlock w m _, Or.inl (List.mem_of_getElem? hj), fun w2 val hw2 => ?_⟩
    · simp [Instr.mapEntry, run_underlying mapT, MapKept.run_getObj_map h1, hc, f1, hj', f3, hs, hsame, MapKept.run_setObj_map _ h1, Result.andThen, setBlock]
    · rw [heap_setBlock _ hlt] at hw2
      have hlt2 : m < w2.heap.size := lt_of_heap hw2
      have hidx : es.findIdx? (fun x => ((x.born : Nat) : Int) == ((e.born : Nat) : Int)) = some j := by
        rw [WideElems.findIdx_arr]
        exact WideElems.findIdx_born s2 f2
      refine ⟨setBlock w2 m (.map (es.modify j (fun e => { e with val := val })) cl), ?_, ⟨_, _, heap_setBlock _ hlt2, ?_, MapKept.stamped_modify h3 j _ (fun _ _ => rfl) (fun _ _ _ => rfl), ?_⟩, grown_setBlock w2 m _⟩
      · simp [Instr.entryStore, MapKept.run_getObj_map hw2, asInt, asIntOf, goInt, hidx, MapKept.run_setObj_map _ hw2, Result.andThen, setBlock]
      · have hm : v ∈ E.map (·.1) := List.mem_map.2 ⟨_, List.mem_of_getElem? hj, rfl⟩
        unfold updE
        rw [if_pos hm, ← map_mod E j v r val hnd hj, Array.toList_modify]
        apply List.ext_getElem?
        intro i
        have h9 : (es.toList.map (fun x => (x.key, x.val)))[i]? = (E.map (fun x => (vv x.1, x.2)))[i]? := by rw [h2]
        simp only [List.getElem?_map, List.getElem?_modify] at h9 ⊢
        by_cases hij : j = i
        · subst hij
          rw [f2, hj]
          simp
          exact f3
        · simp only [hij, if_false]
          simpa using h9
      · intro x hx
        unfold updE at hx
        rw [if_pos (List.mem_map.2 ⟨_, List.mem_of_getElem? hj, rfl⟩)] at hx
        obtain ⟨y, hy, rfl⟩ := List.mem_map.1 hx
        split
        · exact hv
        · exact hok y hy

end Go.Proofs.YtfcmmchppcffmaaDoor
