/- A map whose keys are places (an ID, a list) and whose values are references: looked up, stored into. -/
import Derived.Test.YtokehogcenjefaaGreatDoorGA
import Derived.DeepKeys4
import Derived.Maps.Keyed
namespace Go.Proofs.YtokehogcenjefaaGreatDoor
open Go.RowKit Go.Maps Go.ChangeMaps

/-- A place: an ID, a list. -/
abbrev Pl := Int × Int × Int
def plv (x : Pl) : Value := .agg #[.int .i64 x.1, .int .i64 x.2.1, .int .u64 x.2.2]
def okC (x : Pl) : Prop := (Lit.int .i64 x.1).wf = true ∧ (Lit.int .i64 x.2.1).wf = true ∧ (Lit.int .u64 x.2.2).wf = true
theorem plv_inj {x y : Pl} (h : plv x = plv y) : x = y := by
 unfold plv at h
 injection h with h
 obtain ⟨x1, x2, x3⟩ := x
 obtain ⟨y1, y2, y3⟩ := y
 simp at h
 simp [h]
theorem keyedC : Keyed Tryz.prog 238 := Keyed.of_law (deep_law_laid (by kernel_rfl) (m := 3) (by omega) (of_decide_eq_true (by kernel_rfl)) (by kernel_rfl) (by kernel_rfl))
theorem keyTypeC : Tryz.prog.keyType 238 = true := by kernel_rfl
theorem formedC (a b c : Int) : (Value.agg #[.int .i64 a, .int .i64 b, .int .u64 c]).formed Tryz.prog 238 = true := by kernel_rfl
theorem litsC (a b c : Int) (h : okC (a, b, c)) : Tryz.prog.keyLits (Tryz.prog.types.size + 1) 238 [.int .i64 a, .int .i64 b, .int .u64 c] = some [.int .i64 a, .int .i64 b, .int .u64 c] := by
 obtain ⟨d, hd⟩ : ∃ d, Tryz.prog.types.size = d + 1 + 1 := ⟨Tryz.prog.types.size - 2, (by kernel_rfl : Tryz.prog.types.size = Tryz.prog.types.size - 2 + 1 + 1)⟩
 have c0 : Tryz.prog.cellsOf 238 = 3 := by kernel_rfl
 have c1 : Tryz.prog.cellsOf 27 = 2 := by kernel_rfl
 have c2 : Tryz.prog.cellsOf 3 = 1 := by kernel_rfl
 have c3 : Tryz.prog.cellsOf 23 = 1 := by kernel_rfl
 obtain ⟨h1, h2, h3⟩ := h
 simp only [] at h1 h2 h3
 rw [hd]
 simp [Program.keyLits, Tryz.underlying238, Tryz.underlying27, Tryz.underlying3, Tryz.underlying23, c0, c1, c2, c3, h1, h2, h3]
 rw [if_pos (by decide)]
 rfl
theorem keyC (x : Pl) (h : okC x) : ∃ l, keyOf Tryz.prog 238 (plv x) = some l := by
 refine ⟨.string (keyBytes [.int .i64 x.1, .int .i64 x.2.1, .int .u64 x.2.2]), ?_⟩
 simp only [keyOf, Tryz.underlying238]
 rw [if_pos (by simp [keyTypeC, plv, formedC])]
 show ((Tryz.prog.keyLits (Tryz.prog.types.size + 1) 238 [.int .i64 x.1, .int .i64 x.2.1, .int .u64 x.2.2]).map _) = _
 rw [litsC x.1 x.2.1 x.2.2 h]
 rfl

/-- A reference's value. -/
def rfv (x : Rf) : Value := .agg x.cells
/-- Block m is a map of just these places to these references. -/
def PMp (w : World) (m : Nat) (L : List (Pl × Rf)) : Prop :=
 ∃ es cl, w.heap[m]? = some (.map es cl) ∧ es.toList.map (fun x => (x.key, x.val)) = L.map (fun x => (plv x.1, rfv x.2)) ∧ MapKept.Stamped es cl ∧ (∀ x ∈ L, okC x.1)
theorem PMp.lt {w : World} {m : Nat} {L : List (Pl × Rf)} (h : PMp w m L) : m < w.heap.size := by
 obtain ⟨es, cl, h, -⟩ := h
 exact lt_of_heap h
theorem PMp.kept {w w' : World} {m : Nat} {L : List (Pl × Rf)} (h : PMp w m L) (hb : w'.heap[m]? = w.heap[m]?) : PMp w' m L := by
 obtain ⟨es, cl, h1, h2⟩ := h
 exact ⟨es, cl, hb.trans h1, h2⟩
theorem PMp.kp {S : List Nat} {w w' : World} {m : Nat} {L : List (Pl × Rf)} (h : PMp w m L) (hk : Kp S w w') (hn : m ∉ S) : PMp w' m L := h.kept (hk.block m h.lt hn)
theorem PMp.below {w w' : World} {m : Nat} {L : List (Pl × Rf)} (h : PMp w m L) (hb : Below w.heap.size w w') : PMp w' m L := h.kept (hb.block m h.lt)
theorem PMp.made (w : World) : PMp (w.alloc (.map #[] 0)) w.heap.size [] := ⟨#[], 0, heap_new w _, rfl, MapKept.stamped_empty 0, by simp⟩
theorem PMp.off {w : World} {m b : Nat} {L : List (Pl × Rf)} {cs : Array Value} {t : TypeId} (h : PMp w m L) (hb : IsB w b cs t) : b ≠ m := by
 rintro rfl
 obtain ⟨es, cl, h, -⟩ := h
 unfold IsB at hb
 rw [h] at hb
 cases hb
theorem PMp.nodup {w : World} {m : Nat} {L : List (Pl × Rf)} (h : PMp w m L) : (L.map (·.1)).Nodup := by
 obtain ⟨es, cl, h1, h2, h3, h4⟩ := h
 have h5 : es.toList.Pairwise (fun x y => x.key ≠ y.key) := ((MapKept.stamped_iff es cl).1 h3).2.2
 have h6 : (es.toList.map (fun x => (x.key, x.val))).Pairwise (fun x y => x.1 ≠ y.1) := by rw [List.pairwise_map]; exact h5
 rw [h2, List.pairwise_map] at h6
 unfold List.Nodup
 rw [List.pairwise_map]
 exact h6.imp fun h e => h (by show plv _ = plv _; rw [e])
theorem PMp.one {w : World} {m : Nat} {L : List (Pl × Rf)} (h : PMp w m L) {x y : Pl × Rf} (hx : x ∈ L) (hy : y ∈ L) (he : x.1 = y.1) : x = y := by
 have hn := h.nodup
 clear h
 induction L with
 | nil => cases hx
 | cons a t ih =>
   simp only [List.map_cons, List.nodup_cons, List.mem_map] at hn
   rcases List.mem_cons.1 hx with hx1 | hx1 <;> rcases List.mem_cons.1 hy with hy1 | hy1
   · rw [hx1, hy1]
   · exact absurd ⟨y, hy1, by rw [← he, hx1]⟩ hn.1
   · exact absurd ⟨x, hx1, by rw [he, hy1]⟩ hn.1
   · exact ih hx1 hy1 hn.2

theorem mapTC : Tryz.prog.underlying 169 = some (.map 238 29) := Tryz.underlying169
theorem zeroC (w : World) : (zeroValue 29).run Tryz.prog w = .ok (.agg #[.int .i64 0, .int .i64 0, .int .u64 0, .int .i64 0, .int .u64 0]) w := by kernel_rfl
/-- What is found. -/
theorem PMp.find {w : World} {m : Nat} {L : List (Pl × Rf)} (h : PMp w m L) (v : Pl) (hv : okC v) : ∃ es cl, w.heap[m]? = some (.map es cl) ∧ es.toList.map (fun x => (x.key, x.val)) = L.map (fun x => (plv x.1, rfv x.2)) ∧ MapKept.Stamped es cl ∧
   (∀ (e : Bool), (Instr.checkKey e 10000 238 (plv v)).run Tryz.prog w = .ok () w) ∧ (Instr.keyThatStays (plv v) (plv v)).run Tryz.prog w = .ok (plv v) w ∧
   (((Instr.findKey 238 (plv v) es.toList).run Tryz.prog w = .ok none w ∧ (∀ e ∈ es.toList, e.key ≠ plv v) ∧ ∀ x ∈ L, x.1 ≠ v) ∨
    ∃ j e r, (Instr.findKey 238 (plv v) es.toList).run Tryz.prog w = .ok (some (j, rfv r)) w ∧ es.toList[j]? = some e ∧ e.key = plv v ∧ e.val = rfv r ∧ L[j]? = some (v, r)) := by
 obtain ⟨es, cl, h1, h2, h3, h4⟩ := h
 obtain ⟨kl, hk⟩ := keyC v hv
 have hmem : ∀ e ∈ es.toList, ∃ x ∈ L, e.key = plv x.1 ∧ e.val = rfv x.2 := by
   intro e he
   have : (e.key, e.val) ∈ L.map (fun x => (plv x.1, rfv x.2)) := by rw [← h2]; exact List.mem_map.2 ⟨e, he, rfl⟩
   obtain ⟨x, hx, e1⟩ := List.mem_map.1 this
   injection e1 with e1 e2
   exact ⟨x, hx, e1.symm, e2.symm⟩
 refine ⟨es, cl, h1, h2, h3, fun e => keyedC.check w e hk, keyedC.stays w hk, ?_⟩
 rcases keyedC.find w hk es.toList (fun e he => by obtain ⟨x, hx, e1, -⟩ := hmem e he; rw [e1]; exact keyC x.1 (h4 x hx)) with ⟨f1, f2⟩ | ⟨j, e, f1, f2, f3⟩
 · refine Or.inl ⟨f1, f2, fun x hx e => ?_⟩
   have : (plv x.1, rfv x.2) ∈ es.toList.map (fun x => (x.key, x.val)) := by rw [h2]; exact List.mem_map.2 ⟨x, hx, rfl⟩
   obtain ⟨e', he', e1⟩ := List.mem_map.1 this
   injection e1 with e1 e2
   exact f2 e' he' (by rw [e1, e])
 · have g1 : (es.toList.map (fun x => (x.key, x.val)))[j]? = some (e.key, e.val) := by simp [f2]
   rw [h2, List.getElem?_map] at g1
   obtain ⟨x, hx, e1⟩ := Option.map_eq_some_iff.1 g1
   injection e1 with e1 e2
   have hxv : x.1 = v := plv_inj (e1.trans f3)
   refine Or.inr ⟨j, e, x.2, ?_, f2, f3, e2.symm, ?_⟩
   · rw [f1, ← e2]
   · rw [hx, ← hxv]
theorem PMp.look_no2 {w : World} {m : Nat} {L : List (Pl × Rf)} (h : PMp w m L) (v : Pl) (hv : okC v) (hn : ∀ x ∈ L, x.1 ≠ v) : (Instr.lookup 169 (.map (some m)) (plv v) true).run Tryz.prog w = .ok (.tuple #[.agg #[.int .i64 0, .int .i64 0, .int .u64 0, .int .i64 0, .int .u64 0], .bool false]) w := by
 obtain ⟨es, cl, h1, h2, h3, hc, hs, ⟨f1, -, -⟩ | ⟨j, e, r, -, -, -, -, hj⟩⟩ := h.find v hv
 · simp [Instr.lookup, run_underlying mapTC, MapKept.run_getObj_map h1, hc, f1, Result.andThen]
 · exact absurd rfl (hn _ (List.mem_of_getElem? hj))
theorem PMp.look_in2 {w : World} {m : Nat} {L : List (Pl × Rf)} (h : PMp w m L) (v : Pl) (hv : okC v) (r : Rf) (hn : (v, r) ∈ L) : (Instr.lookup 169 (.map (some m)) (plv v) true).run Tryz.prog w = .ok (.tuple #[rfv r, .bool true]) w := by
 have h' := h
 obtain ⟨es, cl, h1, h2, h3, hc, hs, ⟨-, -, f2⟩ | ⟨j, e, s, f1, -, -, -, hj⟩⟩ := h.find v hv
 · exact absurd rfl (f2 _ hn)
 · have hsr : s = r := congrArg Prod.snd (h'.one (List.mem_of_getElem? hj) hn rfl)
   subst hsr
   clear hn h' hj
   generalize rfv s = u at *
   simp [Instr.lookup, run_underlying mapTC, MapKept.run_getObj_map h1, hc, f1, Result.andThen]
theorem grown_setBlock (w : World) (m : Nat) (o : Obj) : w.grownBy (setBlock w m o) (some m) := by
 refine ⟨rfl, rfl, rfl, by simp [setBlock], fun k hk hn => ?_⟩
 simp only [setBlock]
 rw [Array.getElem?_setIfInBounds_ne (fun e => hn (by rw [e]))]
theorem heap_setBlock {w : World} {m : Nat} (o : Obj) (h : m < w.heap.size) : (setBlock w m o).heap[m]? = some o := by
 simp [setBlock, h]
theorem PMp.put_new {w : World} {m : Nat} {L : List (Pl × Rf)} (h : PMp w m L) (v : Pl) (hv : okC v) (r : Rf) (hn : ∀ x ∈ L, x.1 ≠ v) : ∃ w', (Instr.mapUpdate 169 (.map (some m)) (plv v) (rfv r)).run Tryz.prog w = .ok () w' ∧ PMp w' m (L ++ [(v, r)]) ∧ w.grownBy w' (some m) := by
 have hlt := h.lt
 have hok := h.choose_spec.choose_spec.2.2.2
 obtain ⟨es, cl, h1, h2, h3, hc, hs, ⟨f1, f2, -⟩ | ⟨j, e, s, -, -, -, -, hj⟩⟩ := h.find v hv
 · refine ⟨setBlock w m (.map (es.push ⟨plv v, rfv r, cl⟩) (cl + 1)), ?_, ⟨_, _, heap_setBlock _ hlt, ?_, MapKept.stamped_push h3 f2, ?_⟩, grown_setBlock w m _⟩
   · simp [Instr.mapUpdate, run_underlying mapTC, MapKept.run_getObj_map h1, hc, f1, MapKept.run_setObj_map _ h1, Result.andThen, setBlock]
   · simp [h2]
   · intro x hx
     rcases List.mem_append.1 hx with hx | hx
     · exact hok x hx
     · simp at hx
       rw [hx]
       exact hv
 · exact absurd rfl (hn _ (List.mem_of_getElem? hj))
theorem nodup_inj {α : Type} {l : List α} (h : l.Nodup) {i j : Nat} (hi : i < l.length) (hj : j < l.length) (e : l[i] = l[j]) : i = j := by
 rcases Nat.lt_trichotomy i j with g | g | g
 · exact absurd e (List.pairwise_iff_getElem.1 h i j hi hj g)
 · exact g
 · exact absurd e.symm (List.pairwise_iff_getElem.1 h j i hj hi g)
set_option maxRecDepth 4000 in
theorem PMp.put_over {w : World} {m : Nat} {L : List (Pl × Rf)} (h : PMp w m L) (v : Pl) (hv : okC v) (r : Rf) (hn : ∃ x ∈ L, x.1 = v) : ∃ w', (Instr.mapUpdate 169 (.map (some m)) (plv v) (rfv r)).run Tryz.prog w = .ok () w' ∧ PMp w' m (L.map fun x => if x.1 = v then (v, r) else x) ∧ w.grownBy w' (some m) := by
 have h' := h
 have hlt := h.lt
 have hok := h.choose_spec.choose_spec.2.2.2
 obtain ⟨es, cl, h1, h2, h3, hc, hs, ⟨-, -, f2⟩ | ⟨j, e, s, f1, f2, f3, f4, hj⟩⟩ := h.find v hv
 · obtain ⟨x, hx, hxv⟩ := hn
   exact absurd hxv (f2 _ hx)
 · have hj' : es[j]? = some e := by simpa using f2
   have hL : (L.map fun x => if x.1 = v then (v, r) else x) = L.set j (v, r) := by
     apply List.ext_getElem?
     intro i
     rw [List.getElem?_map, List.getElem?_set]
     by_cases hij : j = i
     · subst hij
       rw [hj]
       simp
       exact (List.getElem?_eq_some_iff.1 hj).1
     · rw [if_neg hij]
       cases hi : L[i]? with
       | none => rfl
       | some y =>
         by_cases hy : y.1 = v
         · exfalso
           have hjl := (List.getElem?_eq_some_iff.1 hj)
           have hil := (List.getElem?_eq_some_iff.1 hi)
           obtain ⟨j1, j2⟩ := hjl
           obtain ⟨i1, i2⟩ := hil
           have nd := h'.nodup
           have e1 : (L.map (·.1))[j]'(by simpa using j1) = (L.map (·.1))[i]'(by simpa using i1) := by rw [List.getElem_map, List.getElem_map, j2, i2, hy]
           exact hij (nodup_inj nd _ _ e1)
         · simp [hy]
   have hes : (es.modify j fun x => { x with key := plv v, val := rfv r }).toList.map (fun x => (x.key, x.val)) = (L.set j (v, r)).map (fun x => (plv x.1, rfv x.2)) := by
     rw [Array.toList_modify]
     apply List.ext_getElem?
     intro i
     rw [List.getElem?_map, List.getElem?_map, List.getElem?_modify, List.getElem?_set]
     by_cases hij : j = i
     · subst hij
       rw [f2, if_pos rfl, if_pos (List.getElem?_eq_some_iff.1 hj).1]
       simp only [Option.map_eq_map, Option.map_some, reduceIte]
     · have := congrArg (fun l => l[i]?) h2
       simp only [List.getElem?_map] at this
       rw [if_neg hij, ← this]
       cases es.toList[i]? with
       | none => rfl
       | some y =>
         simp only [Option.map_eq_map, Option.map_some, hij, reduceIte]
   have hst : MapKept.Stamped (es.modify j fun x => { x with key := plv v, val := rfv r }) cl := MapKept.stamped_modify h3 j _ (fun x hx => rfl) (fun x hx he => by
     rw [hj'] at he
     injection he with he
     subst he
     exact f3.symm)
   refine ⟨setBlock w m (.map (es.modify j fun x => { x with key := plv v, val := rfv r }) cl), ?_, ⟨_, _, heap_setBlock _ hlt, ?_, hst, ?_⟩, grown_setBlock w m _⟩
   · simp [Instr.mapUpdate, run_underlying mapTC, MapKept.run_getObj_map h1, hc, f1, hj', f3, hs, MapKept.run_setObj_map _ h1, Result.andThen, setBlock]
   · rw [hL, hes]
   · intro x hx
     rw [hL] at hx
     rcases List.mem_or_eq_of_mem_set hx with g | g
     · exact hok x g
     · rw [g]; exact hv

/-- What a map of wills holds of a place. -/
def look (L : List (Pl × Rf)) (v : Pl) : Option Rf := (L.find? fun x => decide (x.1 = v)).map (·.2)
theorem look_none {L : List (Pl × Rf)} {v : Pl} (h : look L v = none) : ∀ x ∈ L, x.1 ≠ v := by
 unfold look at h
 rw [Option.map_eq_none_iff, List.find?_eq_none] at h
 exact fun x hx => by simpa using h x hx
theorem look_some {L : List (Pl × Rf)} {v : Pl} {r : Rf} (h : look L v = some r) : (v, r) ∈ L := by
 unfold look at h
 obtain ⟨x, hx, rfl⟩ := Option.map_eq_some_iff.1 h
 have h1 := List.find?_some hx
 simp at h1
 have h2 := List.mem_of_find?_eq_some hx
 rw [← h1]
 exact h2
/-- A will is kept: in the place of an older one, or behind all. -/
def putW (L : List (Pl × Rf)) (v : Pl) (r : Rf) : List (Pl × Rf) := if (L.any fun x => decide (x.1 = v)) = true then L.map (fun x => if x.1 = v then (v, r) else x) else L ++ [(v, r)]
theorem PMp.put {w : World} {m : Nat} {L : List (Pl × Rf)} (h : PMp w m L) (v : Pl) (hv : okC v) (r : Rf) : ∃ w', (Instr.mapUpdate 169 (.map (some m)) (plv v) (rfv r)).run Tryz.prog w = .ok () w' ∧ PMp w' m (putW L v r) ∧ w.grownBy w' (some m) := by
 unfold putW
 by_cases hc : (L.any fun x => decide (x.1 = v)) = true
 · rw [if_pos hc]
   obtain ⟨x, hx, e⟩ := List.any_eq_true.1 hc
   exact h.put_over v hv r ⟨x, hx, of_decide_eq_true e⟩
 · rw [if_neg hc]
   exact h.put_new v hv r (fun x hx e => hc (List.any_eq_true.2 ⟨x, hx, decide_eq_true e⟩))

end Go.Proofs.YtokehogcenjefaaGreatDoor
