/- The document's rows of references: what a region may do in several orders; rows that can be read; one put in at its place. -/
import Derived.Test.YtfcmmchppcffmaaDoorMA
import Derived.Test.YtfcmmchppcffmaaDoorMZL
import Derived.Test.YtfcmmchppcffmaaDoorMZW
namespace Go.Proofs.YtfcmmchppcffmaaDoor
open Go.RowKit Go.Maps Go.ChangeMaps

section
variable {P : Program} {md : Region.Mode} {ops : Array Oper} {Q : Exit → Act → World → Prop} {S : World → Prop} {t : Nat}
/-- Whichever of these comes up. -/
theorem manyL {L : List Nat} {fuel : Nat} {listed : Array Bool} {a : Act} {w : World} (hr : Region.ready md ops listed = L) (hne : L ≠ [])
    (h : ∀ i ∈ L, ∃ o, ops[i]? = some o ∧ ∀ K' : Act → World → Prop, Shut (∀ a w, S w → wpAnyL P md ops Q S t fuel (listed.setIfInBounds i true) a w → K' a w) → if Region.wanted o (yielded ops a.tmps) = true then Oper.wp P o a w K' Q else K' (a.put o.dst undef) w) :
    wpAnyL P md ops Q S t (fuel + 1) listed a w := by
  refine ⟨fun h0 => absurd (hr.symm.trans h0) hne, fun k hk => ?_⟩
  rw [hr] at hk
  obtain ⟨o, ho, h1⟩ := h k hk
  exact wpOp_step ho (fun K' hK => h1 K' (fun a w hS hW => hK a w ⟨fun _ => hS, hW⟩))
end

theorem flat_rfs : ∀ l : List Rf, (l.map Rf.cs).flatten = rfs l
  | [] => rfl
  | x :: l => by rw [List.map_cons, List.flatten_cons, flat_rfs l]; rfl
theorem es_rfs (l : List Rf) : Es 5 (l.map Rf.cs) := ⟨fun x hx => by obtain ⟨r, -, rfl⟩ := List.mem_map.1 hx; rfl, fun x hx => by
  obtain ⟨r, -, rfl⟩ := List.mem_map.1 hx
  intro v hv
  simp only [Rf.cs, List.mem_cons, List.not_mem_nil, or_false] at hv
  rcases hv with h | h | h | h | h <;> rw [h] <;> rfl⟩
theorem ty_ref : Ty 30 5 40 22 := ⟨Tryd.underlying22, ⟨.agg #[.int .i64 0, .int .i64 0, .int .u64 0, .int .i64 0, .int .u64 0], by kernel_rfl, rfl⟩⟩
/-- A row of references of one's own. -/
def Gr5 (base : Nat) (w : World) (v : Value) (l : List Rf) : Prop := Rg 30 5 base w v (l.map Rf.cs)
theorem Gr5.rsl {base : Nat} {w : World} {v : Value} {l : List Rf} (h : Gr5 base w v l) : RSl w v l := by
  refine Rw.rsl ?_
  have := h.row
  rwa [List.length_map, flat_rfs] at this
theorem Gr5.below {base : Nat} {w w' : World} {v : Value} {l : List Rf} (h : Gr5 base w v l) (hb : Below w.heap.size w w') : Gr5 base w' v l := Rg.below h hb
theorem Gr5.shape {base : Nat} {w : World} {v : Value} {l : List Rf} (h : Gr5 base w v l) : ∃ a c, v = .slice a l.length c ∧ l.length ≤ c ∧ c ≤ maxLen := by
  have := Rg.shape h
  rwa [List.length_map] at this
/-- What can be read of a row that has one at least. -/
theorem RSl.form {w : World} {v : Value} {l : List Rf} (h : RSl w v l) (hn : 0 < l.length) : ∃ g o c, v = .slice (some ⟨g, o, none⟩) l.length c ∧ l.length ≤ c ∧ c ≤ maxLen := by
  rcases h with ⟨-, rfl⟩ | ⟨g, o, c, h1, h2, h3, -⟩
  · simp at hn
  · exact ⟨g, o, c, h1, h2, h3⟩
theorem RSl.at {w : World} {g o n c : Nat} {l : List Rf} (h : RSl w (.slice (some ⟨g, o, none⟩) n c) l) : ∀ j u, (rfs l)[j]? = some u → w.cell? ⟨g, o + j, none⟩ = some u := by
  rcases h with ⟨h, -⟩ | ⟨g', o', c', h1, -, -, -, h4⟩
  · cases h
  · simp only [Value.slice.injEq, Option.some.injEq, Addr.mk.injEq, and_true] at h1
    obtain ⟨⟨rfl, rfl⟩, -, -⟩ := h1
    exact h4
theorem rfs_at (l : List Rf) (j : Nat) (hj : j < l.length) (k : Nat) (hk : k < 5) : (rfs l)[j * 5 + k]? = l[j].cs[k]? := by
  rw [← flat_rfs, flat_get 5 _ (es_rfs l).len j (by simpa using hj) k hk]
  simp
theorem RSl.ldm {w : World} {g o n c : Nat} {l : List Rf} (h : RSl w (.slice (some ⟨g, o, none⟩) n c) l) (j : Nat) (hj : j < l.length) (f : Nat) (ty : TypeId) (vs : List Value) (d : TypeDesc) (hv : (l[j].cs.drop f).take vs.length = vs) (hu : Tryd.prog.underlying ty = some d) (hd : d.isRow = true) (hi : (Tryd.prog.info? ty).map (·.size) = some vs.length) : (Instr.loadAt ty (.pointer (some ⟨g, o + j * 5 + f, none⟩))).run Tryd.prog w = .ok (.agg vs.toArray) w := by
  refine run_loadAt_mid w g (o + j * 5 + f) ty vs d (fun i v hiv => ?_) hu hd hi
  have hil := (List.getElem?_eq_some_iff.1 hiv).1
  have h2 : l[j].cs[f + i]? = some v := by
    rw [← hv, List.getElem?_take, if_pos hil, List.getElem?_drop] at hiv
    exact hiv
  have h3 : f + i < 5 := (List.getElem?_eq_some_iff.1 h2).1
  rw [show o + j * 5 + f + i = o + (j * 5 + (f + i)) by omega]
  refine h.at _ _ ?_
  rw [rfs_at l j hj (f + i) h3]
  exact h2
theorem RSl.ldr {w : World} {g o n c : Nat} {l : List Rf} (h : RSl w (.slice (some ⟨g, o, none⟩) n c) l) (j : Nat) (hj : j < l.length) : (Instr.loadAt 30 (.pointer (some ⟨g, o + j * 5, none⟩))).run Tryd.prog w = .ok (.agg #[.int .i64 l[j].id, .int .i64 l[j].rk, .int .u64 l[j].kn, .int .i64 l[j].ln, .int .u64 l[j].bt]) w := by
  have := h.ldm j hj 0 30 l[j].cs _ (by simp [Rf.cs]) Tryd.underlying30 rfl (by kernel_rfl)
  rw [Nat.add_zero] at this
  exact this
theorem RSl.ldk {w : World} {g o n c : Nat} {l : List Rf} (h : RSl w (.slice (some ⟨g, o, none⟩) n c) l) (j : Nat) (hj : j < l.length) : (Instr.loadAt 26 (.pointer (some ⟨g, o + j * 5 + 1, none⟩))).run Tryd.prog w = .ok (.agg #[.int .i64 l[j].rk, .int .u64 l[j].kn]) w := h.ldm j hj 1 26 [.int .i64 l[j].rk, .int .u64 l[j].kn] _ (by simp [Rf.cs]) Tryd.underlying26 rfl (by kernel_rfl)
theorem RSl.ldv {w : World} {g o n c : Nat} {l : List Rf} (h : RSl w (.slice (some ⟨g, o, none⟩) n c) l) (j : Nat) (hj : j < l.length) : (Instr.loadAt 28 (.pointer (some ⟨g, o + j * 5 + 3, none⟩))).run Tryd.prog w = .ok (.agg #[.int .i64 l[j].ln, .int .u64 l[j].bt]) w := h.ldm j hj 3 28 [.int .i64 l[j].ln, .int .u64 l[j].bt] _ (by simp [Rf.cs]) Tryd.underlying28 rfl (by kernel_rfl)
theorem RSl.cid {w : World} {g o n c : Nat} {l : List Rf} (h : RSl w (.slice (some ⟨g, o, none⟩) n c) l) (j : Nat) (hj : j < l.length) : w.cell? ⟨g, o + j * 5, none⟩ = some (.int .i64 l[j].id) := by
  have := h.at (j * 5 + 0) (.int .i64 l[j].id) (by rw [rfs_at l j hj 0 (by omega)]; rfl)
  simpa using this
/-- A reference appended. -/
theorem push_rf {base : Nat} {w : World} {v : Value} {m : List Rf} (h : Gr5 base w v m) (z : Rf) (hlen : m.length + 1 ≤ 100000) (hbs : base ≤ w.heap.size) (ty : TypeId) :
    ∃ qa qc w', (Builtin.append_ #[22, 22] ty #[v, .slice (some ⟨w.heap.size, 0, none⟩) 1 1]).run Tryd.prog (w.alloc (.cells z.cells 30)) = .ok (.slice qa (m.length + 1) qc) w' ∧ Gr5 base w' (.slice qa (m.length + 1) qc) (m ++ [z]) ∧ Below base w w' := by
  have hbl : Below w.heap.size w (w.alloc (.cells z.cells 30)) := (Below.refl _ _).alloc (Nat.le_refl _) _
  have h1 := Rg.below h hbl
  obtain ⟨qa, qc, w', h2, h3, h4⟩ := h1.push ty_ref (by omega) z.cs rfl ((es_rfs [z]).one z.cs (by simp)) w.heap.size 1 (IsB.new w z.cells 30) (by simp; omega) (by simp; omega) ty
  simp only [List.length_map] at h2 h3
  refine ⟨qa, qc, w', h2, ?_, (hbl.mono hbs).trans (h4.to_below (by simp; omega) (fun k hk => Rg.new h k (by simpa using hk)))⟩
  unfold Gr5
  simpa using h3
/-- One put in at its place. -/
def insL (m : List Rf) (z : Rf) : List Rf := m.takeWhile (fun y => klt (y.rk, y.kn) (z.rk, z.kn)) ++ z :: m.dropWhile (fun y => klt (y.rk, y.kn) (z.rk, z.kn))
def sortL (l : List Rf) : List Rf := l.foldl insL []
theorem insL_len (m : List Rf) (z : Rf) : (insL m z).length = m.length + 1 := by
  have := List.takeWhile_append_dropWhile (p := fun y : Rf => klt (y.rk, y.kn) (z.rk, z.kn)) (l := m)
  have h2 := congrArg List.length this
  simp only [List.length_append] at h2
  simp [insL]
  omega
theorem sortL_len' (l : List Rf) : ∀ m : List Rf, (l.foldl insL m).length = m.length + l.length := by
  induction l with
  | nil => intro m; simp
  | cons z l ih => intro m; rw [List.foldl_cons, ih, insL_len]; simp; omega
theorem sortL_len (l : List Rf) : (sortL l).length = l.length := by
  have := sortL_len' l []
  simpa [sortL] using this

end Go.Proofs.YtfcmmchppcffmaaDoor
