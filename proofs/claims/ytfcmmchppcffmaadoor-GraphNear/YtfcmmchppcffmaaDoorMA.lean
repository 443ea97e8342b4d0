/- Rows of elements of any size, of one's own: an element loaded, a part of it, one appended, a whole row appended. -/
import Derived.Test.YtfcmmchppcffmaaDoorGU
import Derived.Deep.MidRow
namespace Go.Proofs.YtfcmmchppcffmaaDoor
open Go.RowKit Go.Maps

theorem gadd (g o j : Nat) : (⟨g, o, none⟩ : Addr).add j = ⟨g, o + j, none⟩ := by unfold Addr.add; split <;> simp_all
theorem g_ne {w : World} {a b : Nat} {x y : Array Value} {s t : TypeId} (h : IsB w a x s) (k : IsB w b y t) (hn : s ≠ t) : a ≠ b := by
  intro e
  subst e
  unfold IsB at h k
  rw [h] at k
  injection k with k
  injection k with _ k
  exact hn k
theorem flat_len (k : Nat) : ∀ l : List (List Value), (∀ x ∈ l, x.length = k) → l.flatten.length = l.length * k
  | [], _ => by simp
  | x :: l, h => by
    have h1 := flat_len k l (fun y hy => h y (List.mem_cons_of_mem _ hy))
    have h2 := h x List.mem_cons_self
    rw [List.flatten_cons, List.length_append, h1, h2, List.length_cons, Nat.succ_mul]
    omega
theorem flat_get (k : Nat) : ∀ (l : List (List Value)) (_ : ∀ x ∈ l, x.length = k) (j : Nat) (hj : j < l.length) (o : Nat), o < k → l.flatten[j * k + o]? = l[j][o]?
  | [], _, j, hj, _, _ => by simp at hj
  | x :: l, h, 0, _, o, ho => by
    have h2 := h x List.mem_cons_self
    simp only [List.flatten_cons, Nat.zero_mul, Nat.zero_add, List.getElem_cons_zero]
    rw [List.getElem?_append_left (by omega)]
  | x :: l, h, j + 1, hj, o, ho => by
    have h2 := h x List.mem_cons_self
    have ih := flat_get k l (fun y hy => h y (List.mem_cons_of_mem _ hy)) j (by simpa using hj) o ho
    simp only [List.flatten_cons, List.getElem_cons_succ]
    rw [List.getElem?_append_right (by rw [h2, Nat.succ_mul]; omega), ← ih, h2]
    congr 1
    rw [Nat.succ_mul]
    omega
/-- Each element has so many cells. -/
structure Es (k : Nat) (l : List (List Value)) : Prop where
  len : ∀ x ∈ l, x.length = k
  one : ∀ x ∈ l, ∀ u ∈ x, u.oneCell' = true
theorem Es.nil (k : Nat) : Es k [] := ⟨by simp, by simp⟩
theorem Es.app {k : Nat} {l m : List (List Value)} (h : Es k l) (g : Es k m) : Es k (l ++ m) :=
  ⟨fun x hx => (List.mem_append.1 hx).elim (h.len x) (g.len x), fun x hx => (List.mem_append.1 hx).elim (h.one x) (g.one x)⟩
theorem Es.one1 {k : Nat} {x : List Value} (h : x.length = k) (g : ∀ u ∈ x, u.oneCell' = true) : Es k [x] := ⟨by simpa using h, by simpa using g⟩
theorem Es.sub {k : Nat} {l m : List (List Value)} (h : Es k l) (hm : ∀ x ∈ m, x ∈ l) : Es k m := ⟨fun x hx => h.len x (hm x hx), fun x hx => h.one x (hm x hx)⟩
/-- A row of such elements of one's own, laid at base or behind. -/
structure Rg (e k base : Nat) (w : World) (v : Value) (l : List (List Value)) : Prop where
  row : Rw w e k v l.length l.flatten
  es : Es k l
  new : ∀ j, v.ownBlock = some j → base ≤ j
theorem Rg.nil (e k base : Nat) (w : World) : Rg e k base w (.slice none 0 0) [] := ⟨⟨by simp, Or.inl ⟨rfl, rfl⟩⟩, Es.nil k, fun j hj => (by cases hj)⟩
theorem Rg.below {e k base : Nat} {w w' : World} {v : Value} {l : List (List Value)} (h : Rg e k base w v l) (hb : Below w.heap.size w w') : Rg e k base w' v l := ⟨h.row.below hb, h.es, h.new⟩
theorem Rg.mono {e k base base' : Nat} {w : World} {v : Value} {l : List (List Value)} (h : Rg e k base w v l) (hb : base' ≤ base) : Rg e k base' w v l := ⟨h.row, h.es, fun j hj => Nat.le_trans hb (h.new j hj)⟩
theorem Rg.kp {e k base : Nat} {w w' : World} {v : Value} {l : List (List Value)} {S : List Nat} (h : Rg e k base w v l) (hk : Kp S w w') (hS : ∀ j ∈ S, ∀ cs, ¬ IsB w j cs e) : Rg e k base w' v l :=
  ⟨h.row.kp hk fun j hj hm => by obtain ⟨-, cur, hc⟩ := h.row.lt j hj; exact hS j hm cur hc, h.es, h.new⟩
theorem Rg.ne {e k base : Nat} {w : World} {v : Value} {l : List (List Value)} (h : Rg e k base w v l) {b : Nat} {cs : Array Value} {t : TypeId} (I : IsB w b cs t) (ht : t ≠ e) : b ∉ v.ownBlock.toList := by
  intro hk
  obtain ⟨-, cur, hc⟩ := h.row.lt b (by simpa using hk)
  exact g_ne I (show IsB w b cur e from hc) ht rfl
theorem Rg.shape {e k base : Nat} {w : World} {v : Value} {l : List (List Value)} (h : Rg e k base w v l) : ∃ a c, v = .slice a l.length c ∧ l.length ≤ c ∧ c ≤ maxLen := h.row.shape
/-- One element that lies in a block of its own. -/
theorem Rg.one (e k : Nat) {w : World} {g base : Nat} {x : List Value} (h : IsB w g x.toArray e) (hx : x.length = k) (h1 : ∀ u ∈ x, u.oneCell' = true) (hb : base ≤ g) : Rg e k base w (.slice (some ⟨g, 0, none⟩) 1 1) [x] :=
  ⟨⟨by simp [hx], Or.inr ⟨g, 1, x.toArray, rfl, h, Nat.le_refl _, by unfold maxLen; omega, by simp [hx], by simp [hx, List.take_of_length_le]⟩⟩, Es.one1 hx h1, fun j hj => by have := Option.some.inj (show some g = some j from hj); omega⟩
theorem Rg.cel {e k base : Nat} {w : World} {g n cap : Nat} {l : List (List Value)} (h : Rg e k base w (.slice (some ⟨g, 0, none⟩) n cap) l) (j : Nat) (hj : j < l.length) (o : Nat) (ho : o < k) : w.cell? ⟨g, j * k + o, none⟩ = l[j][o]? := by
  obtain ⟨a, c, hv, -, -⟩ := h.row.shape
  injection hv with _ hn _
  subst hn
  have hl := h.es.len _ (List.getElem_mem hj)
  have hm : (j + 1) * k ≤ l.length * k := Nat.mul_le_mul_right _ hj
  have hlt : j * k + o < l.length * k := by rw [Nat.succ_mul] at hm; omega
  rw [h.row.cellAt (j * k + o) hlt, flat_get k l h.es.len j hj o ho]
/-- A part of an element. -/
theorem Rg.ldm {e k base : Nat} {w : World} {g n cap : Nat} {l : List (List Value)} (h : Rg e k base w (.slice (some ⟨g, 0, none⟩) n cap) l) (j : Nat) (hj : j < l.length) (o : Nat) (ty : TypeId) (vs : List Value) (d : TypeDesc) (hv : (l[j].drop o).take vs.length = vs) (hu : Tryd.prog.underlying ty = some d) (hd : d.isRow = true) (hi : (Tryd.prog.info? ty).map (·.size) = some vs.length) : (Instr.loadAt ty (.pointer (some ⟨g, j * k + o, none⟩))).run Tryd.prog w = .ok (.agg vs.toArray) w := by
  refine run_loadAt_mid w g (j * k + o) ty vs d (fun i v hiv => ?_) hu hd hi
  have hil := (List.getElem?_eq_some_iff.1 hiv).1
  have hl := h.es.len _ (List.getElem_mem hj)
  have h2 : l[j][o + i]? = some v := by
    rw [← hv, List.getElem?_take, if_pos hil, List.getElem?_drop] at hiv
    exact hiv
  have h3 := (List.getElem?_eq_some_iff.1 h2).1
  rw [Nat.add_assoc, h.cel j hj (o + i) (by omega)]
  exact h2
theorem Rg.ld {e k base : Nat} {w : World} {g n cap : Nat} {l : List (List Value)} (h : Rg e k base w (.slice (some ⟨g, 0, none⟩) n cap) l) (j : Nat) (hj : j < l.length) (d : TypeDesc) (hu : Tryd.prog.underlying e = some d) (hd : d.isRow = true) (hi : (Tryd.prog.info? e).map (·.size) = some k) : (Instr.loadAt e (.pointer (some ⟨g, j * k, none⟩))).run Tryd.prog w = .ok (.agg l[j].toArray) w := by
  have hl := h.es.len _ (List.getElem_mem hj)
  have := h.ldm j hj 0 e l[j] d (by simp) hu hd (by rw [hl]; exact hi)
  simpa using this
/-- What an append takes of such a row: all of it, the first ones, or the last ones. -/
theorem Rg.src {e k base : Nat} {w : World} {v : Value} {l : List (List Value)} (h : Rg e k base w v l) : (∃ a c, v = .slice (some a) l.length c ∧ ∀ j u, l.flatten[j]? = some u → w.cell? (a.add j) = some u) ∨ (v = .slice none 0 0 ∧ l.length = 0) := by
  rcases h.row.2 with ⟨hv, h0⟩ | ⟨g, cap, cur, rfl, hg, h1, h2, h3⟩
  · exact Or.inr ⟨hv, h0⟩
  · refine Or.inl ⟨⟨g, 0, none⟩, cap, rfl, fun j u hu => ?_⟩
    have hj : j < l.length * k := by rw [← flat_len k l h.es.len]; exact (List.getElem?_eq_some_iff.1 hu).1
    rw [gadd, Nat.zero_add, h.row.cellAt j hj]
    exact hu
theorem flat_take (k : Nat) : ∀ (l : List (List Value)) (_ : ∀ x ∈ l, x.length = k) (n : Nat), (l.take n).flatten = l.flatten.take (n * k)
  | [], _, n => by simp
  | x :: l, h, 0 => by simp
  | x :: l, h, n + 1 => by
    have h2 := h x List.mem_cons_self
    have ih := flat_take k l (fun y hy => h y (List.mem_cons_of_mem _ hy)) n
    rw [List.take_succ_cons, List.flatten_cons, List.flatten_cons, ih, Nat.succ_mul, List.take_append, h2, List.take_of_length_le (l := x) (by omega), show n * k + k - k = n * k by omega]
theorem flat_drop (k : Nat) : ∀ (l : List (List Value)) (_ : ∀ x ∈ l, x.length = k) (n : Nat), (l.drop n).flatten = l.flatten.drop (n * k)
  | [], _, n => by simp
  | x :: l, h, 0 => by simp
  | x :: l, h, n + 1 => by
    have h2 := h x List.mem_cons_self
    have ih := flat_drop k l (fun y hy => h y (List.mem_cons_of_mem _ hy)) n
    rw [List.drop_succ_cons, List.flatten_cons, ih, Nat.succ_mul, List.drop_append, h2, List.drop_of_length_le (l := x) (by omega), show n * k + k - k = n * k by omega, List.nil_append]
/-- The last ones, from the n-th on, as an append's source. -/
theorem Rg.srcDrop {e k base : Nat} {w : World} {g m cap : Nat} {l : List (List Value)} (h : Rg e k base w (.slice (some ⟨g, 0, none⟩) m cap) l) (n : Nat) : ∀ j u, (l.drop n).flatten[j]? = some u → w.cell? ((⟨g, n * k, none⟩ : Addr).add j) = some u := by
  intro j u hu
  obtain ⟨a, c, hv, -, -⟩ := h.row.shape
  injection hv with _ hn _
  subst hn
  rw [flat_drop k l h.es.len, List.getElem?_drop] at hu
  have hj : n * k + j < l.length * k := by rw [← flat_len k l h.es.len]; exact (List.getElem?_eq_some_iff.1 hu).1
  rw [gadd, h.row.cellAt _ hj]
  exact hu
theorem Rg.srcTake {e k base : Nat} {w : World} {g m cap : Nat} {l : List (List Value)} (h : Rg e k base w (.slice (some ⟨g, 0, none⟩) m cap) l) (n : Nat) : ∀ j u, (l.take n).flatten[j]? = some u → w.cell? ((⟨g, 0, none⟩ : Addr).add j) = some u := by
  intro j u hu
  obtain ⟨a, c, hv, -, -⟩ := h.row.shape
  injection hv with _ hn _
  subst hn
  rw [flat_take k l h.es.len, List.getElem?_take] at hu
  split at hu
  · have hj : j < l.length * k := by rw [← flat_len k l h.es.len]; exact (List.getElem?_eq_some_iff.1 hu).1
    rw [gadd, Nat.zero_add, h.row.cellAt _ hj]
    exact hu
  · cases hu
/-- What is asked of a type of elements and of a type of slices of them. -/
structure Ty (e k bytes sl : Nat) : Prop where
  u : Tryd.prog.underlying sl = some (.slice e)
  i : ∃ z, (Tryd.prog.info? e).map (fun i => (i.zero, i.size, i.bytes)) = some (some z, k, bytes) ∧ z.cells.size = k
theorem Ty.parts {e k bytes sl : Nat} (h : Ty e k bytes sl) : ∃ i z, Tryd.prog.info? e = some i ∧ i.zero = some z ∧ i.size = k ∧ i.bytes = bytes ∧ z.cells.size = k := by
  obtain ⟨z, hz, hs⟩ := h.i
  cases hq : Tryd.prog.info? e with
  | none => rw [hq] at hz; cases hz
  | some i =>
    rw [hq] at hz
    simp only [Option.map_some, Option.some.injEq, Prod.mk.injEq] at hz
    exact ⟨i, z, rfl, hz.1, hz.2.1, hz.2.2, hs⟩
/-- A row (its cells m, its value x) is appended upon a row of one's own. -/
theorem Rg.app {e k bytes sl base : Nat} (T : Ty e k bytes sl) (hby : bytes ≤ 1000) {w : World} {v : Value} {l : List (List Value)} (h : Rg e k base w v l) (x : Value) (m : List (List Value)) (hm : Es k m) (hx : (∃ a c, x = .slice (some a) m.length c ∧ ∀ j u, m.flatten[j]? = some u → w.cell? (a.add j) = some u) ∨ (x = .slice none 0 0 ∧ m.length = 0)) (hlen : l.length + m.length ≤ 1000000) (hbs : base ≤ w.heap.size) (ty : TypeId) :
    ∃ qa qc w', (Builtin.append_ #[sl, sl] ty #[v, x]).run Tryd.prog w = .ok (.slice qa (l.length + m.length) qc) w' ∧ Rg e k base w' (.slice qa (l.length + m.length) qc) (l ++ m) ∧ Kp v.ownBlock.toList w w' := by
  obtain ⟨i0, z, hi0, hz0, hz1, hz2, hz3⟩ := T.parts
  have hlb : (l.length + m.length) * bytes ≤ 1000000 * 1000 := Nat.mul_le_mul hlen hby
  obtain ⟨v', w', hrun, hrw, hgr, hat, -⟩ := run_append_rw (P := Tryd.prog) w sl ty e i0 z k bytes T.u hi0 hz0 hz1 hz2 hz3 v l.length l.flatten h.row x m.length m.flatten (flat_len k m hm.len) hx (fun u hu => by obtain ⟨y, hy, huy⟩ := List.mem_flatten.1 hu; exact hm.one y hy u huy) (by unfold maxLen; omega) (by omega)
  obtain ⟨qa, qc, rfl, -, -⟩ := hrw.shape
  refine ⟨qa, qc, w', hrun, ⟨?_, h.es.app hm, fun j hj => ?_⟩, Kp.of_grown (S := v.ownBlock.toList) hgr (fun j hj => Or.inl (by rw [hj]; simp))⟩
  · rw [List.length_append, List.flatten_append]
    exact hrw
  · rcases hat with q | q
    · exact h.new j (by rw [← q]; exact hj)
    · rw [q] at hj
      injection hj with hj
      omega
/-- One that lies in a block is appended. -/
theorem Rg.push {e k bytes sl base : Nat} (T : Ty e k bytes sl) (hby : bytes ≤ 1000) {w : World} {v : Value} {l : List (List Value)} (h : Rg e k base w v l) (x : List Value) (hx : x.length = k) (h1 : ∀ u ∈ x, u.oneCell' = true) (g c : Nat) (hg : IsB w g x.toArray e) (hlen : l.length + 1 ≤ 1000000) (hbs : base ≤ w.heap.size) (ty : TypeId) :
    ∃ qa qc w', (Builtin.append_ #[sl, sl] ty #[v, .slice (some ⟨g, 0, none⟩) 1 c]).run Tryd.prog w = .ok (.slice qa (l.length + 1) qc) w' ∧ Rg e k base w' (.slice qa (l.length + 1) qc) (l ++ [x]) ∧ Kp v.ownBlock.toList w w' := by
  refine h.app T hby _ [x] (Es.one1 hx h1) (Or.inl ⟨⟨g, 0, none⟩, c, rfl, fun j u hu => ?_⟩) hlen hbs ty
  rw [gadd, Nat.zero_add, hg.cell j]
  simpa using hu

end Go.Proofs.YtfcmmchppcffmaaDoor
