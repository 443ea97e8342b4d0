/- Package net: rows whose bound may be cut, an append upon one; the counts. -/
import Derived.Test.YtoinjmddmahpkaaNA
namespace Go.Proofs.Ytoinjmddmahpkaa
open Go.RowKit Go.Maps

/-- v is a row of n elements, of these cells, from the first cell of a block on; its bound may lie ahead of the block's end. -/
def Rw (w : World) (e : TypeId) (size : Nat) (v : Value) (n : Nat) (xs : List Value) : Prop :=
  xs.length = n * size ∧
  ((v = .slice none 0 0 ∧ n = 0) ∨
   ∃ g cap cur, v = .slice (some ⟨g, 0, none⟩) n cap ∧ w.heap[g]? = some (.cells cur e (0, 0)) ∧ n ≤ cap ∧ cap ≤ maxLen ∧ cap * size ≤ cur.size ∧ cur.toList.take (n * size) = xs)
theorem Rw.of_owns {w : World} {base : Nat} {e : TypeId} {size : Nat} {v : Value} {n : Nat} {xs : List Value} (h : w.ownsRow base e size v n xs) : Rw w e size v n xs := by
  refine ⟨h.1, ?_⟩
  rcases h.2 with h' | ⟨g, cap, cur, hv, hb, hg, h1, h2, h3, h4⟩
  · exact Or.inl h'
  · exact Or.inr ⟨g, cap, cur, hv, hg, h1, h2, by omega, h4⟩
theorem Rw.lt {w : World} {e : TypeId} {size : Nat} {v : Value} {n : Nat} {xs : List Value} (h : Rw w e size v n xs) : ∀ k, v.ownBlock = some k → k < w.heap.size ∧ ∃ cur, w.heap[k]? = some (.cells cur e (0, 0)) := by
  intro k hk
  rcases h.2 with ⟨rfl, _⟩ | ⟨g, cap, cur, rfl, hg, _⟩
  · simp [Value.ownBlock] at hk
  · simp [Value.ownBlock] at hk
    subst hk
    exact ⟨lt_of_heap hg, cur, hg⟩
theorem Rw.form {w : World} {e : TypeId} {size : Nat} {v : Value} {n : Nat} {xs : List Value} (h : Rw w e size v n xs) (hn : 0 < n) : ∃ g cap, v = .slice (some ⟨g, 0, none⟩) n cap ∧ n ≤ cap ∧ cap ≤ maxLen ∧ g < w.heap.size := by
  rcases h.2 with ⟨_, h0⟩ | ⟨g, cap, cur, hv, hg, h1, h2, _⟩
  · omega
  · exact ⟨g, cap, hv, h1, h2, lt_of_heap hg⟩
theorem Rw.shape {w : World} {e : TypeId} {size : Nat} {v : Value} {n : Nat} {xs : List Value} (h : Rw w e size v n xs) : ∃ a cap, v = .slice a n cap ∧ n ≤ cap ∧ cap ≤ maxLen := by
  rcases h.2 with ⟨hv, h0⟩ | ⟨g, cap, cur, hv, hg, h1, h2, _⟩
  · exact ⟨none, 0, by rw [hv, h0], by omega, by unfold maxLen; omega⟩
  · exact ⟨_, cap, hv, h1, h2⟩
theorem Rw.kept {w w' : World} {e : TypeId} {size : Nat} {v : Value} {n : Nat} {xs : List Value} (h : Rw w e size v n xs) (hk : ∀ k, v.ownBlock = some k → w'.heap[k]? = w.heap[k]?) : Rw w' e size v n xs := by
  refine ⟨h.1, ?_⟩
  rcases h.2 with h' | ⟨g, cap, cur, rfl, hg, h1⟩
  · exact Or.inl h'
  · exact Or.inr ⟨g, cap, cur, rfl, (hk g rfl).trans hg, h1⟩
theorem Rw.kp {S : List Nat} {w w' : World} {e : TypeId} {size : Nat} {v : Value} {n : Nat} {xs : List Value} (h : Rw w e size v n xs) (hk : Kp S w w') (hn : ∀ k, v.ownBlock = some k → k ∉ S) : Rw w' e size v n xs :=
  h.kept fun k hv => hk.block k (h.lt k hv).1 (hn k hv)
theorem Rw.below {w w' : World} {e : TypeId} {size : Nat} {v : Value} {n : Nat} {xs : List Value} (h : Rw w e size v n xs) (hb : Below w.heap.size w w') : Rw w' e size v n xs :=
  h.kept fun k hv => hb.block k (h.lt k hv).1
theorem Rw.cellAt {w : World} {e : TypeId} {size g n cap : Nat} {xs : List Value} (h : Rw w e size (.slice (some ⟨g, 0, none⟩) n cap) n xs) (j : Nat) (hj : j < n * size) : w.cell? ⟨g, j, none⟩ = xs[j]? := by
  rcases h.2 with ⟨h', _⟩ | ⟨g', cap', cur, h', hg, _, _, _, htake⟩
  · simp at h'
  · simp only [Value.slice.injEq, Option.some.injEq, Addr.mk.injEq, and_true, true_and] at h'
    obtain ⟨rfl, rfl⟩ := h'
    rw [cell_of_row w g j cur e (0, 0) hg, ← htake, List.getElem?_take, if_pos hj]
    simp
theorem Rw.frozenAt {w : World} {e : TypeId} {size g n cap : Nat} {xs : List Value} (h : Rw w e size (.slice (some ⟨g, 0, none⟩) n cap) n xs) (j : Nat) : w.frozen? ⟨g, j, none⟩ = false := by
  rcases h.2 with ⟨h', _⟩ | ⟨g', cap', cur, h', hg, _⟩
  · simp at h'
  · simp only [Value.slice.injEq, Option.some.injEq, Addr.mk.injEq, and_true, true_and] at h'
    obtain ⟨rfl, rfl⟩ := h'
    exact frozen_of_row w g j cur e hg
theorem Rw.stored {w : World} {e : TypeId} {size g n cap : Nat} {xs : List Value} (h : Rw w e size (.slice (some ⟨g, 0, none⟩) n cap) n xs) (j : Nat) (u : Value) :
    Rw (w.setCell ⟨g, j, none⟩ u) e size (.slice (some ⟨g, 0, none⟩) n cap) n (xs.set j u) := by
  rcases h.2 with ⟨h', _⟩ | ⟨g', cap', cur, h', hg, hnc, hcm, hcs, htake⟩
  · simp at h'
  · simp only [Value.slice.injEq, Option.some.injEq, Addr.mk.injEq, and_true, true_and] at h'
    obtain ⟨rfl, rfl⟩ := h'
    refine ⟨by simpa using h.1, .inr ⟨g, cap, cur.setIfInBounds j u, rfl, heap_setCell_same w g j cur e u hg, hnc, hcm, by simpa using hcs, ?_⟩⟩
    rw [Array.toList_setIfInBounds, ← htake, List.take_set]
/-- The first k elements, with the bound at their end. -/
theorem Rw.head {w : World} {e : TypeId} {size g n cap : Nat} {xs : List Value} (h : Rw w e size (.slice (some ⟨g, 0, none⟩) n cap) n xs) (k c : Nat) (hk : k ≤ n) (hc : k ≤ c) (hc2 : c ≤ cap) : Rw w e size (.slice (some ⟨g, 0, none⟩) k c) k (xs.take (k * size)) := by
  have hkn : k * size ≤ n * size := Nat.mul_le_mul_right _ hk
  refine ⟨by rw [List.length_take, h.1]; omega, ?_⟩
  rcases h.2 with ⟨h', _⟩ | ⟨g', cap', cur, h', hg, hnc, hcm, hcs, htake⟩
  · simp at h'
  · simp only [Value.slice.injEq, Option.some.injEq, Addr.mk.injEq, and_true, true_and] at h'
    obtain ⟨rfl, rfl⟩ := h'
    have h3 : c * size ≤ cap * size := Nat.mul_le_mul_right _ hc2
    exact Or.inr ⟨g, c, cur, rfl, hg, hc, by omega, by omega, by rw [← htake, List.take_take]; congr 1; omega⟩

section
variable {P : Program} (w : World)
theorem run_append_rw (t ty e : TypeId) (i : TypeInfo) (z : Value) (size bytes : Nat) (ht : P.underlying t = some (.slice e)) (hi : P.info? e = some i) (hz : i.zero = some z)
    (hsize : i.size = size) (hby : i.bytes = bytes) (hzs : z.cells.size = size)
    (v : Value) (n : Nat) (xs : List Value) (hown : Rw w e size v n xs)
    (x : Value) (m : Nat) (news : List Value) (hl : news.length = m * size) (hx : (∃ a c, x = .slice (some a) m c ∧ ∀ j u, news[j]? = some u → w.cell? (a.add j) = some u) ∨ (x = .slice none 0 0 ∧ m = 0)) (h1 : ∀ u ∈ news, u.oneCell' = true)
    (h63 : n + m ≤ maxLen) (hbytes : (n + m) * bytes ≤ 140737488355328) :
    ∃ v' w', (Builtin.append_ #[t, t] ty #[v, x]).run P w = .ok v' w' ∧ Rw w' e size v' (n + m) (xs ++ news) ∧ w.grownBy w' v.ownBlock ∧
      (v'.ownBlock = v.ownBlock ∨ v'.ownBlock = some w.heap.size) ∧ (v ≠ .slice none 0 0 → v' ≠ .slice none 0 0) := by
  subst hsize
  subst hby
  have hsmall : n + m ≤ 9223372036854775807 := by simp only [maxLen] at h63; omega
  have hlen : (xs ++ news).length = (n + m) * i.size := by rw [List.length_append, hown.1, hl, Nat.add_mul]
  rcases hx with ⟨a, c, rfl, hnews⟩ | ⟨rfl, rfl⟩
  · have grown : ∀ (old : Nat), old < n + m → ∀ (row : Option Nat),
        Rw (w.drew.alloc (.cells (xs.toArray ++ news.toArray ++ Builtin.zeroCells z.cells (grownCap w (n + m) old e - (n + m))) e)) e i.size
          (.slice (some ⟨w.heap.size, 0, none⟩) (n + m) (grownCap w (n + m) old e)) (n + m) (xs ++ news) ∧
        w.grownBy (w.drew.alloc (.cells (xs.toArray ++ news.toArray ++ Builtin.zeroCells z.cells (grownCap w (n + m) old e - (n + m))) e)) row := by
      intro old ho row
      have hge := grownCap_ge w (n + m) old e
      have hcm : grownCap w (n + m) old e ≤ maxLen := grownCap_le_maxLen w (n + m) old e h63
      refine ⟨⟨hlen, .inr ⟨w.heap.size, _, _, rfl, heap_alloc_new w.drew _, hge, hcm, ?_, ?_⟩⟩, ⟨rfl, rfl, rfl, by simp, fun k hk _ => Below.heap_alloc w.drew _ k hk⟩⟩
      · simp only [Array.size_append, List.size_toArray, size_zeroCells, hzs, hown.1, hl, ← Nat.add_mul]
        apply Nat.le_of_eq
        congr 1
        omega
      · simp only [Array.toList_append, List.append_assoc]
        rw [← List.append_assoc, ← hlen]
        exact List.take_left
    rcases hown.2 with ⟨rfl, rfl⟩ | ⟨g, cap, cur, rfl, hg, hnc, hcm, hcs, htake⟩
    · have hx : xs = [] := List.eq_nil_of_length_eq_zero (by simpa using hown.1)
      subst hx
      by_cases hm : m = 0
      · subst hm
        have hn : news = [] := List.eq_nil_of_length_eq_zero (by simpa using hl)
        subst hn
        refine ⟨.slice none 0 0, w, ?_, ⟨by simp, Or.inl ⟨rfl, rfl⟩⟩, ⟨rfl, rfl, rfl, Nat.le_refl _, fun _ _ _ => rfl⟩, Or.inl rfl, fun h => h⟩
        simp [Builtin.append_, run_underlying ht, sizeOf, typeInfo, hi, Builtin.lenOf, Builtin.firstCells, loadCells, loadCellsFrom]
      · have hr := run_append_nil (P := P) w t ty e i z ht hi hz a m c news hl hnews (by omega) (by omega) (by have hb := hbytes; simp only [Nat.zero_add] at hb; omega)
        have hgr := grown 0 (by omega) (Value.ownBlock (.slice none 0 0))
        simp only [Nat.zero_add, List.nil_append, Array.empty_append] at hgr ⊢
        exact ⟨_, _, hr, hgr.1, hgr.2, Or.inr rfl, fun h => absurd rfl h⟩
    · by_cases hroom : n + m ≤ cap
      · have hfit : n * i.size + news.length ≤ cur.size := by rw [hl, ← Nat.add_mul]; exact Nat.le_trans (Nat.mul_le_mul_right _ hroom) hcs
        have hr := run_append_room (P := P) w t ty e i ht hi g n cap cur hg a m c news hl hnews h1 hroom hfit
        refine ⟨_, _, hr, ⟨hlen, .inr ⟨g, cap, _, rfl, setRow_heap w g cur _ e _ hg, hroom, hcm, ?_, ?_⟩⟩, ⟨rfl, rfl, rfl, by simp, fun k _ hk => setRow_other w g k _ (fun e => hk (by simp [Value.ownBlock, e]))⟩, Or.inl rfl, fun _ h => by cases h⟩
        · simp only [List.size_toArray, List.length_append, List.length_take, List.length_drop, Array.length_toList]
          omega
        · rw [htake, ← hlen]
          exact List.take_left
      · have holds : ∀ j u, xs[j]? = some u → w.cell? ((⟨g, 0, none⟩ : Addr).add j) = some u := by
          intro j u hu
          have hadd : (⟨g, 0, none⟩ : Addr).add j = ⟨g, j, none⟩ := by unfold Addr.add; split <;> simp_all
          have hj : j < n * i.size := by rw [← hown.1]; exact (List.getElem?_eq_some_iff.1 hu).1
          rw [hadd, Rw.cellAt hown j hj]; exact hu
        have hr := run_append_grow (P := P) w t ty e i z ht hi hz ⟨g, 0, none⟩ n cap xs hown.1 holds a m c news hl hnews (by omega) (by omega) (growslice_fits (by omega) hbytes)
        have hgr := grown cap (by omega) (Value.ownBlock (.slice (some ⟨g, 0, none⟩) n cap))
        exact ⟨_, _, hr, hgr.1, hgr.2, Or.inr rfl, fun _ h => by cases h⟩
  · have hn : news = [] := List.eq_nil_of_length_eq_zero (by simpa using hl)
    subst hn
    refine ⟨v, w, ?_, by simpa using hown, ⟨rfl, rfl, rfl, Nat.le_refl _, fun _ _ _ => rfl⟩, Or.inl rfl, fun h => h⟩
    rcases hown.2 with ⟨rfl, rfl⟩ | ⟨g, cap, cur, rfl, _, hnc, _⟩
    · simp [Builtin.append_, run_underlying ht, sizeOf, typeInfo, hi, Builtin.lenOf, Builtin.firstCells]
    · simp [Builtin.append_, run_underlying ht, sizeOf, typeInfo, hi, Builtin.lenOf, Builtin.firstCells, hnc, storeCells]
end

/-- An append whose run is known, at the operation. -/
theorem wpList_append_eq {P : Program} {w : World} {ops : Array Oper} {rest : List Oper} {o : Oper} {a : Act} {Q : Exit → Act → World → Prop} (hg : o.guard = none) (s x : Operand) (t : TypeId)
    (hop : o.op = .call { callee := .builtin .append, args := #[s, x], argTypes := #[t, t] }) (v y v' : Value) (w' : World) (hs : a.eval s = v) (hx : a.eval x = y)
    (hrun : (Builtin.append_ #[t, t] o.type #[v, y]).run P w = .ok v' w') (hK : wpList P ops Q rest (a.put o.dst v') w') : wpList P ops Q (o :: rest) a w := by
  refine wpList_plain hg fun K' hK' => ?_
  unfold Oper.wp
  simp [execOp, hop, resolve, invoke, builtin, hs, hx, hrun, Result.andThen]
  exact hK' _ _ hK
/-- .. at a step of a region that draws its order. -/
theorem step_append_eq {P : Program} {w : World} {ops : Array Oper} {o : Oper} {a : Act} {K : Act → World → Prop} {Q : Exit → Act → World → Prop} {E : Prop} (hg : o.guard = none) (s x : Operand) (t : TypeId)
    (hop : o.op = .call { callee := .builtin .append, args := #[s, x], argTypes := #[t, t] }) (v y v' : Value) (w' : World) (hs : a.eval s = v) (hx : a.eval x = y)
    (hrun : (Builtin.append_ #[t, t] o.type #[v, y]).run P w = .ok v' w') (hK : K (a.put o.dst v') w') : if Region.wanted o (yielded ops a.tmps) = true then Oper.wp P o a w K Q else E := by
  have hw : Region.wanted o (yielded ops a.tmps) = true := by simp [Region.wanted, hg]
  rw [if_pos hw]
  unfold Oper.wp
  simp [execOp, hop, resolve, invoke, builtin, hs, hx, hrun, Result.andThen]
  exact hK

/-- The four counts of a network. -/
structure Cnt where
  p : Int
  l : Int
  d : Int
  r : Int
def Cnt.zero : Cnt := ⟨0, 0, 0, 0⟩
def z0 : DataW Unit := .lit (.int .i64 0)
/-- Block m is the map of these counts; it has at most k entries. -/
def CM (w : World) (m k : Nat) (c : Cnt) : Prop := ∃ D : DataW Unit, w.ownsMap Try.prog 72 (plainElem Try.prog 3) m k D ∧
  D.atKey (.int .i64 0) z0 = .lit (.int .i64 c.p) ∧ D.atKey (.int .i64 1) z0 = .lit (.int .i64 c.l) ∧ D.atKey (.int .i64 2) z0 = .lit (.int .i64 c.d) ∧ D.atKey (.int .i64 3) z0 = .lit (.int .i64 c.r)
theorem CM.heap {w : World} {m k : Nat} {c : Cnt} (h : CM w m k c) : ∃ es cl, w.heap[m]? = some (.map es cl) := by
  obtain ⟨D, ⟨es, cl, h, -⟩, -⟩ := h
  exact ⟨es, cl, h⟩
theorem CM.lt {w : World} {m k : Nat} {c : Cnt} (h : CM w m k c) : m < w.heap.size := by
  obtain ⟨es, cl, h⟩ := h.heap
  exact lt_of_heap h
theorem CM.kept {w w' : World} {m k : Nat} {c : Cnt} (h : CM w m k c) (hb : w'.heap[m]? = w.heap[m]?) : CM w' m k c := by
  obtain ⟨D, ⟨es, cl, h1, h2⟩, h3⟩ := h
  exact ⟨D, ⟨es, cl, hb.trans h1, h2⟩, h3⟩
theorem CM.kp {S : List Nat} {w w' : World} {m k : Nat} {c : Cnt} (h : CM w m k c) (hk : Kp S w w') (hn : m ∉ S) : CM w' m k c := h.kept (hk.block m h.lt hn)
theorem CM.below {w w' : World} {m k : Nat} {c : Cnt} (h : CM w m k c) (hb : Below w.heap.size w w') : CM w' m k c := h.kept (hb.block m h.lt)
theorem CM.mono {w : World} {m k k' : Nat} {c : Cnt} (h : CM w m k c) (hk : k ≤ k') : CM w m k' c := by
  obtain ⟨D, h1, h2⟩ := h
  exact ⟨D, h1.mono hk, h2⟩
theorem CM.made (w : World) : CM (w.alloc (.map #[] 0)) w.heap.size 0 Cnt.zero :=
  ⟨.map [], World.ownsMap_made _ _ _ _, rfl, rfl, rfl, rfl⟩
theorem keyedF : Keyed Try.prog 72 := int_keyed Try.underlying72
theorem zeroI (w : World) : (zeroValue 3).run Try.prog w = .ok (.int .i64 0) w := by kernel_rfl
theorem keyF (j : Int) (hj : (Lit.int .i64 j).wf = true) : keyOf Try.prog 72 (.int .i64 j) = some (.int .i64 j) := keyOf_int_mk Try.underlying72 hj
theorem CM.look {w : World} {m k : Nat} {c : Cnt} (h : CM w m k c) :
    (Instr.lookup 56 (.map (some m)) (.int .i64 0) false).run Try.prog w = .ok (.int .i64 c.p) w ∧
    (Instr.lookup 56 (.map (some m)) (.int .i64 1) false).run Try.prog w = .ok (.int .i64 c.l) w ∧
    (Instr.lookup 56 (.map (some m)) (.int .i64 2) false).run Try.prog w = .ok (.int .i64 c.d) w ∧
    (Instr.lookup 56 (.map (some m)) (.int .i64 3) false).run Try.prog w = .ok (.int .i64 c.r) w := by
  obtain ⟨D, hD, h0, h1, h2, h3⟩ := h
  have key : ∀ (j x : Int), (Lit.int .i64 j).wf = true → D.atKey (.int .i64 j) z0 = .lit (.int .i64 x) → (Instr.lookup 56 (.map (some m)) (.int .i64 j) false).run Try.prog w = .ok (.int .i64 x) w := by
    intro j x hj hx
    obtain ⟨y, hr, hy, -⟩ := hD.lookup_int keyedF Try.underlying56 Try.underlying3 (zeroI w) (keyF j hj)
    have e : (DataW.lit (.int .i64 y) : DataW Unit) = .lit (.int .i64 x) := hy.symm.trans hx
    injection e with e
    injection e with _ e
    rw [hr, e]
  exact ⟨key 0 _ (by decide) h0, key 1 _ (by decide) h1, key 2 _ (by decide) h2, key 3 _ (by decide) h3⟩
theorem put_at (D : DataW Unit) (hD : IsMap D) (j : Int) (d : DataW Unit) : (D.put (.int .i64 j) d).atKey (.int .i64 j) z0 = d := atKey_put_same hD (show WideAt.IsKeyLit (.int .i64 j) from trivial) d z0
theorem put_off (D : DataW Unit) (i j : Int) (h : i ≠ j) (d : DataW Unit) : (D.put (.int .i64 j) d).atKey (.int .i64 i) z0 = D.atKey (.int .i64 i) z0 := atKey_put_other (by intro e; injection e with _ e; exact h e) d z0

theorem wf64 {x : Int} (h0 : -9223372036854775808 ≤ x) (h1 : x ≤ 9223372036854775807) : (Lit.int .i64 x).wf = true := by
  simp [Lit.wf]
  exact ⟨h0, h1⟩
theorem CM.put0 {w : World} {m k : Nat} {c : Cnt} (h : CM w m k c) (hk : k < 1099511627776) (x : Int) (h0 : 0 ≤ x) (h1 : x ≤ 1099511627776) :
    ∃ w', (Instr.mapUpdate 56 (.map (some m)) (.int .i64 0) (.int .i64 x)).run Try.prog w = .ok () w' ∧ CM w' m (k + 1) { c with p := x } ∧ w.grownBy w' (some m) := by
  obtain ⟨D, hD, d0, d1, d2, d3⟩ := h
  obtain ⟨w', hr, ho, hg⟩ := hD.update keyedF Try.underlying56 (by unfold maxLen; omega) (keyF 0 (by decide)) (plainElem_int Try.underlying3 (wf64 (x := x) (by omega) (by omega)))
  exact ⟨w', hr, ⟨_, ho, put_at D hD.isMap 0 _, by rw [put_off _ _ _ (by decide)]; exact d1, by rw [put_off _ _ _ (by decide)]; exact d2, by rw [put_off _ _ _ (by decide)]; exact d3⟩, hg⟩
theorem CM.put1 {w : World} {m k : Nat} {c : Cnt} (h : CM w m k c) (hk : k < 1099511627776) (x : Int) (h0 : 0 ≤ x) (h1 : x ≤ 1099511627776) :
    ∃ w', (Instr.mapUpdate 56 (.map (some m)) (.int .i64 1) (.int .i64 x)).run Try.prog w = .ok () w' ∧ CM w' m (k + 1) { c with l := x } ∧ w.grownBy w' (some m) := by
  obtain ⟨D, hD, d0, d1, d2, d3⟩ := h
  obtain ⟨w', hr, ho, hg⟩ := hD.update keyedF Try.underlying56 (by unfold maxLen; omega) (keyF 1 (by decide)) (plainElem_int Try.underlying3 (wf64 (x := x) (by omega) (by omega)))
  exact ⟨w', hr, ⟨_, ho, by rw [put_off _ _ _ (by decide)]; exact d0, put_at D hD.isMap 1 _, by rw [put_off _ _ _ (by decide)]; exact d2, by rw [put_off _ _ _ (by decide)]; exact d3⟩, hg⟩
theorem CM.put2 {w : World} {m k : Nat} {c : Cnt} (h : CM w m k c) (hk : k < 1099511627776) (x : Int) (h0 : 0 ≤ x) (h1 : x ≤ 1099511627776) :
    ∃ w', (Instr.mapUpdate 56 (.map (some m)) (.int .i64 2) (.int .i64 x)).run Try.prog w = .ok () w' ∧ CM w' m (k + 1) { c with d := x } ∧ w.grownBy w' (some m) := by
  obtain ⟨D, hD, d0, d1, d2, d3⟩ := h
  obtain ⟨w', hr, ho, hg⟩ := hD.update keyedF Try.underlying56 (by unfold maxLen; omega) (keyF 2 (by decide)) (plainElem_int Try.underlying3 (wf64 (x := x) (by omega) (by omega)))
  exact ⟨w', hr, ⟨_, ho, by rw [put_off _ _ _ (by decide)]; exact d0, by rw [put_off _ _ _ (by decide)]; exact d1, put_at D hD.isMap 2 _, by rw [put_off _ _ _ (by decide)]; exact d3⟩, hg⟩
theorem CM.put3 {w : World} {m k : Nat} {c : Cnt} (h : CM w m k c) (hk : k < 1099511627776) (x : Int) (h0 : 0 ≤ x) (h1 : x ≤ 1099511627776) :
    ∃ w', (Instr.mapUpdate 56 (.map (some m)) (.int .i64 3) (.int .i64 x)).run Try.prog w = .ok () w' ∧ CM w' m (k + 1) { c with r := x } ∧ w.grownBy w' (some m) := by
  obtain ⟨D, hD, d0, d1, d2, d3⟩ := h
  obtain ⟨w', hr, ho, hg⟩ := hD.update keyedF Try.underlying56 (by unfold maxLen; omega) (keyF 3 (by decide)) (plainElem_int Try.underlying3 (wf64 (x := x) (by omega) (by omega)))
  exact ⟨w', hr, ⟨_, ho, by rw [put_off _ _ _ (by decide)]; exact d0, by rw [put_off _ _ _ (by decide)]; exact d1, by rw [put_off _ _ _ (by decide)]; exact d2, put_at D hD.isMap 3 _⟩, hg⟩

end Go.Proofs.Ytoinjmddmahpkaa
