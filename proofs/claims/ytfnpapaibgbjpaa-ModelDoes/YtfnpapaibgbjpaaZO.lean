/- Package model: told and write of any call; rows of calls and of results. -/
import Derived.Test.YtfnpapaibgbjpaaZN
import Derived.Test.YtfnpapaibgbjpaaZL1
import Derived.Test.YtfnpapaibgbjpaaZL2
import Derived.Test.YtfnpapaibgbjpaaZL3
import Derived.Test.YtfnpapaibgbjpaaZL4
import Derived.Test.YtfnpapaibgbjpaaZL5
namespace Go.Proofs.Ytfnpapaibgbjpaa
open Go.RowKit Go.Maps

def Ca.cells (c : Ca) : Array Value := #[.int .i64 c.kd, .int .u64 c.key, .int .u64 c.high, .slice c.a c.bs.length c.c]
/-- Its bytes can be read. -/
def RdC (w : World) (c : Ca) : Prop := Rd8 w c.a c.bs ∧ (c.a = none → c.c = 0)
theorem RdC.below {w w' : World} {c : Ca} (h : RdC w c) (hb : Below w.heap.size w w') : RdC w' c := ⟨h.1.below hb, h.2⟩
theorem Ca.kinds {c : Ca} (h : c.ok = true) : (c.kd = 1 ∧ c.bs.length ≤ 1024) ∨ c.kd = 2 ∨ c.kd = 3 ∨ c.kd = 4 ∨ c.kd = 5 := by
  unfold Ca.ok okC at h
  have := of_decide_eq_true h
  omega
theorem told_any (v : Value) (l : List It) (hl : l.length ≤ 100000) (ho : okM l) (c : Ca) (hc : c.ok = true) (w : World) (h : Sl w v l) :
    Calls Try.prog 37 #[v, .agg c.cells] w fun e w' => ∃ r : Rs, e = .returned (.agg r.cells) ∧ r.val = c.told l ∧ RsOk w' w.heap.size r ∧ Below w.heap.size w w' := by
  obtain ⟨kd, key, high, a, cc, bs⟩ := c
  rcases Ca.kinds hc with ⟨h1, -⟩ | h1 | h1 | h1 | h1 <;> simp only [] at h1 <;> subst h1
  · exact told_1 v l hl ho key high a bs.length cc w h
  · exact told_2 v l hl ho key high a bs.length cc w h
  · exact told_3 v l hl ho key high a bs.length cc w h
  · exact told_4 v l hl ho key high a bs.length cc w h
  · exact told_5 v l hl ho key high a bs.length cc w h
theorem write_any (v : Value) (l : List It) (hl : l.length ≤ 100000) (ho : okM l) (c : Ca) (hc : c.ok = true) (w : World) (hr : RdC w c) (h : Ow w v l) :
    Calls Try.prog 38 #[v, .agg c.cells, .int .i64 (c.told l).1] w fun e w' => ∃ v' m, e = .returned v' ∧ Ow w' v' m ∧ m.map It.val = c.wrote l ∧ (v'.ownBlock = v.ownBlock ∨ ∃ q, v'.ownBlock = some q ∧ w.heap.size ≤ q) ∧ Kp v.ownBlock.toList w w' := by
  have hk := Ca.kinds hc
  by_cases he : (c.told l).1 = 0
  · obtain ⟨kd, key, high, a, cc, bs⟩ := c
    unfold Ca.wrote
    rw [he]
    rcases hk with ⟨h1, h2⟩ | h1 | h1 | h1 | h1 <;> simp only [] at h1 <;> subst h1
    · exact write_ins v l hl ho key high a bs cc w hr.1 (by simp only [] at h2; omega) hr.2 h
    · refine write_del v l hl ho key high a bs cc w ?_ h
      apply th_lt
      cases hq : th l key with
      | true => rfl
      | false => simp [Ca.told, tl, hq] at he
    · exact write_read v l hl ho key high a bs cc w 3 (by decide) (by decide) h
    · exact write_read v l hl ho key high a bs cc w 4 (by decide) (by decide) h
    · exact write_read v l hl ho key high a bs cc w 5 (by decide) (by decide) h
  · exact write_err v l c.key c.high c.a c.bs c.c w c.kd (c.told l).1 he h

/-- Calls, in a row. -/
def cas : List Ca → List Value
  | [] => []
  | c :: l => .int .i64 c.kd :: .int .u64 c.key :: .int .u64 c.high :: .slice c.a c.bs.length c.c :: cas l
theorem cas_len : ∀ l : List Ca, (cas l).length = l.length * 4
  | [] => rfl
  | _ :: l => by simp [cas, cas_len l]; omega
theorem cas_get : ∀ (l : List Ca) (j : Nat) (hj : j < l.length), (cas l)[j * 4]? = some (.int .i64 l[j].kd) ∧ (cas l)[j * 4 + 1]? = some (.int .u64 l[j].key) ∧ (cas l)[j * 4 + 2]? = some (.int .u64 l[j].high) ∧ (cas l)[j * 4 + 3]? = some (.slice l[j].a l[j].bs.length l[j].c)
  | c :: l, 0, _ => by simp [cas]
  | c :: l, j + 1, hj => by
    have := cas_get l j (by simpa using hj)
    rw [show (j + 1) * 4 = j * 4 + 1 + 1 + 1 + 1 by omega]
    simpa [cas] using this
theorem cas_one : ∀ (l : List Ca), ∀ u ∈ cas l, u.oneCell' = true
  | [], u, h => by simp [cas] at h
  | p :: l, u, h => by
    simp only [cas, List.mem_cons] at h
    rcases h with rfl | rfl | rfl | rfl | h
    · rfl
    · rfl
    · rfl
    · rfl
    · exact cas_one l u h
/-- A slice of these calls, that can be read. -/
def Cs (w : World) (v : Value) (l : List Ca) : Prop := (∃ a c, v = .slice a l.length c ∧ l.length ≤ c ∧ c ≤ maxLen ∧ ∀ j (_ : j < l.length), ∃ g o, a = some ⟨g, o, none⟩ ∧ ∀ j u, (cas l)[j]? = some u → w.cell? ⟨g, o + j, none⟩ = some u) ∧ ∀ c ∈ l, RdC w c
theorem Cs.below {w w' : World} {v : Value} {l : List Ca} (h : Cs w v l) (hb : Below w.heap.size w w') : Cs w' v l := by
  obtain ⟨⟨a, c, h1, h2, h3, h4⟩, h5⟩ := h
  refine ⟨⟨a, c, h1, h2, h3, fun j hj => ?_⟩, fun c hc => (h5 c hc).below hb⟩
  obtain ⟨g, o, e, h6⟩ := h4 j hj
  exact ⟨g, o, e, fun j u hu => (hb.cell (lt_of_cell (h6 j u hu))).trans (h6 j u hu)⟩
theorem Cs.cells {w : World} {a : Option Addr} {n c : Nat} {l : List Ca} (h : Cs w (.slice a n c) l) (j : Nat) (hj : j < l.length) : ∃ g o, a = some ⟨g, o, none⟩ ∧ w.cell? ⟨g, o + j * 4, none⟩ = some (.int .i64 l[j].kd) ∧ w.cell? ⟨g, o + j * 4 + 1, none⟩ = some (.int .u64 l[j].key) ∧ w.cell? ⟨g, o + j * 4 + 2, none⟩ = some (.int .u64 l[j].high) ∧ w.cell? ⟨g, o + j * 4 + 3, none⟩ = some (.slice l[j].a l[j].bs.length l[j].c) := by
  obtain ⟨⟨a', c', h1, h2, h3, h4⟩, h5⟩ := h
  injection h1 with h1 _ _
  subst h1
  obtain ⟨g, o, e, h6⟩ := h4 j hj
  obtain ⟨q0, q1, q2, q3⟩ := cas_get l j hj
  exact ⟨g, o, e, h6 _ _ q0, h6 _ _ q1, h6 _ _ q2, h6 _ _ q3⟩

theorem Try.infoRes : (Try.prog.info? 46).map (fun i => (i.zero, i.size, i.bytes)) = some (some (.agg #[.int .i64 0, .int .u64 0, .slice none 0 0, .slice none 0 0, .int .i64 0, .int .i64 0, .int .u64 0, .int .i64 0, .int .u64 0, .int .i64 0, .int .i64 0, .int .u64 0, .int .i64 0, .int .u64 0, .bool false]), 15, 152) := by kernel_rfl
theorem rs_one (r : Rs) : ∀ u ∈ r.cells.toList, u.oneCell' = true := by
  intro u hu
  simp only [Rs.cells, List.mem_cons, List.not_mem_nil, or_false] at hu
  rcases hu with rfl | rfl | rfl | rfl | rfl | rfl | rfl | rfl | rfl | rfl | rfl | rfl | rfl | rfl | rfl <;> rfl
theorem rs_size (r : Rs) : r.cells.size = 15 := rfl
def rss (l : List Rs) : List Value := l.flatMap fun r => r.cells.toList
theorem rss_len : ∀ l : List Rs, (rss l).length = l.length * 15
  | [] => rfl
  | r :: l => by
    show (r.cells.toList ++ rss l).length = _
    rw [List.length_append, rss_len l, Array.length_toList, rs_size, List.length_cons]
    omega
/-- A row of results of one's own. -/
structure RRow (w : World) (base : Nat) (v : Value) (l : List Rs) : Prop where
  row : Rw w 46 15 v l.length (rss l)
  ok : ∀ r ∈ l, RsOk w base r
theorem RRow.below {w w' : World} {base : Nat} {v : Value} {l : List Rs} (h : RRow w base v l) (hb : Below w.heap.size w w') : RRow w' base v l := ⟨h.row.below hb, fun r hr => (h.ok r hr).below hb⟩
theorem RRow.nil (w : World) (base : Nat) : RRow w base (.slice none 0 0) [] := ⟨⟨rfl, Or.inl ⟨rfl, rfl⟩⟩, by simp⟩
/-- One result more. -/
theorem RRow.push {w : World} {base : Nat} {v : Value} {l : List Rs} (h : RRow w base v l) (r : Rs) (hr : RsOk w base r) (g c : Nat) (hg : IsB w g r.cells 46) (hlen : l.length ≤ 100000) (ty : TypeId) :
    ∃ qa qc w', (Builtin.append_ #[53, 53] ty #[v, .slice (some ⟨g, 0, none⟩) 1 c]).run Try.prog w = .ok (.slice qa (l.length + 1) qc) w' ∧ RRow w' base (.slice qa (l.length + 1) qc) (l ++ [r]) ∧ w.grownBy w' v.ownBlock ∧ ((Value.slice qa (l.length + 1) qc).ownBlock = v.ownBlock ∨ (Value.slice qa (l.length + 1) qc).ownBlock = some w.heap.size) := by
  obtain ⟨i0, hi0, hz0, hz1, hz2⟩ := info_parts Try.infoRes
  have hcells : ∀ j u, (r.cells.toList)[j]? = some u → w.cell? ((⟨g, 0, none⟩ : Addr).add j) = some u := fun j u hu => by
    rw [add_none, Nat.zero_add, hg.cell j]
    simpa using hu
  obtain ⟨v', w', hrun, hrw, hgr, hat, -⟩ := run_append_rw (P := Try.prog) w 53 ty 46 i0 _ 15 152 Try.underlying53 hi0 hz0 hz1 hz2 rfl v l.length (rss l) h.row (.slice (some ⟨g, 0, none⟩) 1 c) 1 r.cells.toList rfl (Or.inl ⟨⟨g, 0, none⟩, c, rfl, hcells⟩) (rs_one r) (by unfold maxLen; omega) (by omega)
  obtain ⟨qa, qc, rfl, -, -⟩ := hrw.shape
  refine ⟨qa, qc, w', hrun, ⟨?_, fun z hz => ?_⟩, hgr, hat⟩
  · have e : rss (l ++ [r]) = rss l ++ r.cells.toList := by simp [rss]
    rw [e]
    simpa using hrw
  · have hz2 : RsOk w base z := by
      rcases List.mem_append.1 hz with hz | hz
      · exact h.ok z hz
      · simp at hz
        rw [hz]
        exact hr
    have hkind : ∀ k ∈ v.ownBlock.toList, ∃ cur, w.heap[k]? = some (.cells cur 46 (0, 0)) := fun k hk => (h.row.lt k (by simpa using hk)).2
    refine hz2.keep (Kp.of_grown (S := v.ownBlock.toList) hgr (fun k hk => Or.inl (by rw [hk]; simp))) (fun k hk => ?_) (fun k hk e => ?_)
    · obtain ⟨cur, hc⟩ := hkind k hk
      exact ⟨cur, _, hc, by decide⟩
    · obtain ⟨cur, hc⟩ := hkind k hk
      obtain ⟨-, cur2, hc2⟩ := hz2.it.row.lt k e
      exact absurd (cells_inj hc hc2) (by decide)

end Go.Proofs.Ytfnpapaibgbjpaa
