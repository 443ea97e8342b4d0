/- NetOnly: what is known at the head of a round; a block of bytes that is none of the network's. -/
import Derived.Test.YtoinjmddmahpkaaNV
namespace Go.Proofs.Ytoinjmddmahpkaa
open Go.RowKit Go.Maps

section
variable {P : Program} {md : Region.Mode} {ops : Array Oper} {Q : Exit → Act → World → Prop} {S : World → Prop} {t : Nat}
/-- Take number i first: its guard says no. -/
theorem pickN (i : Nat) (d : Option Nat) {oi : Oper} {fuel : Nat} {listed : Array Bool} {a : Act} {w : World}
    (hi : ops[i]? = some oi) (hd : oi.dst = d) (hs : Region.noSelect ops = true) (hf : Region.free md ops listed i = true) (hr : (Region.ready md ops listed).contains i = true)
    (hit : i < t) (hQ : ∀ c a w, Q (.panic c) (a.put d undef) w → Q (.panic c) a w) (hwt : Region.wanted oi (yielded ops a.tmps) = false) (hS : S w)
    (h : wpAnyL P md ops Q S t fuel (listed.setIfInBounds i true) (a.put d undef) w) : wpAnyL P md ops Q S t (fuel + 1) listed a w := by
  subst hd
  exact wpAnyL_first (T := fun _ => True) hi (Region.noSelect_spec hs) hQ hit (Or.inl fun _ => trivial) fuel listed a w (Region.free_spec hi hf) (by simpa using hr) (Or.inr ⟨hwt, rfl⟩) (Or.inl fun _ => trivial) trivial (fun _ => hS) h
end

/-- Where a parcel's bytes lie. -/
def Pc.off (p : Pc) (q : Nat) : Prop := ∀ ad, p.a = some ad → ad.block ≠ q
theorem NS.by_lt {w : World} {b m : Nat} {v : Value} {ps : List Pc} {c : Cnt} {k : Nat} (h : NS w b m v ps c k) {p : Pc} (hp : p ∈ ps) : ∀ ad, p.a = some ad → ad.block < w.heap.size := by
  intro ad had
  rcases (h.row.by_ p hp).blk with h1 | ⟨g, cur, h1, h2⟩
  · rw [had] at h1; cases h1
  · rw [had] at h1
    have := Option.some.inj h1
    subst this
    exact lt_of_heap h2
theorem By.kq {w w' : World} {q : Nat} {a : Option Addr} {cap : Nat} {l : List Int} (h : By w a cap l) (hk : Kp [q] w w') (hq : ∀ ad, a = some ad → ad.block ≠ q) : By w' a cap l := by
  refine ⟨h.1.kp hk ?_, h.2⟩
  intro k hv hm
  simp at hm
  cases a with
  | none => simp [Value.ownBlock] at hv
  | some ad =>
    simp [Value.ownBlock] at hv
    exact hq ad rfl (by rw [hv, hm])
/-- A block of bytes that is none of the network's turns. -/
theorem NS.kq {w w' : World} {b m : Nat} {v : Value} {ps : List Pc} {c : Cnt} {k : Nat} {q : Nat} (h : NS w b m v ps c k) (hk : Kp [q] w w') (hq : ∃ cur, w.heap[q]? = some (.cells cur 5 (0, 0))) (hp : ∀ p ∈ ps, p.off q) : NS w' b m v ps c k := by
  obtain ⟨cur, hq⟩ := hq
  have hf : ∀ j ∈ foot b m v, j ∉ [q] := fun j hj hm => by
    simp at hm
    subst hm
    exact h.noBy j hj cur hq
  exact ⟨h.blk.kp hk (hf b (by simp [foot])), h.map.kp hk (hf m (by simp [foot])), ⟨h.row.row.kp hk (fun j hj => hf j (by simp [foot, hj])), fun p hp' => (h.row.by_ p hp').kq hk (hp p hp')⟩, h.len, h.c0, h.c1⟩
theorem Nx.kq {w w1 w2 : World} {b m : Nat} {v v1 : Value} {ps : List Pc} {c : Cnt} {k : Nat} {q : Nat} (h : Nx w w1 b m v v1 ps c k) (hk : Kp [q] w1 w2) (hw : w.heap.size ≤ q) (hq : ∃ cur, w1.heap[q]? = some (.cells cur 5 (0, 0))) (hp : ∀ p ∈ ps, p.off q) : Nx w w2 b m v v1 ps c k :=
  ⟨h.ns.kq hk hq hp, h.kp.trans hk (fun j hj => by simp at hj; subst hj; exact Or.inr hw), h.at_⟩

/-- Are two parcels the same to the one who reads them? -/
def alike (p q : Pc) : Prop := q.fa = p.fa ∧ q.fn = p.fn ∧ q.ta = p.ta ∧ q.tn = p.tn ∧ q.bs = p.bs
/-- What holds at the head of a round: the network; all that was put, as a row; each on its way is one of these. -/
structure Only (w w1 wr : World) (b m : Nat) (u : Value) (k : Nat) (v : Value) (ps : List Pc) (c : Cnt) (als : List Pc) : Prop where
  nx : Nx w1 wr b m (.slice none 0 0) v ps c k
  row : Rw wr 35 5 u als.length (pcs als)
  ub : ∀ q, u.ownBlock = some q → w1.heap.size ≤ q ∧ v.ownBlock ≠ some q
  al : ∀ p ∈ als, (p.a = none → p.cap = 0) ∧ ∃ us : List UInt8, p.bs = nums us ∧ Rd8 w p.a p.bs
  link : ∀ p ∈ ps, ∃ q ∈ als, alike p q
  few : als.length ≤ k
theorem Only.bel {w w1 wr w2 : World} {b m : Nat} {u : Value} {k : Nat} {v : Value} {ps : List Pc} {c : Cnt} {als : List Pc} (h : Only w w1 wr b m u k v ps c als) (hb : Below wr.heap.size wr w2) : Only w w1 w2 b m u k v ps c als :=
  ⟨h.nx.bel hb, h.row.below hb, h.ub, h.al, h.link, h.few⟩
theorem Only.unfoot {w w1 wr : World} {b m : Nat} {u : Value} {k : Nat} {v : Value} {ps : List Pc} {c : Cnt} {als : List Pc} (h : Only w w1 wr b m u k v ps c als) : ∀ q, u.ownBlock = some q → q ∉ foot b m v := by
  intro q hq hm
  obtain ⟨-, cur, hc⟩ := h.row.lt q hq
  unfold foot at hm
  simp only [List.mem_cons, Option.mem_toList] at hm
  rcases hm with rfl | rfl | hm
  · have := h.nx.ns.blk; unfold IsB at this; rw [hc] at this; injection this with this; injection this with _ this; cases this
  · obtain ⟨es, cl, h1⟩ := h.nx.ns.map.heap; rw [hc] at h1; cases h1
  · exact (h.ub q hq).2 hm
/-- A call of the network. -/
theorem Only.call {w w1 wr w2 : World} {b m : Nat} {u : Value} {k k' : Nat} {v v' : Value} {ps ps' : List Pc} {c c' : Cnt} {als : List Pc} (h : Only w w1 wr b m u k v ps c als) (hx : Nx wr w2 b m v v' ps' c' k') (hk : k ≤ k') (hl : ∀ p ∈ ps', ∃ q ∈ als, alike p q) : Only w w1 w2 b m u k' v' ps' c' als := by
  refine ⟨h.nx.trans hx, h.row.kp hx.kp h.unfoot, fun q hq => ⟨(h.ub q hq).1, fun e => ?_⟩, h.al, hl, Nat.le_trans h.few hk⟩
  rcases hx.at_ q e with h1 | h1
  · exact (h.ub q hq).2 h1
  · have := (h.row.lt q hq).1
    omega
/-- A block of bytes turns that is none of the network's. -/
theorem Only.kq {w w1 wr w2 : World} {b m : Nat} {u : Value} {k : Nat} {v : Value} {ps : List Pc} {c : Cnt} {als : List Pc} {q : Nat} (h : Only w w1 wr b m u k v ps c als) (hk : Kp [q] wr w2) (hw : w1.heap.size ≤ q) (hq : ∃ cur, wr.heap[q]? = some (.cells cur 5 (0, 0))) (hp : ∀ p ∈ ps, p.off q) : Only w w1 w2 b m u k v ps c als := by
  refine ⟨h.nx.kq hk hw hq hp, h.row.kp hk (fun j hj hm => ?_), h.ub, h.al, h.link, h.few⟩
  simp at hm
  subst hm
  obtain ⟨cur, hq⟩ := hq
  obtain ⟨-, cur', hc⟩ := h.row.lt j hj
  rw [hq] at hc
  injection hc with hc
  injection hc with _ hc
  cases hc
/-- A block of the round's own turns, of another type. -/
theorem Only.own {w w1 wr w2 : World} {b m : Nat} {u : Value} {k : Nat} {v : Value} {ps : List Pc} {c : Cnt} {als : List Pc} {q : Nat} (h : Only w w1 wr b m u k v ps c als) (hk : Kp [q] wr w2) (hw : w1.heap.size ≤ q) (hn : NoBy wr [q]) (hf : q ∉ foot b m v) (hu : u.ownBlock ≠ some q) : Only w w1 w2 b m u k v ps c als :=
  ⟨h.nx.priv hk (by simpa using hw) (fun j hj hm => by simp at hm; subst hm; exact hf hj) hn, h.row.kp hk (fun j hj hm => by simp at hm; subst hm; exact hu hj), h.ub, h.al, h.link, h.few⟩
/-- One more was put. -/
theorem Only.puts {w w1 wr w2 w3 w4 : World} {b m : Nat} {u u' : Value} {k : Nat} {v v' : Value} {ps : List Pc} {c c' : Cnt} {als : List Pc} {p0 p : Pc} (h : Only w w1 wr b m u k v ps c als) (hx : Nx wr w2 b m v v' (ps ++ [p0]) c' (k + 1)) (hb : Below w2.heap.size w2 w3)
    (hr : Rw w4 35 5 u' (als.length + 1) (pcs als ++ pcs [p])) (hg : w3.grownBy w4 u.ownBlock) (hat : u'.ownBlock = u.ownBlock ∨ u'.ownBlock = some w3.heap.size) (hp : (p.a = none → p.cap = 0) ∧ ∃ us : List UInt8, p.bs = nums us ∧ Rd8 w p.a p.bs) (hal : alike p0 p) :
    Only w w1 w4 b m u' (k + 1) v' (ps ++ [p0]) c' (als ++ [p]) := by
  have hrow3 := (h.row.kp hx.kp h.unfoot).below hb
  have hvu : ∀ q, u.ownBlock = some q → v'.ownBlock ≠ some q := fun q hq e => by
    rcases hx.at_ q e with h1 | h1
    · exact (h.ub q hq).2 h1
    · have := (h.row.lt q hq).1
      omega
  have x3 := (h.nx.trans hx).bel hb
  have hk4 : Kp u.ownBlock.toList w3 w4 := Kp.of_grown hg (fun q hq => Or.inl (by simp [hq]))
  have hnb : NoBy w3 u.ownBlock.toList := fun q hq cur hc => by
    simp at hq
    obtain ⟨-, cur', h1⟩ := hrow3.lt q hq
    rw [hc] at h1
    injection h1 with h1
    injection h1 with _ h1
    cases h1
  have hff : ∀ j ∈ foot b m v', j ∉ u.ownBlock.toList := fun j hj hm => by
    simp at hm
    obtain ⟨-, cur, hc⟩ := hrow3.lt j hm
    unfold foot at hj
    simp only [List.mem_cons, Option.mem_toList] at hj
    rcases hj with rfl | rfl | hj
    · have := x3.ns.blk; unfold IsB at this; rw [hc] at this; injection this with this; injection this with _ this; cases this
    · obtain ⟨es, cl, h1⟩ := x3.ns.map.heap; rw [hc] at h1; cases h1
    · exact hvu j hm hj
  refine ⟨x3.priv hk4 (fun j hj => (h.ub j (by simpa using hj)).1) hff hnb, ?_, fun q hq => ?_, ?_, ?_, by rw [List.length_append]; have := h.few; simp; omega⟩
  · rw [List.length_append, pcs_app]; exact hr
  · rcases hat with h1 | h1
    · rw [h1] at hq
      exact ⟨(h.ub q hq).1, hvu q hq⟩
    · rw [h1] at hq
      have := Option.some.inj hq
      subst this
      refine ⟨x3.kp.size, fun e => ?_⟩
      have := (x3.ns.row.row.lt _ e).1
      omega
  · intro p' hp'
    rcases List.mem_append.1 hp' with h1 | h1
    · exact h.al p' h1
    · simp at h1; subst h1; exact hp
  · intro p' hp'
    rcases List.mem_append.1 hp' with h1 | h1
    · obtain ⟨q, h2, h3⟩ := h.link p' h1
      exact ⟨q, List.mem_append.2 (Or.inl h2), h3⟩
    · simp at h1; subst h1
      exact ⟨p, by simp, hal⟩

end Go.Proofs.Ytoinjmddmahpkaa
