/- Both networks in one memory: the program's and the document's. -/
import Derived.Test.YtoinjmddmahpkaaZH
namespace Go.Proofs.Ytoinjmddmahpkaa
open Go.RowKit Go.Maps

/-- What is read of a parcel. -/
def Pc.key (p : Pc) : Bool × Int × Bool × Int × List Int := (p.fa, p.fn, p.ta, p.tn, p.bs)
/-- Two rows of parcels that read alike, place by place. -/
def Like (ps qs : List Pc) : Prop := ps.map Pc.key = qs.map Pc.key
theorem Like.len {ps qs : List Pc} (h : Like ps qs) : ps.length = qs.length := by
  have := congrArg List.length h
  simpa using this
theorem Like.at_ {ps qs : List Pc} (h : Like ps qs) (i : Nat) (hi : i < ps.length) (hj : i < qs.length) : ps[i].key = qs[i].key := by
  have h1 : (ps.map Pc.key)[i]? = (qs.map Pc.key)[i]? := by rw [h]
  rw [List.getElem?_map, List.getElem?_map, List.getElem?_eq_getElem hi, List.getElem?_eq_getElem hj] at h1
  simpa using h1
theorem Like.erase {ps qs : List Pc} (h : Like ps qs) (i : Nat) : Like (ps.eraseIdx i) (qs.eraseIdx i) := by
  unfold Like at *
  rw [List.eraseIdx_eq_take_drop_succ, List.eraseIdx_eq_take_drop_succ, List.map_append, List.map_append, List.map_take, List.map_take, List.map_drop, List.map_drop, h]
theorem Like.app {ps qs : List Pc} (h : Like ps qs) {p q : Pc} (hp : p.key = q.key) : Like (ps ++ [p]) (qs ++ [q]) := by
  unfold Like at *
  rw [List.map_append, List.map_append, h, List.map_cons, List.map_cons, hp, List.map_nil]
def stayK (ga : Bool) (gn : Int) (x : Bool × Int × Bool × Int × List Int) : Bool := !(x.1 == ga && x.2.1 == gn) && !(x.2.2.1 == ga && x.2.2.2.1 == gn)
theorem map_stay (ga : Bool) (gn : Int) (ps : List Pc) : (ps.filter (stay ga gn)).map Pc.key = (ps.map Pc.key).filter (stayK ga gn) := by
  rw [List.filter_map]
  rfl
theorem Like.cut {ps qs : List Pc} (h : Like ps qs) (ga : Bool) (gn : Int) : Like (ps.filter (stay ga gn)) (qs.filter (stay ga gn)) := by
  unfold Like at *
  rw [map_stay, map_stay, h]
theorem Like.getD {ps qs : List Pc} (h : Like ps qs) (i : Nat) : (ps.getD i Pc.none).key = (qs.getD i Pc.none).key := by
  by_cases hi : i < ps.length
  · have hj : i < qs.length := by rw [← h.len]; exact hi
    rw [List.getD_eq_getElem?_getD, List.getD_eq_getElem?_getD, List.getElem?_eq_getElem hi, List.getElem?_eq_getElem hj]
    exact h.at_ i hi hj
  · have hj : ¬ i < qs.length := by rw [← h.len]; exact hi
    rw [List.getD_eq_getElem?_getD, List.getD_eq_getElem?_getD, List.getElem?_eq_none (by omega), List.getElem?_eq_none (by omega)]
theorem Like.swp {ps qs : List Pc} (h : Like ps qs) (i j : Nat) : Like (swp ps i j) (swp qs i j) := by
  have h1 := h.getD i
  have h2 := h.getD j
  unfold Like Proofs.Ytoinjmddmahpkaa.swp at *
  rw [List.map_set, List.map_set, List.map_set, List.map_set, h, h1, h2]
theorem Like.goesTo {ps qs : List Pc} (h : Like ps qs) (ga : Bool) (gn : Int) (i : Nat) : goesTo ga gn ps i = goesTo ga gn qs i := by
  unfold Proofs.Ytoinjmddmahpkaa.goesTo
  by_cases hi : i < ps.length
  · have hj : i < qs.length := by rw [← h.len]; exact hi
    have h1 := h.at_ i hi hj
    rw [List.getElem?_eq_getElem hi, List.getElem?_eq_getElem hj]
    simp only [Pc.key, Prod.mk.injEq] at h1
    simp only [h1.2.2.1, h1.2.2.2.1]
  · have hj : ¬ i < qs.length := by rw [← h.len]; exact hi
    rw [List.getElem?_eq_none (by omega), List.getElem?_eq_none (by omega)]

/-- Both networks, apart from one another; w1 is the memory behind which, but for the blocks of L, their rows were laid. -/
structure Two (L : List Nat) (w1 wr : World) (b m rb : Nat) (v rv : Value) (ps qs : List Pc) (c rc : Cnt) (k rk : Nat) : Prop where
  ns : NS wr b m v ps c k
  rs : RS wr rb rv qs rc rk
  off : ∀ j ∈ foot b m v, j ∉ rfoot rb rv
  kp : Kp L w1 wr
  in_ : b ∈ L ∧ m ∈ L ∧ rb ∈ L
  vn : ∀ q, v.ownBlock = some q → q ∈ L ∨ w1.heap.size ≤ q
  rn : ∀ q, rv.ownBlock = some q → q ∈ L ∨ w1.heap.size ≤ q
theorem Two.bel {L : List Nat} {w1 wr w2 : World} {b m rb : Nat} {v rv : Value} {ps qs : List Pc} {c rc : Cnt} {k rk : Nat} (h : Two L w1 wr b m rb v rv ps qs c rc k rk) (hb : Below wr.heap.size wr w2) : Two L w1 w2 b m rb v rv ps qs c rc k rk :=
  ⟨h.ns.below hb, h.rs.below hb, h.off, h.kp.bel hb, h.in_, h.vn, h.rn⟩
theorem Two.foot_in {L : List Nat} {w1 wr : World} {b m rb : Nat} {v rv : Value} {ps qs : List Pc} {c rc : Cnt} {k rk : Nat} (h : Two L w1 wr b m rb v rv ps qs c rc k rk) : ∀ j ∈ foot b m v, j ∈ L ∨ w1.heap.size ≤ j := by
  intro j hj
  unfold foot at hj
  simp only [List.mem_cons, Option.mem_toList] at hj
  rcases hj with rfl | rfl | hj
  · exact Or.inl h.in_.1
  · exact Or.inl h.in_.2.1
  · exact h.vn j hj
theorem Two.rfoot_in {L : List Nat} {w1 wr : World} {b m rb : Nat} {v rv : Value} {ps qs : List Pc} {c rc : Cnt} {k rk : Nat} (h : Two L w1 wr b m rb v rv ps qs c rc k rk) : ∀ j ∈ rfoot rb rv, j ∈ L ∨ w1.heap.size ≤ j := by
  intro j hj
  unfold rfoot at hj
  simp only [List.mem_cons, Option.mem_toList] at hj
  rcases hj with rfl | hj
  · exact Or.inl h.in_.2.2
  · exact h.rn j hj
/-- The program's network is called. -/
theorem Two.callN {L : List Nat} {w1 wr w2 : World} {b m rb : Nat} {v v' rv : Value} {ps ps' qs : List Pc} {c c' rc : Cnt} {k k' rk : Nat} (h : Two L w1 wr b m rb v rv ps qs c rc k rk) (hx : Nx wr w2 b m v v' ps' c' k') : Two L w1 w2 b m rb v' rv ps' qs c' rc k' rk := by
  refine ⟨hx.ns, h.rs.kp hx.kp (fun j hj hm => h.off j hm hj) h.ns.noBy, ?_, h.kp.trans hx.kp h.foot_in, h.in_, ?_, h.rn⟩
  · intro j hj hm
    have hlt := h.rs.lt j hm
    have hj2 := hj
    unfold foot at hj
    simp only [List.mem_cons, Option.mem_toList] at hj
    rcases hj with rfl | rfl | hj
    · exact h.off _ (by simp [foot]) hm
    · exact h.off _ (by simp [foot]) hm
    · rcases hx.at_ j hj with h1 | h1
      · exact h.off j (by simp [foot, h1]) hm
      · omega
  · intro q hq
    rcases hx.at_ q hq with h1 | h1
    · exact h.vn q h1
    · exact Or.inr (Nat.le_trans h.kp.size h1)
/-- The document's network is called. -/
theorem Two.callR {L : List Nat} {w1 wr w2 : World} {b m rb : Nat} {v rv rv' : Value} {ps qs qs' : List Pc} {c rc rc' : Cnt} {k rk rk' : Nat} (h : Two L w1 wr b m rb v rv ps qs c rc k rk) (hx : Rx wr w2 rb rv rv' qs' rc' rk') : Two L w1 w2 b m rb v rv' ps qs' c rc' k rk' := by
  have hf : ∀ j ∈ foot b m v, j ∉ rfoot rb rv := h.off
  have hnb := h.rs.noBy
  refine ⟨⟨h.ns.blk.kp hx.kp (hf b (by simp [foot])), h.ns.map.kp hx.kp (hf m (by simp [foot])), h.ns.row.kp hx.kp (fun j hj => hf j (by simp [foot, hj])) hnb, h.ns.len, h.ns.c0, h.ns.c1⟩, hx.rs, ?_, h.kp.trans hx.kp h.rfoot_in, h.in_, h.vn, ?_⟩
  · intro j hj hm
    have hlt := h.ns.lt j hj
    unfold rfoot at hm
    simp only [List.mem_cons, Option.mem_toList] at hm
    rcases hm with rfl | hm
    · exact h.off _ hj (by simp [rfoot])
    · rcases hx.at_ j hm with h1 | h1
      · exact h.off j hj (by simp [rfoot, h1])
      · omega
  · intro q hq
    rcases hx.at_ q hq with h1 | h1
    · exact h.rn q h1
    · exact Or.inr (Nat.le_trans h.kp.size h1)
/-- What a call keeps besides: it is looked at from the call's own memory. -/
def feet (b m rb : Nat) (v rv : Value) : List Nat := foot b m v ++ rfoot rb rv
theorem Two.from_ {L : List Nat} {w1 wr : World} {b m rb : Nat} {v rv : Value} {ps qs : List Pc} {c rc : Cnt} {k rk : Nat} (h : Two L w1 wr b m rb v rv ps qs c rc k rk) : Two (feet b m rb v rv) wr wr b m rb v rv ps qs c rc k rk :=
  ⟨h.ns, h.rs, h.off, Kp.refl _ _, ⟨by simp [feet, foot], by simp [feet, foot], by simp [feet, rfoot]⟩, fun q hq => Or.inl (by simp [feet, foot, hq]), fun q hq => Or.inl (by simp [feet, rfoot, hq])⟩
theorem Two.join {L : List Nat} {w1 w w' : World} {b m rb : Nat} {v rv v' rv' : Value} {ps qs ps' qs' : List Pc} {c rc c' rc' : Cnt} {k rk k' rk' : Nat} (h : Two L w1 w b m rb v rv ps qs c rc k rk) (g : Two (feet b m rb v rv) w w' b m rb v' rv' ps' qs' c' rc' k' rk') : Two L w1 w' b m rb v' rv' ps' qs' c' rc' k' rk' := by
  have hin : ∀ j ∈ feet b m rb v rv, j ∈ L ∨ w1.heap.size ≤ j := fun j hj => by
    rcases List.mem_append.1 hj with h1 | h1
    · exact h.foot_in j h1
    · exact h.rfoot_in j h1
  refine ⟨g.ns, g.rs, g.off, h.kp.trans g.kp hin, h.in_, fun q hq => ?_, fun q hq => ?_⟩
  · rcases g.vn q hq with h1 | h1
    · exact hin q h1
    · exact Or.inr (Nat.le_trans h.kp.size h1)
  · rcases g.rn q hq with h1 | h1
    · exact hin q h1
    · exact Or.inr (Nat.le_trans h.kp.size h1)

end Go.Proofs.Ytoinjmddmahpkaa
