/- Package net: parcels and their bytes; a network in memory; bytes.Clone, own, mayBe. -/
import Derived.Test.YtoinjmddmahpkaaNB
namespace Go.Proofs.Ytoinjmddmahpkaa
open Go.RowKit Go.Maps

theorem Try.infoU8 : (Try.prog.info? 5).map (fun i => (i.zero, i.size, i.bytes)) = some (some (.int .u8 0), 1, 1) := by kernel_rfl
theorem Try.infoP : (Try.prog.info? 35).map (fun i => (i.zero, i.size, i.bytes)) = some (some (.agg #[.bool false, .int .i64 0, .bool false, .int .i64 0, .slice none 0 0]), 5, 56) := by kernel_rfl
theorem Try.infoI : (Try.prog.info? 3).map (fun i => (i.zero, i.size, i.bytes)) = some (some (.int .i64 0), 1, 8) := by kernel_rfl

/-- Bytes as cells. -/
def u8s (l : List Int) : List Value := l.map (Value.int .u8)
theorem u8s_get {l : List Int} {j : Nat} {u : Value} (h : (u8s l)[j]? = some u) : ∃ hj : j < l.length, u = .int .u8 l[j] := by
  unfold u8s at h
  rw [List.getElem?_map] at h
  obtain ⟨x, hx, rfl⟩ := Option.map_eq_some_iff.1 h
  obtain ⟨hj, rfl⟩ := List.getElem?_eq_some_iff.1 hx
  exact ⟨hj, rfl⟩
theorem u8s_len (l : List Int) : (u8s l).length = l.length := by simp [u8s]
theorem u8s_one (l : List Int) : ∀ u ∈ u8s l, u.oneCell' = true := by intro u hu; simp [u8s] at hu; obtain ⟨_, _, rfl⟩ := hu; rfl

/-- These bytes can be read there. -/
def Rd8 (w : World) (a : Option Addr) (l : List Int) : Prop := (a = none ∧ l = []) ∨ ∃ ad, a = some ad ∧ ∀ j (hj : j < l.length), w.cell? (ad.add j) = some (.int .u8 l[j])
theorem Rd8.below {w w' : World} {a : Option Addr} {l : List Int} (h : Rd8 w a l) (hb : Below w.heap.size w w') : Rd8 w' a l := by
  rcases h with h | ⟨ad, h, hc⟩
  · exact Or.inl h
  · refine Or.inr ⟨ad, h, fun j hj => ?_⟩
    exact (hb.cell (lt_of_cell (hc j hj))).trans (hc j hj)

/-- The slice is a row of these bytes in a block of its own, or nil. -/
def By (w : World) (a : Option Addr) (cap : Nat) (l : List Int) : Prop := Rw w 5 1 (.slice a l.length cap) l.length (u8s l) ∧ l.length ≤ 262144
theorem add_none (g o j : Nat) : (⟨g, o, none⟩ : Addr).add j = ⟨g, o + j, none⟩ := by
  unfold Addr.add; split <;> simp_all
theorem By.rd {w : World} {a : Option Addr} {cap : Nat} {l : List Int} (h : By w a cap l) : Rd8 w a l := by
  rcases h.1.2 with ⟨h1, h2⟩ | ⟨g, c, cur, h1, hg, _⟩
  · injection h1 with h1 _ _
    exact Or.inl ⟨h1, List.eq_nil_of_length_eq_zero h2⟩
  · have h1' := h1
    injection h1' with h2 _ h3
    subst h2
    refine Or.inr ⟨_, rfl, fun j hj => ?_⟩
    rw [add_none, Nat.zero_add, Rw.cellAt h.1 j (by omega)]
    unfold u8s
    rw [List.getElem?_map, List.getElem?_eq_getElem hj]; rfl
theorem By.blk {w : World} {a : Option Addr} {cap : Nat} {l : List Int} (h : By w a cap l) : a = none ∨ ∃ g cur, a = some ⟨g, 0, none⟩ ∧ w.heap[g]? = some (.cells cur 5 (0, 0)) := by
  rcases h.1.2 with ⟨h1, h2⟩ | ⟨g, c, cur, h1, hg, _⟩
  · injection h1 with h1 _ _
    exact Or.inl h1
  · injection h1 with h2 _ h3
    exact Or.inr ⟨g, cur, h2, hg⟩
/-- Bytes stay where no block of bytes turns. -/
def NoBy (w : World) (S : List Nat) : Prop := ∀ k ∈ S, ∀ cur, w.heap[k]? ≠ some (.cells cur 5 (0, 0))
theorem By.kp {S : List Nat} {w w' : World} {a : Option Addr} {cap : Nat} {l : List Int} (h : By w a cap l) (hk : Kp S w w') (hn : NoBy w S) : By w' a cap l := by
  refine ⟨h.1.kp hk ?_, h.2⟩
  intro k hv hm
  obtain ⟨-, cur, hc⟩ := h.1.lt k hv
  exact hn k hm cur hc
theorem By.below {w w' : World} {a : Option Addr} {cap : Nat} {l : List Int} (h : By w a cap l) (hb : Below w.heap.size w w') : By w' a cap l := ⟨h.1.below hb, h.2⟩

/-- A parcel: its cells, and its bytes. -/
structure Pc where
  fa : Bool
  fn : Int
  ta : Bool
  tn : Int
  a : Option Addr
  cap : Nat
  bs : List Int
def Pc.cs (p : Pc) : List Value := [.bool p.fa, .int .i64 p.fn, .bool p.ta, .int .i64 p.tn, .slice p.a p.bs.length p.cap]
def Pc.val (p : Pc) : Value := .agg #[.bool p.fa, .int .i64 p.fn, .bool p.ta, .int .i64 p.tn, .slice p.a p.bs.length p.cap]
def Pc.none : Pc := ⟨false, 0, false, 0, Option.none, 0, []⟩
def pcs (ps : List Pc) : List Value := ps.flatMap Pc.cs
theorem pcs_len (ps : List Pc) : (pcs ps).length = ps.length * 5 := by
  induction ps with
  | nil => rfl
  | cons p r ih => unfold pcs at *; rw [List.flatMap_cons, List.length_append, ih]; simp [Pc.cs]; omega
theorem pcs_one (ps : List Pc) : ∀ u ∈ pcs ps, u.oneCell' = true := by
  intro u hu
  unfold pcs at hu
  obtain ⟨p, -, hp⟩ := List.mem_flatMap.1 hu
  simp [Pc.cs] at hp
  rcases hp with rfl | rfl | rfl | rfl | rfl <;> rfl
theorem pcs_app (a b : List Pc) : pcs (a ++ b) = pcs a ++ pcs b := by unfold pcs; rw [List.flatMap_append]
theorem pcs_get (ps : List Pc) (i : Nat) (hi : i < ps.length) (j : Nat) (hj : j < 5) : (pcs ps)[i * 5 + j]? = ps[i].cs[j]? := by
  induction ps generalizing i with
  | nil => simp at hi
  | cons p r ih =>
    unfold pcs at *
    rw [List.flatMap_cons]
    cases i with
    | zero => rw [List.getElem?_append_left (by simp [Pc.cs]; omega)]; simp
    | succ i =>
      rw [List.getElem?_append_right (by simp [Pc.cs]; omega)]
      have e : (i + 1) * 5 + j - p.cs.length = i * 5 + j := by simp [Pc.cs]; omega
      rw [e, ih i (by simpa using hi)]
      simp
theorem pcs_take (ps : List Pc) (i : Nat) : (pcs ps).take (i * 5) = pcs (ps.take i) := by
  induction ps generalizing i with
  | nil => simp [pcs]
  | cons p r ih =>
    cases i with
    | zero => simp [pcs]
    | succ i =>
      have e : (i + 1) * 5 = p.cs.length + i * 5 := by simp [Pc.cs]; omega
      have h := ih i
      unfold pcs at *
      rw [List.flatMap_cons, List.take_succ_cons, List.flatMap_cons, e, List.take_length_add_append, h]
theorem pcs_drop (ps : List Pc) (i : Nat) : (pcs ps).drop (i * 5) = pcs (ps.drop i) := by
  induction ps generalizing i with
  | nil => simp [pcs]
  | cons p r ih =>
    cases i with
    | zero => simp [pcs]
    | succ i =>
      have e : (i + 1) * 5 = p.cs.length + i * 5 := by simp [Pc.cs]; omega
      have h := ih i
      unfold pcs at *
      rw [List.flatMap_cons, List.drop_succ_cons, e, List.drop_length_add_append, h]

/-- A row of parcels, each with bytes of its own. -/
structure PR (w : World) (v : Value) (ps : List Pc) : Prop where
  row : Rw w 35 5 v ps.length (pcs ps)
  by_ : ∀ p ∈ ps, By w p.a p.cap p.bs
theorem PR.kp {S : List Nat} {w w' : World} {v : Value} {ps : List Pc} (h : PR w v ps) (hk : Kp S w w') (hn : ∀ k, v.ownBlock = some k → k ∉ S) (hb : NoBy w S) : PR w' v ps :=
  ⟨h.row.kp hk hn, fun p hp => (h.by_ p hp).kp hk hb⟩
theorem PR.below {w w' : World} {v : Value} {ps : List Pc} (h : PR w v ps) (hb : Below w.heap.size w w') : PR w' v ps :=
  ⟨h.row.below hb, fun p hp => (h.by_ p hp).below hb⟩

/-- A network: its block b, its map m, its row v of parcels, its counts; at most k entries in the map. -/
structure NS (w : World) (b m : Nat) (v : Value) (ps : List Pc) (c : Cnt) (k : Nat) : Prop where
  blk : IsB w b #[v, .map (some m)] 58
  map : CM w m k c
  row : PR w v ps
  len : ps.length ≤ 4096
  c0 : 0 ≤ c.p ∧ 0 ≤ c.l ∧ 0 ≤ c.d ∧ 0 ≤ c.r
  c1 : c.p ≤ k * 4096 ∧ c.l ≤ k * 4096 ∧ c.d ≤ k * 4096 ∧ c.r ≤ k * 4096
/-- The blocks that a network may write. -/
def foot (b m : Nat) (v : Value) : List Nat := b :: m :: v.ownBlock.toList
theorem NS.noBy {w : World} {b m : Nat} {v : Value} {ps : List Pc} {c : Cnt} {k : Nat} (h : NS w b m v ps c k) : NoBy w (foot b m v) := by
  intro j hj cur hc
  unfold foot at hj
  simp only [List.mem_cons, Option.mem_toList] at hj
  rcases hj with rfl | rfl | hj
  · have := h.blk; unfold IsB at this; rw [hc] at this; injection this with this; injection this with _ this; cases this
  · obtain ⟨es, cl, h1⟩ := h.map.heap; rw [hc] at h1; cases h1
  · obtain ⟨-, cur', h1⟩ := h.row.row.lt j hj; rw [hc] at h1; injection h1 with h1; injection h1 with _ h1; cases h1
theorem NS.kp {S : List Nat} {w w' : World} {b m : Nat} {v : Value} {ps : List Pc} {c : Cnt} {k : Nat} (h : NS w b m v ps c k) (hk : Kp S w w') (hn : ∀ j ∈ foot b m v, j ∉ S) (hb : NoBy w S) : NS w' b m v ps c k :=
  ⟨h.blk.kp hk (hn b (by simp [foot])), h.map.kp hk (hn m (by simp [foot])), h.row.kp hk (fun j hj => hn j (by simp [foot, hj])) hb, h.len, h.c0, h.c1⟩
theorem NS.below {w w' : World} {b m : Nat} {v : Value} {ps : List Pc} {c : Cnt} {k : Nat} (h : NS w b m v ps c k) (hb : Below w.heap.size w w') : NS w' b m v ps c k :=
  ⟨h.blk.below hb, h.map.below hb, h.row.below hb, h.len, h.c0, h.c1⟩

theorem slice_nil (a : Addr) (len cap : Nat) (w : World) : (binOp .eql 33 (.slice (some a) len cap) (.slice none 0 0)).run Try.prog w = .ok (.bool false) w := by kernel_rfl

theorem slice_nil_nil (w : World) : (binOp .eql 33 (.slice none 0 0) (.slice none 0 0)).run Try.prog w = .ok (.bool true) w := by kernel_rfl

set_option maxHeartbeats 1000000 in
set_option maxRecDepth 100000 in
theorem clone_any (a : Option Addr) (cap : Nat) (l : List Int) (hl : l.length ≤ 262144) (hn : a = none → cap = 0) (w : World) (hr : Rd8 w a l) :
    Calls Try.prog 43 #[.slice a l.length cap] w fun e w' => ∃ a' c', e = .returned (.slice a' l.length c') ∧ By w' a' c' l ∧ (∀ ad, a' = some ad → w.heap.size ≤ ad.block) ∧ (a' = none → c' = 0) ∧ Below w.heap.size w w' := by
  rcases hr with ⟨rfl, rfl⟩ | ⟨ad, rfl, hc⟩
  · rw [hn rfl]
    have hsn := slice_nil_nil
    go_enter Try.func43, Try.ntmps43
    go_wp2
    go_ret
    exact ⟨none, 0, rfl, ⟨⟨rfl, Or.inl ⟨rfl, rfl⟩⟩, by simp⟩, by simp, fun _ => rfl, Below.refl _ _⟩
  · obtain ⟨i0, hi, hz0, hz1, hz2⟩ := info_parts Try.infoU8
    have hown0 : Rw (w.alloc (.cells #[] 5)) 5 1 (.slice (some ⟨w.heap.size, 0, none⟩) 0 0) 0 [] := ⟨rfl, Or.inr ⟨_, 0, #[], rfl, heap_new w _, Nat.le_refl _, by unfold maxLen; omega, by simp, rfl⟩⟩
    have hnews : ∀ j u, (u8s l)[j]? = some u → (w.alloc (.cells #[] 5)).cell? (ad.add j) = some u := by
      intro j u hu
      obtain ⟨hj, rfl⟩ := u8s_get hu
      exact (((Below.refl _ w).alloc (Nat.le_refl _) _).cell (lt_of_cell (hc j hj))).trans (hc j hj)
    obtain ⟨v', w4, hrun, hrw, hgr, hat, hnn⟩ := run_append_rw (P := Try.prog) (w.alloc (.cells #[] 5)) 33 33 5 i0 (.int .u8 0) 1 1 Try.underlying33 hi hz0 hz1 hz2 rfl _ 0 [] hown0
      (.slice (some ad) l.length cap) l.length (u8s l) (by rw [u8s_len]; omega) (Or.inl ⟨ad, cap, rfl, hnews⟩) (u8s_one l) (by unfold maxLen; omega) (by omega)
    rw [Nat.zero_add, List.nil_append] at hrw
    have HB := hide (((Below.refl _ w).alloc (Nat.le_refl _) (.cells #[] 5)).grown hgr (by simp) (fun k hk => by simp [Value.ownBlock] at hk; omega))
    have HN := hide (hnn (by intro h; cases h))
    have HT := hide hat
    have HW := hide hrw
    clear hgr hat hrw hnn hown0 hnews hc
    have hsn := slice_nil
    have HR := hide hrun
    clear hrun
    generalize hL : l.length = L at *
    go_enter Try.func43, Try.ntmps43
    go_wp2_with (at_builtin; refine wpList_append_eq rfl (.tmp 5) (.tmp 6) 33 rfl _ _ v' w4 rfl rfl HR.out ?_)
    go_ret
    rcases HW.out.2 with ⟨h, _⟩ | ⟨g, c, cur, rfl, hg, hrest⟩
    · exact absurd h HN.out
    · refine ⟨some ⟨g, 0, none⟩, c, rfl, ⟨by rw [hL]; exact HW.out, by omega⟩, ?_, by simp, HB.out⟩
      intro ad' h
      injection h with h
      subst h
      rcases HT.out with h | h <;> simp [Value.ownBlock] at h <;> simp <;> omega

end Go.Proofs.Ytoinjmddmahpkaa
