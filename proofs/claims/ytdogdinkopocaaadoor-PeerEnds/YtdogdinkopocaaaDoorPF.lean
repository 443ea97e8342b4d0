/- A peer in memory; what its calls keep. -/
import Derived.Test.YtdogdinkopocaaaDoorPE
namespace Go.Proofs.YtdogdinkopocaaaDoor
open Go.RowKit Go.Maps

/-- Waiters as cells. -/
def wts (l : List Wt) : List Value := l.flatMap fun x => [.int .i64 x.1, .int .i64 x.2]
/-- A peer's state: what others know of it, its value, its records, who waits for a lock, who waits to mark it, how many have waited. -/
structure PS where
  me : Rf
  val : List Int
  jn : Bool
  mr : Bool
  L : Tb
  K : List (Cc × Wt)
  M : List Wt
  n : Int
/-- Block p is a peer. -/
structure PAt (w : World) (base p lp lm km : Nat) (va : Option Addr) (vc : Nat) (ma : Option Addr) (mc : Nat) (s : PS) : Prop where
  blk : IsB w p #[.int .i64 s.me.1, .int .i64 s.me.2.1, .int .u64 s.me.2.2.1, .int .i64 s.me.2.2.2.1, .int .u64 s.me.2.2.2.2, .slice va s.val.length vc, .bool s.jn, .bool s.mr, .pointer (some ⟨lp, 0, none⟩), .map (some km), .slice ma s.M.length mc, .int .i64 s.n] 78
  by_ : By w va vc s.val
  lk : LK w base lp lm s.me s.L
  kmap : WMp w km s.K
  row : Rw w 116 2 (.slice ma s.M.length mc) s.M.length (wts s.M)
  ne : km ≠ lm
  lo : base ≤ p ∧ base ≤ km ∧ ∀ k, (Value.slice ma s.M.length mc).ownBlock = some k → base ≤ k
theorem PAt.below {w w' : World} {base p lp lm km : Nat} {va : Option Addr} {vc : Nat} {ma : Option Addr} {mc : Nat} {s : PS} (h : PAt w base p lp lm km va vc ma mc s) (hb : Below w.heap.size w w') : PAt w' base p lp lm km va vc ma mc s :=
  ⟨h.blk.below hb, h.by_.below hb, h.lk.below hb, h.kmap.below hb, h.row.below hb, h.ne, h.lo⟩
/-- What stays whatever a peer is asked: blocks of other types, other maps. -/
structure Kpt (km lm : Nat) (w w' : World) : Prop where
  size : w.heap.size ≤ w'.heap.size
  cells : ∀ (k : Nat) (cur : Array Value) (t : TypeId), w.heap[k]? = some (.cells cur t (0, 0)) → t ≠ 128 → t ≠ 154 → t ≠ 78 → t ≠ 116 → w'.heap[k]? = some (.cells cur t (0, 0))
  maps : ∀ (k : Nat) (es : Array MapEntry) (cl : Nat), w.heap[k]? = some (.map es cl) → k ≠ km → k ≠ lm → w'.heap[k]? = some (.map es cl)
theorem Kpt.trans {km lm : Nat} {a b c : World} (h : Kpt km lm a b) (k : Kpt km lm b c) : Kpt km lm a c :=
  ⟨Nat.le_trans h.size k.size, fun j cur t h0 h1 h2 h3 h4 => k.cells j cur t (h.cells j cur t h0 h1 h2 h3 h4) h1 h2 h3 h4, fun j es cl h0 h1 h2 => k.maps j es cl (h.maps j es cl h0 h1 h2) h1 h2⟩
theorem Kpt.of_below {km lm : Nat} {a b : World} (h : Below a.heap.size a b) : Kpt km lm a b :=
  ⟨h.size, fun j _ _ h0 _ _ _ _ => (h.block j (lt_of_heap h0)).trans h0, fun j _ _ h0 _ _ => (h.block j (lt_of_heap h0)).trans h0⟩
theorem Kpt.isB {km lm : Nat} {w w' : World} (h : Kpt km lm w w') {b : Nat} {cs : Array Value} {t : TypeId} (hb : IsB w b cs t) (h1 : t ≠ 128) (h2 : t ≠ 154) (h3 : t ≠ 78) (h4 : t ≠ 116) : IsB w' b cs t := h.cells b cs t hb h1 h2 h3 h4
theorem Kpt.of_kp {km lm : Nat} {w w' : World} {S : List Nat} (h : Kp S w w') (hS : ∀ k ∈ S, (∀ cur t, w.heap[k]? = some (.cells cur t (0, 0)) → t = 128 ∨ t = 154 ∨ t = 78 ∨ t = 116) ∧ (∀ es cl, w.heap[k]? = some (.map es cl) → k = km ∨ k = lm)) : Kpt km lm w w' := by
  refine ⟨h.size, fun j cur t h0 h1 h2 h3 h4 => ?_, fun j es cl h0 h1 h2 => ?_⟩
  · refine (h.block j (lt_of_heap h0) fun hm => ?_).trans h0
    rcases (hS j hm).1 cur t h0 with e | e | e | e
    · exact h1 e
    · exact h2 e
    · exact h3 e
    · exact h4 e
  · refine (h.block j (lt_of_heap h0) fun hm => ?_).trans h0
    rcases (hS j hm).2 es cl h0 with e | e
    · exact h1 e
    · exact h2 e
theorem cells_inj {w : World} {k : Nat} {cs cs' : Array Value} {t t' : TypeId} (h : w.heap[k]? = some (.cells cs t (0, 0))) (h' : w.heap[k]? = some (.cells cs' t' (0, 0))) : t' = t := by
  rw [h] at h'
  injection h' with h'
  injection h' with _ h'
  exact h'.symm
theorem KX.kpt {w w' : World} {base lp lm km : Nat} {me : Rf} {L L' : Tb} (x : KX w w' base lp lm me L L') (h : LK w base lp lm me L) : Kpt km lm w w' := by
  refine Kpt.of_kp x.kp fun k hk => ?_
  rcases mem_foot.1 hk with rfl | ⟨e, he, rfl | rfl⟩
  · refine ⟨fun cur t h0 => absurd rfl (h.map.off (b := k) (cs := cur) (t := t) h0), fun es cl _ => Or.inr rfl⟩
  · exact ⟨fun cur t h0 => Or.inl (cells_inj (h.recs e he).blk h0), fun es cl h0 => by have := (h.recs e he).blk; unfold IsB at this; rw [h0] at this; cases this⟩
  · exact ⟨fun cur t h0 => Or.inr (Or.inl (cells_inj (h.recs e he).ls.blk h0)), fun es cl h0 => by have := (h.recs e he).ls.blk; unfold IsB at this; rw [h0] at this; cases this⟩
theorem WMp.blk {w : World} {m : Nat} {L : List (Cc × Wt)} (h : WMp w m L) : ∃ es cl, w.heap[m]? = some (.map es cl) := by
  obtain ⟨es, cl, h, -⟩ := h
  exact ⟨es, cl, h⟩
/-- Bytes, waiters, the map of those that wait stay through a call of the records. -/
theorem PAt.kx {w w' : World} {base p lp lm km : Nat} {va : Option Addr} {vc : Nat} {ma : Option Addr} {mc : Nat} {s : PS} (h : PAt w base p lp lm km va vc ma mc s) {L' : Tb} (x : KX w w' base lp lm s.me s.L L') : PAt w' base p lp lm km va vc ma mc { s with L := L' } := by
  refine ⟨h.blk.kp x.kp (h.lk.off h.blk (by decide) (by decide)), h.by_.kp x.kp ?_, x.lk, h.kmap.kp x.kp ?_, h.row.kp x.kp ?_, h.ne, h.lo⟩
  · intro k hk cur h0
    exact h.lk.off (b := k) (cs := cur) h0 (by decide) (by decide) hk
  · intro hk
    obtain ⟨es, cl, hm⟩ := h.kmap.blk
    rcases mem_foot.1 hk with e | ⟨e, he, e1 | e1⟩
    · exact h.ne e
    · rw [e1] at hm
      have := (h.lk.recs e he).blk
      unfold IsB at this
      rw [hm] at this
      cases this
    · rw [e1] at hm
      have := (h.lk.recs e he).ls.blk
      unfold IsB at this
      rw [hm] at this
      cases this
  · intro k hv hk
    obtain ⟨-, cur, hc⟩ := h.row.lt k hv
    exact h.lk.off (b := k) (cs := cur) hc (by decide) (by decide) hk
theorem LK.rows {w : World} {base p m : Nat} {me : Rf} {L : Tb} (h : LK w base p m me L) {F : Nat} {cs : Array Value} {t : TypeId} (hF : IsB w F cs t) (ht : t ≠ 52) : ∀ e ∈ L, ∀ k, e.2.v.ownBlock = some k → k ≠ F := fun e he _ hk => (h.recs e he).row_off hk hF ht
/-- The peer's own cells turn. -/
theorem PAt.own {w w' : World} {base p lp lm km : Nat} {va : Option Addr} {vc : Nat} {ma : Option Addr} {mc : Nat} {s : PS} (h : PAt w base p lp lm km va vc ma mc s) (hk : Kp [p] w w') : By w' va vc s.val ∧ LK w' base lp lm s.me s.L ∧ WMp w' km s.K ∧ Rw w' 116 2 (.slice ma s.M.length mc) s.M.length (wts s.M) ∧ Kpt km lm w w' ∧ (base ≤ w.heap.size → Below base w w') := by
  refine ⟨h.by_.kp hk ?_, h.lk.own h.blk (by decide) (by decide) (by decide) hk (h.lk.rows h.blk (by decide)), h.kmap.kp hk ?_, h.row.kp hk ?_, Kpt.of_kp hk ?_, fun hB => hk.to_below hB ?_⟩
  · intro k hm cur h0
    simp only [List.mem_cons, List.not_mem_nil, or_false] at hm
    subst hm
    exact absurd (cells_inj h.blk h0) (by decide)
  · simp only [List.mem_cons, List.not_mem_nil, or_false]
    exact fun e => h.kmap.off h.blk e.symm
  · intro k hv hm
    simp only [List.mem_cons, List.not_mem_nil, or_false] at hm
    subst hm
    obtain ⟨-, cur, hc⟩ := h.row.lt k hv
    exact absurd (cells_inj h.blk hc) (by decide)
  · intro k hm
    simp only [List.mem_cons, List.not_mem_nil, or_false] at hm
    subst hm
    exact ⟨fun cur t h0 => Or.inr (Or.inr (Or.inl (cells_inj h.blk h0))), fun es cl h0 => by have := h.blk; unfold IsB at this; rw [h0] at this; cases this⟩
  · intro k hm
    simp only [List.mem_cons, List.not_mem_nil, or_false] at hm
    subst hm
    exact h.lo.1
/-- The map of those that wait turns. -/
theorem PAt.tomap {w w' : World} {base p lp lm km : Nat} {va : Option Addr} {vc : Nat} {ma : Option Addr} {mc : Nat} {s : PS} (h : PAt w base p lp lm km va vc ma mc s) (hk : Kp [km] w w') {K' : List (Cc × Wt)} (hm : WMp w' km K') : PAt w' base p lp lm km va vc ma mc { s with K := K' } ∧ Kpt km lm w w' ∧ (base ≤ w.heap.size → Below base w w') := by
  obtain ⟨es, cl, hkm⟩ := h.kmap.blk
  have noc : ∀ {b : Nat} {cs : Array Value} {t : TypeId}, w.heap[b]? = some (.cells cs t (0, 0)) → b ∉ [km] := by
    intro b cs t h0 hb
    simp only [List.mem_cons, List.not_mem_nil, or_false] at hb
    subst hb
    rw [hkm] at h0
    cases h0
  refine ⟨⟨h.blk.kp hk (noc h.blk), h.by_.kp hk ?_, ⟨h.lk.blk.kp hk (noc h.lk.blk), h.lk.map.kp hk ?_, fun e he => RecAt.kp (h.lk.recs e he) hk (noc (h.lk.recs e he).blk) (noc (h.lk.recs e he).ls.blk) ?_, h.lk.ap, h.lk.al, h.lk.lo⟩, hm, h.row.kp hk ?_, h.ne, h.lo⟩, Kpt.of_kp hk ?_, fun hB => hk.to_below hB ?_⟩
  · intro k hk0 cur h0
    exact noc h0 hk0
  · simp only [List.mem_cons, List.not_mem_nil, or_false]
    exact fun e => h.ne e.symm
  · intro k hv
    obtain ⟨cur, hc⟩ := row_cells (h.lk.recs e he).ls.row hv
    exact noc hc
  · intro k hv
    obtain ⟨-, cur, hc⟩ := h.row.lt k hv
    exact noc hc
  · intro k hm0
    simp only [List.mem_cons, List.not_mem_nil, or_false] at hm0
    subst hm0
    exact ⟨fun cur t h0 => absurd hkm (by rw [h0]; intro q; cases q), fun _ _ _ => Or.inl rfl⟩
  · intro k hm0
    simp only [List.mem_cons, List.not_mem_nil, or_false] at hm0
    subst hm0
    exact h.lo.2.1
/-- What an ask makes of a peer. -/
structure PX (w w' : World) (base p lp lm km : Nat) (s' : PS) : Prop where
  at_ : ∃ va vc ma mc, PAt w' base p lp lm km va vc ma mc s'
  low : Below base w w'
  kpt : Kpt km lm w w'

/-- A peer that nobody made. -/
def NoPeer (w : World) (p : Value) : Prop := p = .pointer none ∨ ∃ b, p = .pointer (some ⟨b, 0, none⟩) ∧ IsB w b #[.int .i64 0, .int .i64 0, .int .u64 0, .int .i64 0, .int .u64 0, .slice none 0 0, .bool false, .bool false, .pointer none, .map none, .slice none 0 0, .int .i64 0] 78
theorem NoPeer.below {w w' : World} {p : Value} (h : NoPeer w p) (hb : Below w.heap.size w w') : NoPeer w' p := by
  rcases h with h | ⟨b, h, hB⟩
  · exact Or.inl h
  · exact Or.inr ⟨b, h, hB.below hb⟩
theorem NoPeer.alloc {w : World} {p : Value} (h : NoPeer w p) (o : Obj) : NoPeer (w.alloc o) p := h.below ((Below.refl _ _).alloc (Nat.le_refl _) o)

set_option maxHeartbeats 2000000 in
theorem pmade_no (p : Value) (w : World) (h : NoPeer w p) : Calls Tryd.prog 18 #[p] w fun e w' => e = .returned (.bool false) ∧ w' = w := by
  rcases h with rfl | ⟨b, rfl, hb⟩
  · go_enter Tryd.func18, Tryd.ntmps18
    go_wp2
    go_ret
    exact ⟨rfl, rfl⟩
  · have c8 := hb.cell 8
    simp at c8
    clear hb
    go_enter Tryd.func18, Tryd.ntmps18
    go_wp2
    go_ret
    exact ⟨rfl, rfl⟩

set_option maxHeartbeats 2000000 in
theorem pmade_yes (base p lp lm km : Nat) (va : Option Addr) (vc : Nat) (ma : Option Addr) (mc : Nat) (s : PS) (w : World) (h : PAt w base p lp lm km va vc ma mc s) : Calls Tryd.prog 18 #[.pointer (some ⟨p, 0, none⟩)] w fun e w' => e = .returned (.bool true) ∧ w' = w := by
  have c8 := h.blk.cell 8
  simp at c8
  clear h
  go_enter Tryd.func18, Tryd.ntmps18
  go_wp2
  go_ret
  exact ⟨rfl, rfl⟩

set_option maxHeartbeats 2000000 in
theorem pisEnd_any (p : Nat) (c0 c2 c3 c4 c5 c6 c7 c8 c9 ca cb : Value) (r : Int) (w : World) (h : IsB w p #[c0, .int .i64 r, c2, c3, c4, c5, c6, c7, c8, c9, ca, cb] 78) : Calls Tryd.prog 23 #[.pointer (some ⟨p, 0, none⟩)] w fun e w' => e = .returned (.bool (decide (r ≠ 2))) ∧ w' = w := by
  have c1 := h.cell 1
  simp at c1
  clear h
  go_enter Tryd.func23, Tryd.ntmps23
  by_cases hr : r = 2
  · subst hr
    go_wp2
    go_ret
    exact ⟨rfl, rfl⟩
  · have hd : (r == 2) = false := by simpa using hr
    go_wp2
    go_ret
    exact ⟨by simp [hr], rfl⟩

end Go.Proofs.YtdogdinkopocaaaDoor
