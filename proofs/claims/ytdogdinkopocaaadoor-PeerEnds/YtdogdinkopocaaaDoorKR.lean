/- Package link: a table as what it says of each list; find and keep, whatever the record; a record that is changed. -/
import Derived.Test.YtdogdinkopocaaaDoorKQ
namespace Go.Proofs.YtdogdinkopocaaaDoor
open Go.RowKit Go.Maps

/-- What a record says: who holds and waits, left, right. -/
abbrev Cn := List Ow × Rf × Rf
def Rc.cn (c : Rc) : Cn := (c.os, c.x, c.y)
def lookL (L : Tb) (v : Vc) : Option Rc := (L.find? (fun e => decide (e.1 = v))).map (·.2)
theorem lookL_some {L : Tb} {v : Vc} {c : Rc} (h : lookL L v = some c) : (v, c) ∈ L := by
  unfold lookL at h
  obtain ⟨e, he, rfl⟩ := Option.map_eq_some_iff.1 h
  have h1 := List.mem_of_find?_eq_some he
  have h2 := List.find?_some he
  simp at h2
  rw [← h2]
  exact h1
theorem lookL_none {L : Tb} {v : Vc} (h : lookL L v = none) : ∀ e ∈ L, e.1 ≠ v := by
  unfold lookL at h
  rw [Option.map_eq_none_iff, List.find?_eq_none] at h
  intro e he hq
  exact h e he (by simpa using hq)
theorem lookL_no {L : Tb} {v : Vc} (h : ∀ e ∈ L, e.1 ≠ v) : lookL L v = none := by
  unfold lookL
  rw [Option.map_eq_none_iff, List.find?_eq_none]
  intro e he
  simpa using h e he
/-- An end's record at first. -/
def fst (me : Rf) : Cn := ([], fstL me.2.1 me.2.2.2.1 me.2.2.2.2, fstR me.2.1 me.2.2.2.1 me.2.2.2.2)
def may (me : Rf) (v : Vc) : Bool := mayA me.2.1 me.2.2.2.1 me.2.2.2.2 v.1 v.2
/-- The record of a list. -/
def findC (me : Rf) (L : Tb) (v : Vc) : Option Cn := match lookL L v with
  | some c => some c.cn
  | none => if me.2.1 ≠ 2 ∧ may me v = true then some (fst me) else none
/-- Where a record is. -/
def Here (n base : Nat) (v : Vc) (c : Rc) (L : Tb) : Prop := (v, c) ∈ L ∨ (New base v c L ∧ n ≤ c.rb ∧ n ≤ c.lb)
theorem Here.or {n base : Nat} {v : Vc} {c : Rc} {L : Tb} (h : Here n base v c L) : (v, c) ∈ L ∨ New base v c L := h.imp id (·.1)
/-- The numbers of a peer that may be. -/
def okMe (me : Rf) : Prop := 0 ≤ me.2.2.2.2
theorem LK.lts {w : World} {base p m : Nat} {me : Rf} {L : Tb} (h : LK w base p m me L) : ∀ e ∈ L, e.2.rb < w.heap.size ∧ e.2.lb < w.heap.size := fun e he => ⟨(h.recs e he).blk.lt, (h.recs e he).ls.blk.lt⟩

theorem find_some (base p m : Nat) (me : Rf) (L : Tb) (w : World) (h : LK w base p m me L) (hB : base ≤ w.heap.size) (x y : Int) (hv : okV (x, y)) (hm : okMe me) (hy : 0 ≤ y) (o : Cn) (ho : findC me L (x, y) = some o) :
    Calls Tryd.prog 51 #[.pointer (some ⟨p, 0, none⟩), .agg #[.int .i64 x, .int .u64 y]] w fun e w' => ∃ c : Rc, e = .returned (.tuple #[.pointer (some ⟨c.rb, 0, none⟩), .int .i64 0]) ∧ c.cn = o ∧ c.At w' ∧ Here w.heap.size base (x, y) c L ∧ Below w.heap.size w w' := by
  unfold findC at ho
  cases hl : lookL L (x, y) with
  | some c =>
    rw [hl] at ho
    simp at ho
    have hin := lookL_some hl
    refine (find_in base p m me L w h x y hv c hin).mono ?_
    rintro e w' ⟨rfl, hb⟩
    exact ⟨c, rfl, ho, (h.recs _ hin).below hb, Or.inl hin, hb⟩
  | none =>
    rw [hl] at ho
    have hn := lookL_none hl
    by_cases hq : me.2.1 ≠ 2 ∧ may me (x, y) = true
    · rw [if_pos hq] at ho
      injection ho with ho
      refine (find_first base p m me L w h x y hv hm hy hn hq.1 hq.2).mono ?_
      rintro e w' ⟨rb, lb, rfl, h1, h2, h3, hb⟩
      refine ⟨⟨rb, lb, _, [], _, _⟩, rfl, ho, h3, Or.inr ⟨⟨hn, by simp only []; omega, by simp only []; omega, fun e he => ?_, fun e he => ?_⟩, h1, h2⟩, hb⟩
      · have := (h.lts e he).1
        simp only []
        omega
      · have := (h.lts e he).2
        simp only []
        omega
    · rw [if_neg hq] at ho
      cases ho
theorem find_none (base p m : Nat) (me : Rf) (L : Tb) (w : World) (h : LK w base p m me L) (x y : Int) (hv : okV (x, y)) (hm : okMe me) (hy : 0 ≤ y) (ho : findC me L (x, y) = none) :
    Calls Tryd.prog 51 #[.pointer (some ⟨p, 0, none⟩), .agg #[.int .i64 x, .int .u64 y]] w fun e w' => e = .returned (.tuple #[.pointer none, .int .i64 82]) ∧ Below w.heap.size w w' := by
  unfold findC at ho
  cases hl : lookL L (x, y) with
  | some c => rw [hl] at ho; cases ho
  | none =>
    rw [hl] at ho
    refine find_gone base p m me L w h x y hv hm hy (lookL_none hl) ?_
    intro hq
    have hq' : me.2.1 ≠ 2 ∧ may me (x, y) = true := hq
    rw [if_pos hq'] at ho
    cases ho

/-- The table behind keep. -/
def keepT (me : Rf) (v : Vc) (c : Rc) (L : Tb) : Tb := if me.2.1 ≠ 2 ∧ isF me c = true then dropL v L else putL v c L
theorem keep_any (base p m : Nat) (me : Rf) (L : Tb) (w : World) (h : LK w base p m me L) (x y : Int) (hv : okV (x, y)) (c : Rc) (hc : c.At w) (hin : ((x, y), c) ∈ L ∨ New base (x, y) c L) :
    Calls Tryd.prog 54 #[.pointer (some ⟨p, 0, none⟩), .agg #[.int .i64 x, .int .u64 y], .pointer (some ⟨c.rb, 0, none⟩)] w fun e w' => e = .returned (.tuple #[]) ∧ LK w' base p m me (keepT me (x, y) c L) ∧ Kp [m] w w' := by
  unfold keepT
  by_cases hr : me.2.1 = 2
  · rw [if_neg (fun q => q.1 hr)]
    exact keep_peer base p m me L w h x y hv c hc hr hin
  · cases hF : isF me c with
    | true =>
      rw [if_pos ⟨hr, rfl⟩]
      exact keep_del base p m me L w h x y hv c hc hr hF
    | false =>
      rw [if_neg (by simp)]
      exact keep_end base p m me L w h x y hv c hc hr hF hin

/-- A record is changed. -/
def updL (v : Vc) (c : Rc) (L : Tb) : Tb := L.map fun e => if e.1 = v then (v, c) else e
theorem updL_no {v : Vc} {c : Rc} {L : Tb} (h : ∀ e ∈ L, e.1 ≠ v) : updL v c L = L := by
  have e1 : L.map (fun e => if e.1 = v then (v, c) else e) = L.map id := List.map_congr_left (fun e he => if_neg (h e he))
  unfold updL
  rw [e1, List.map_id]
theorem LK.one {w : World} {base p m : Nat} {me : Rf} {L : Tb} (h : LK w base p m me L) {e e' : Vc × Rc} (he : e ∈ L) (he' : e' ∈ L) (hv : e.1 = e'.1) : e.2.rb = e'.2.rb := by
  have := h.map.one (x := pair e) (y := pair e') (List.mem_map.2 ⟨e, he, rfl⟩) (List.mem_map.2 ⟨e', he', rfl⟩) hv
  exact congrArg Prod.snd this
theorem nodup_one {α β : Type} (f : α → β) : ∀ {l : List α}, (l.map f).Nodup → ∀ {a b : α}, a ∈ l → b ∈ l → f a = f b → a = b
  | x :: t, hn, a, b, ha, hb, he => by
    simp only [List.map_cons, List.nodup_cons, List.mem_map] at hn
    rcases List.mem_cons.1 ha with ha1 | ha1 <;> rcases List.mem_cons.1 hb with hb1 | hb1
    · rw [ha1, hb1]
    · exact absurd ⟨b, hb1, by rw [← he, ha1]⟩ hn.1
    · exact absurd ⟨a, ha1, by rw [he, hb1]⟩ hn.1
    · exact nodup_one f hn.2 ha1 hb1 he
/-- Two entries of one list are one. -/
theorem LK.same {w : World} {base p m : Nat} {me : Rf} {L : Tb} (h : LK w base p m me L) {e e' : Vc × Rc} (he : e ∈ L) (he' : e' ∈ L) (hv : e.1 = e'.1) : e = e' := nodup_one (fun e : Vc × Rc => e.2.rb) h.ap he he' (h.one he he' hv)
theorem IsB.ne_t {w : World} {a b : Nat} {cs ds : Array Value} {t u : TypeId} (h : IsB w a cs t) (k : IsB w b ds u) (ht : t ≠ u) : a ≠ b := by
  rintro rfl
  unfold IsB at h k
  rw [h] at k
  injection k with k
  injection k with _ k
  exact ht k
theorem tne1 : (128 : TypeId) ≠ 154 := by decide
theorem tne2 : (98 : TypeId) ≠ 154 := by decide
theorem tne3 : (98 : TypeId) ≠ 128 := by decide
theorem tne4 : (128 : TypeId) ≠ 52 := by decide
theorem tne5 : (154 : TypeId) ≠ 52 := by decide
/-- A record apart from c keeps what it says while c's blocks turn. -/
theorem Rc.At.other {w w' : World} {c d : Rc} (hd : d.At w) (hc : c.At w) (hk : Kp [c.rb, c.lb] w w') (h1 : d.rb ≠ c.rb) (h2 : d.lb ≠ c.lb) : d.At w' := by
  refine RecAt.kp hd hk ?_ ?_ ?_
  · simp only [List.mem_cons, List.not_mem_nil, or_false, not_or]
    exact ⟨h1, hd.blk.ne_t hc.ls.blk tne1⟩
  · simp only [List.mem_cons, List.not_mem_nil, or_false, not_or]
    exact ⟨hd.ls.blk.ne_t hc.blk (Ne.symm tne1), h2⟩
  · intro k hk
    simp only [List.mem_cons, List.not_mem_nil, or_false, not_or]
    exact ⟨hd.row_off hk hc.blk tne4, hd.row_off hk hc.ls.blk tne5⟩
theorem LK.upd {w w' : World} {base p m : Nat} {me : Rf} {L : Tb} (h : LK w base p m me L) (v : Vc) (c c' : Rc) (hc : c.At w) (hin : (v, c) ∈ L ∨ New base v c L) (hk : Kp [c.rb, c.lb] w w') (hc' : c'.At w') (hr : c'.rb = c.rb) (hl : c'.lb = c.lb) :
    LK w' base p m me (updL v c' L) ∧ ((v, c') ∈ updL v c' L ∨ New base v c' (updL v c' L)) := by
  have hp : IsB w' p #[.int .i64 me.1, .int .i64 me.2.1, .int .u64 me.2.2.1, .int .i64 me.2.2.2.1, .int .u64 me.2.2.2.2, .map (some m)] 98 := h.blk.kp hk (by
    simp only [List.mem_cons, List.not_mem_nil, or_false, not_or]
    exact ⟨h.blk.ne_t hc.blk tne3, h.blk.ne_t hc.ls.blk tne2⟩)
  have hm : VMp w' m (L.map pair) := h.map.kp hk (by
    simp only [List.mem_cons, List.not_mem_nil, or_false, not_or]
    exact ⟨fun e => h.map.off hc.blk e.symm, fun e => h.map.off hc.ls.blk e.symm⟩)
  rcases hin with hin | hnew
  · have key : ∀ e ∈ L, (if e.1 = v then (v, c') else e).2.rb = e.2.rb ∧ (if e.1 = v then (v, c') else e).2.lb = e.2.lb ∧ (if e.1 = v then (v, c') else e).1 = e.1 := by
      intro e he
      by_cases hv : e.1 = v
      · obtain rfl := h.same he hin hv
        rw [if_pos rfl]
        exact ⟨hr, hl, rfl⟩
      · rw [if_neg hv]
        exact ⟨rfl, rfl, rfl⟩
    have m1 : (updL v c' L).map (·.2.rb) = L.map (·.2.rb) := by
      unfold updL
      rw [List.map_map]
      exact List.map_congr_left fun e he => (key e he).1
    have m2 : (updL v c' L).map (·.2.lb) = L.map (·.2.lb) := by
      unfold updL
      rw [List.map_map]
      exact List.map_congr_left fun e he => (key e he).2.1
    have m3 : (updL v c' L).map pair = L.map pair := by
      unfold updL
      rw [List.map_map]
      exact List.map_congr_left fun e he => by
        obtain ⟨k1, -, k3⟩ := key e he
        exact Prod.ext k3 k1
    refine ⟨⟨hp, by rw [m3]; exact hm, ?_, by rw [m1]; exact h.ap, by rw [m2]; exact h.al, ⟨h.lo.1, h.lo.2.1, ?_⟩⟩, Or.inl (List.mem_map.2 ⟨(v, c), hin, if_pos rfl⟩)⟩
    · intro e he
      obtain ⟨d, hd, rfl⟩ := List.mem_map.1 he
      by_cases hv : d.1 = v
      · rw [if_pos hv]
        exact hc'
      · rw [if_neg hv]
        have hne : d ≠ (v, c) := fun e => hv (by rw [e])
        exact (h.recs d hd).other hc hk (fun e => hne (nodup_one (fun e : Vc × Rc => e.2.rb) h.ap hd hin e)) (fun e => hne (nodup_one (fun e : Vc × Rc => e.2.lb) h.al hd hin e))
    · intro e he
      obtain ⟨d, hd, rfl⟩ := List.mem_map.1 he
      obtain ⟨k1, k2, -⟩ := key d hd
      rw [k1, k2]
      exact h.lo.2.2 d hd
  · rw [updL_no hnew.1]
    obtain ⟨n0, n1, n2, n3, n4⟩ := hnew
    refine ⟨⟨hp, hm, fun e he => (h.recs e he).other hc hk (n3 e he) (n4 e he), h.ap, h.al, h.lo⟩, Or.inr ⟨n0, by rw [hr]; exact n1, by rw [hl]; exact n2, fun e he => by rw [hr]; exact n3 e he, fun e he => by rw [hl]; exact n4 e he⟩⟩
/-- A call found a record, changed it, and kept it. -/
theorem LK.done {w w1 w2 w3 : World} {base p m : Nat} {me : Rf} {L : Tb} (h : LK w base p m me L) (v : Vc) (c c' : Rc) (hb : Below w.heap.size w w1) (hin : Here w.heap.size base v c L) (hk : Kp [c.rb, c.lb] w1 w2) (hr : c'.rb = c.rb) (hl : c'.lb = c.lb)
    (hk3 : Kp [m] w2 w3) (h3 : LK w3 base p m me (keepT me v c' (updL v c' L))) : KX w w3 base p m me L (keepT me v c' (updL v c' L)) := by
  have hcf : (c.rb ∈ foot m L ∨ w.heap.size ≤ c.rb) ∧ (c.lb ∈ foot m L ∨ w.heap.size ≤ c.lb) := by
    rcases hin with hin | ⟨-, g1, g2⟩
    · exact ⟨Or.inl (mem_foot.2 (Or.inr ⟨_, hin, Or.inl rfl⟩)), Or.inl (mem_foot.2 (Or.inr ⟨_, hin, Or.inr rfl⟩))⟩
    · exact ⟨Or.inr g1, Or.inr g2⟩
  have hmf : m ∈ foot m L := mem_foot.2 (Or.inl rfl)
  have hu : ∀ e ∈ updL v c' L, (e.2.rb ∈ foot m L ∨ w.heap.size ≤ e.2.rb) ∧ (e.2.lb ∈ foot m L ∨ w.heap.size ≤ e.2.lb) := by
    intro e he
    obtain ⟨d, hd, rfl⟩ := List.mem_map.1 he
    by_cases hv : d.1 = v
    · rw [if_pos hv]
      simp only []
      rw [hr, hl]
      exact hcf
    · rw [if_neg hv]
      exact ⟨Or.inl (mem_foot.2 (Or.inr ⟨_, hd, Or.inl rfl⟩)), Or.inl (mem_foot.2 (Or.inr ⟨_, hd, Or.inr rfl⟩))⟩
  refine ⟨h3, ((Kp.of_below hb).trans hk ?_).trans hk3 (by simp [hmf]), ?_⟩
  · intro j hj
    simp only [List.mem_cons, List.not_mem_nil, or_false] at hj
    rcases hj with rfl | rfl
    · exact hcf.1
    · exact hcf.2
  · intro k hk
    rcases mem_foot.1 hk with rfl | ⟨e, he, hek⟩
    · exact Or.inl hmf
    · have hq : (e.2.rb ∈ foot m L ∨ w.heap.size ≤ e.2.rb) ∧ (e.2.lb ∈ foot m L ∨ w.heap.size ≤ e.2.lb) := by
        unfold keepT at he
        split at he
        · exact hu e (List.mem_filter.1 he).1
        · unfold putL at he
          split at he
          · exact hu e he
          · rcases List.mem_append.1 he with he | he
            · exact hu e he
            · simp at he
              subst he
              simp only []
              rw [hr, hl]
              exact hcf
      rcases hek with rfl | rfl
      · exact hq.1
      · exact hq.2

/-! What a table says of a list behind a call. -/
theorem lookL_upd_other {L : Tb} {v u : Vc} {c : Rc} (h : u ≠ v) : lookL (updL v c L) u = lookL L u := by
  unfold lookL updL
  induction L with
  | nil => rfl
  | cons e t ih =>
    simp only [List.map_cons, List.find?_cons]
    by_cases hv : e.1 = v
    · rw [if_pos hv]
      have h1 : decide (v = u) = false := by simp; exact fun e => h e.symm
      have h2 : decide (e.1 = u) = false := by rw [hv]; exact h1
      simp only [h1, h2]
      exact ih
    · rw [if_neg hv]
      cases decide (e.1 = u) with
      | true => rfl
      | false => exact ih
theorem lookL_drop_other {L : Tb} {v u : Vc} (h : u ≠ v) : lookL (dropL v L) u = lookL L u := by
  unfold lookL dropL
  rw [List.find?_filter]
  congr 1
  congr 1
  funext e
  by_cases hu : e.1 = u
  · simp [hu, h]
  · simp [hu]
theorem lookL_drop_same {L : Tb} {v : Vc} : lookL (dropL v L) v = none := lookL_no fun e he => by
  have := (List.mem_filter.1 he).2
  simpa using this
theorem lookL_put_other {L : Tb} {v u : Vc} {c : Rc} (h : u ≠ v) : lookL (putL v c L) u = lookL L u := by
  unfold putL
  split
  · rfl
  · unfold lookL
    rw [List.find?_append]
    have h1 : decide (v = u) = false := by simp; exact fun e => h e.symm
    simp [h1]
theorem findC_keep_other {me : Rf} {L : Tb} {v u : Vc} {c : Rc} (h : u ≠ v) : findC me (keepT me v c (updL v c L)) u = findC me L u := by
  have e : lookL (keepT me v c (updL v c L)) u = lookL L u := by
    unfold keepT
    split
    · rw [lookL_drop_other h, lookL_upd_other h]
    · rw [lookL_put_other h, lookL_upd_other h]
  unfold findC
  rw [e]
theorem findC_drop_other {me : Rf} {L : Tb} {v u : Vc} (h : u ≠ v) : findC me (dropL v L) u = findC me L u := by
  unfold findC
  rw [lookL_drop_other h]

end Go.Proofs.YtdogdinkopocaaaDoor
