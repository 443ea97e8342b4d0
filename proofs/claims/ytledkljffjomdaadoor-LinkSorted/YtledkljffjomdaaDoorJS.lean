/- Package link: each call of a table, and what it keeps true of every record. -/
import Derived.Test.YtledkljffjomdaaDoorJF
namespace Go.Proofs.YtledkljffjomdaaDoor
open Go.RowKit Go.Maps

/-- What stands to the left is ahead of the peer, what stands to the right behind it. -/
def sideL (me x : Rf) : Prop := (x = (0, 0, 0, 0, 0) ∧ me.2.1 = 1) ∨ toL x.2.1 x.2.2.1 me.2.1 me.2.2.1 = true
def sideR (me x : Rf) : Prop := (x = (0, 0, 0, 0, 0) ∧ me.2.1 = 3) ∨ toR x.2.1 x.2.2.1 me.2.1 me.2.2.1 = true
def OkS (me : Rf) (L : Tb) : Prop := ∀ e ∈ L, (∀ p ∈ e.2.os, okO p.1 p.2 = true) ∧ may me e.1 = true ∧ sideL me e.2.x ∧ sideR me e.2.y
def EfS (me : Rf) (_v : Vc) (E : Int) (L L' : Tb) : Prop := (E ≠ 0 → L' = L) ∧ OkS me L' ∧ L'.length ≤ L.length + 1
theorem EfS.refl (me : Rf) (v : Vc) (E : Int) {L : Tb} (h : OkS me L) : EfS me v E L L := ⟨fun _ => rfl, h, by omega⟩
theorem keepT_mem2 {me : Rf} {v : Vc} {c : Rc} {L : Tb} {e : Vc × Rc} (h : e ∈ keepT me v c (updL v c L)) : e ∈ L ∨ e = (v, c) := by
  have hu : e ∈ updL v c L → e ∈ L ∨ e = (v, c) := by
    intro he
    obtain ⟨d, hd, rfl⟩ := List.mem_map.1 he
    by_cases hv : d.1 = v
    · rw [if_pos hv]
      exact Or.inr rfl
    · rw [if_neg hv]
      exact Or.inl hd
  unfold keepT at h
  split at h
  · exact hu (List.mem_filter.1 h).1
  · unfold putL at h
    split at h
    · exact hu h
    · rcases List.mem_append.1 h with h | h
      · exact hu h
      · simp at h
        exact Or.inr h
theorem keepT_len (me : Rf) (v : Vc) (c : Rc) (L : Tb) : (keepT me v c (updL v c L)).length ≤ L.length + 1 := by
  have hu : (updL v c L).length = L.length := by simp [updL]
  unfold keepT
  split
  · have := List.length_filter_le (fun e : Vc × Rc => decide (e.1 ≠ v)) (updL v c L)
    unfold dropL
    omega
  · unfold putL
    split
    · omega
    · simp [hu]
theorem EfS.keep {me : Rf} {v : Vc} {L : Tb} (h : OkS me L) (c : Rc) (hc : ∀ p ∈ c.os, okO p.1 p.2 = true) (hm : may me v = true) (hx : sideL me c.x) (hy : sideR me c.y) : EfS me v 0 L (keepT me v c (updL v c L)) := by
  refine ⟨fun q => absurd rfl q, fun e he => ?_, keepT_len me v c L⟩
  rcases keepT_mem2 he with g | g
  · exact h e g
  · rw [g]
    exact ⟨hc, hm, hx, hy⟩
theorem EfS.drop (me : Rf) (v : Vc) {L : Tb} (h : OkS me L) : EfS me v 0 L (dropL v L) := ⟨fun q => absurd rfl q, fun e he => h e (List.mem_filter.1 he).1, by have := List.length_filter_le (fun e : Vc × Rc => decide (e.1 ≠ v)) L; unfold dropL; omega⟩
theorem OkS.find {me : Rf} {L : Tb} {v : Vc} {o : Cn} (h : OkS me L) (hNE : newE me = 0) (ho : findC me L v = some o) : (∀ p ∈ o.1, okO p.1 p.2 = true) ∧ may me v = true ∧ sideL me o.2.1 ∧ sideR me o.2.2 := by
  unfold findC at ho
  cases hl : lookL L v with
  | some c =>
    rw [hl] at ho
    injection ho with ho
    rw [← ho]
    exact h _ (lookL_some hl)
  | none =>
    rw [hl] at ho
    simp only [] at ho
    split at ho
    · rename_i hq
      injection ho with ho
      rw [← ho]
      obtain ⟨i, r, n, l, b⟩ := me
      have hr : r = 1 ∨ r = 3 := by
        have h1 : ckE r n = 0 := by
          unfold newE at hNE
          split at hNE
          · rename_i g
            exact g.1
          · cases hNE
        have h2 : r ≠ 2 := hq.1
        unfold ckE at h1
        split at h1
        · rename_i g
          rcases g with g | ⟨g | g, -⟩
          · exact absurd g h2
          · exact Or.inl g
          · exact Or.inr g
        · cases h1
      refine ⟨(fun p hp => by cases hp), hq.2, ?_, ?_⟩
      · rcases hr with rfl | rfl
        · exact Or.inl ⟨rfl, rfl⟩
        · right
          simp [fst, fstL, toL, ckE, klt, kcmp, orI, cmpI]
      · rcases hr with rfl | rfl
        · right
          simp [fst, fstR, toR, ckE, klt, kcmp, orI, cmpI]
        · exact Or.inl ⟨rfl, rfl⟩
    · cases ho
theorem cn_x {c : Rc} {o : Cn} (h : c.cn = o) : c.x = o.2.1 := by rw [← h]; rfl
theorem cn_y {c : Rc} {o : Cn} (h : c.cn = o) : c.y = o.2.2 := by rw [← h]; rfl

theorem left_als (base p m : Nat) (me : Rf) (L : Tb) (w : World) (h : LK w base p m me L) (hB : base ≤ w.heap.size) (x y : Int) (hv : okV (x, y)) (hm : okMe me) (hy : 0 ≤ y) (hR : Ranks w) (hok : OkS me L) (hNE : newE me = 0) (z0 z1 z2 z3 z4 : Int) : Calls Tryd.prog 23 #[.pointer (some ⟨p, 0, none⟩), .agg #[.int .i64 x, .int .u64 y], .agg #[.int .i64 z0, .int .i64 z1, .int .u64 z2, .int .i64 z3, .int .u64 z4]] w fun e w' => ∃ E L', e = .returned (.int .i64 E) ∧ EfS me (x, y) E L L' ∧ KX w w' base p m me L L' := by
  cases ho : findC me L (x, y) with
  | none =>
    refine (left_none base p m me L w h x y hv hm hy z0 z1 z2 z3 z4 ho).mono ?_
    rintro e w' ⟨rfl, hb⟩
    exact ⟨82, L, rfl, EfS.refl _ _ _ hok, h.kx hb⟩
  | some oc =>
    cases hs : toL z1 z2 me.2.1 me.2.2.1 with
    | false =>
      refine (left_side base p m me L w h hB x y hv hm hy z0 z1 z2 z3 z4 hR oc ho hs).mono ?_
      rintro e w' ⟨rfl, hb⟩
      exact ⟨83, L, rfl, EfS.refl _ _ _ hok, h.kx hb⟩
    | true =>
      refine (left_ok base p m me L w h hB x y hv hm hy z0 z1 z2 z3 z4 hR oc ho hs).mono ?_
      rintro e w' ⟨rfl, c, hc, hx⟩
      have hf := hok.find hNE ho
      exact ⟨0, _, rfl, EfS.keep hok c (by rw [cn_os hc]; exact hf.1) hf.2.1 (by rw [cn_x hc]; exact Or.inr hs) (by rw [cn_y hc]; exact hf.2.2.2), hx⟩

theorem right_als (base p m : Nat) (me : Rf) (L : Tb) (w : World) (h : LK w base p m me L) (hB : base ≤ w.heap.size) (x y : Int) (hv : okV (x, y)) (hm : okMe me) (hy : 0 ≤ y) (hR : Ranks w) (hok : OkS me L) (hNE : newE me = 0) (z0 z1 z2 z3 z4 : Int) (a o : Int) : Calls Tryd.prog 24 #[.pointer (some ⟨p, 0, none⟩), .agg #[.int .i64 x, .int .u64 y], .agg #[.int .i64 z0, .int .i64 z1, .int .u64 z2, .int .i64 z3, .int .u64 z4], .agg #[.int .i64 a, .int .i64 o]] w fun e w' => ∃ E L', e = .returned (.int .i64 E) ∧ EfS me (x, y) E L L' ∧ KX w w' base p m me L L' := by
  cases ho : findC me L (x, y) with
  | none =>
    refine (right_none base p m me L w h x y hv hm hy z0 z1 z2 z3 z4 a o ho).mono ?_
    rintro e w' ⟨rfl, hb⟩
    exact ⟨82, L, rfl, EfS.refl _ _ _ hok, h.kx hb⟩
  | some oc =>
    by_cases hh : heE oc.1 a o = 0
    · cases hs : toR z1 z2 me.2.1 me.2.2.1 with
      | false =>
        refine (right_side base p m me L w h hB x y hv hm hy z0 z1 z2 z3 z4 a o hR oc ho hh hs).mono ?_
        rintro e w' ⟨rfl, hb⟩
        exact ⟨83, L, rfl, EfS.refl _ _ _ hok, h.kx hb⟩
      | true =>
        refine (right_ok base p m me L w h hB x y hv hm hy z0 z1 z2 z3 z4 a o hR oc ho hh hs).mono ?_
        rintro e w' ⟨rfl, c, hc, hx⟩
        have hf := hok.find hNE ho
        exact ⟨0, _, rfl, EfS.keep hok c (by rw [cn_os hc]; exact hf.1) hf.2.1 (by rw [cn_x hc]; exact hf.2.2.1) (by rw [cn_y hc]; exact Or.inr hs), hx⟩
    · refine (right_held base p m me L w h hB x y hv hm hy z0 z1 z2 z3 z4 a o hR oc ho hh).mono ?_
      rintro e w' ⟨rfl, hb⟩
      exact ⟨_, L, rfl, EfS.refl _ _ _ hok, h.kx hb⟩

theorem lock_als (base p m : Nat) (me : Rf) (L : Tb) (w : World) (h : LK w base p m me L) (hB : base ≤ w.heap.size) (x y : Int) (hv : okV (x, y)) (hm : okMe me) (hy : 0 ≤ y) (hok : OkS me L) (hNE : newE me = 0) (a o : Int) : Calls Tryd.prog 21 #[.pointer (some ⟨p, 0, none⟩), .agg #[.int .i64 x, .int .u64 y], .agg #[.int .i64 a, .int .i64 o]] w fun e w' => ∃ B E L', e = .returned (.tuple #[.bool B, .int .i64 E]) ∧ EfS me (x, y) E L L' ∧ KX w w' base p m me L L' := by
  cases ho : findC me L (x, y) with
  | none =>
    refine (lock_none base p m me L w h x y hv hm hy a o ho).mono ?_
    rintro e w' ⟨rfl, hb⟩
    exact ⟨false, 82, L, rfl, EfS.refl _ _ _ hok, h.kx hb⟩
  | some oc =>
    obtain ⟨⟨B, E, os'⟩, hA⟩ : ∃ z, askA oc.1 a o = z := ⟨_, rfl⟩
    by_cases hE : E = 0
    · subst hE
      refine (lock_ok base p m me L w h hB x y hv hm hy a o oc ho B os' hA).mono ?_
      rintro e w' ⟨rfl, c, hc, hx⟩
      have hF := hok.find hNE ho
      refine ⟨B, 0, _, rfl, EfS.keep hok c ?_ hF.2.1 (by rw [cn_x hc]; exact hF.2.2.1) (by rw [cn_y hc]; exact hF.2.2.2), hx⟩
      rw [cn_os hc]
      have hf := hF.1
      unfold askA at hA
      split at hA
      · simp only [Prod.mk.injEq] at hA
        exact absurd hA.2.1 (by decide)
      · rename_i h1
        split at hA
        · simp only [Prod.mk.injEq] at hA
          rw [← hA.2.2]
          exact hf
        · split at hA
          · simp only [Prod.mk.injEq] at hA
            exact absurd hA.2.1 (by decide)
          · simp only [Prod.mk.injEq] at hA
            rw [← hA.2.2]
            intro q hq
            rcases List.mem_append.1 hq with hq | hq
            · exact hf q hq
            · simp only [List.mem_cons, List.not_mem_nil, or_false] at hq
              rw [hq]
              simpa using h1
    · refine (lock_err base p m me L w h hB x y hv hm hy a o oc ho B E os' hA hE).mono ?_
      rintro e w' ⟨rfl, hb⟩
      exact ⟨B, E, L, rfl, EfS.refl _ _ _ hok, h.kx hb⟩

theorem free_als (base p m : Nat) (me : Rf) (L : Tb) (w : World) (h : LK w base p m me L) (hB : base ≤ w.heap.size) (x y : Int) (hv : okV (x, y)) (hm : okMe me) (hy : 0 ≤ y) (hok : OkS me L) (hNE : newE me = 0) (a o : Int) : Calls Tryd.prog 22 #[.pointer (some ⟨p, 0, none⟩), .agg #[.int .i64 x, .int .u64 y], .agg #[.int .i64 a, .int .i64 o]] w fun e w' => ∃ n1 n2 B E L', e = .returned (.tuple #[.agg #[.int .i64 n1, .int .i64 n2], .bool B, .int .i64 E]) ∧ EfS me (x, y) E L L' ∧ KX w w' base p m me L L' := by
  cases ho : findC me L (x, y) with
  | none =>
    refine (lfree_none base p m me L w h x y hv hm hy a o ho).mono ?_
    rintro e w' ⟨rfl, hb⟩
    exact ⟨0, 0, false, 82, L, rfl, EfS.refl _ _ _ hok, h.kx hb⟩
  | some oc =>
    obtain ⟨⟨⟨n1, n2⟩, B, E, os'⟩, hA⟩ : ∃ z, freeA oc.1 a o = z := ⟨_, rfl⟩
    by_cases hE : E = 0
    · subst hE
      refine (lfree_ok base p m me L w h hB x y hv hm hy a o oc ho n1 n2 B os' hA).mono ?_
      rintro e w' ⟨rfl, c, hc, hx⟩
      have hF := hok.find hNE ho
      refine ⟨n1, n2, B, 0, _, rfl, EfS.keep hok c ?_ hF.2.1 (by rw [cn_x hc]; exact hF.2.2.1) (by rw [cn_y hc]; exact hF.2.2.2), hx⟩
      rw [cn_os hc]
      have hf := hF.1
      unfold freeA at hA
      split at hA
      · simp only [Prod.mk.injEq] at hA
        exact absurd hA.2.2.1 (by decide)
      · split at hA
        · simp only [Prod.mk.injEq] at hA
          rw [← hA.2.2.2]
          intro q hq
          exact hf q (List.mem_of_mem_tail hq)
        · simp only [Prod.mk.injEq] at hA
          exact absurd hA.2.2.1 (by decide)
    · refine (lfree_err base p m me L w h hB x y hv hm hy a o oc ho n1 n2 B E os' hA hE).mono ?_
      rintro e w' ⟨rfl, hb⟩
      exact ⟨n1, n2, B, E, L, rfl, EfS.refl _ _ _ hok, h.kx hb⟩

theorem out_als (base p m : Nat) (me : Rf) (L : Tb) (w : World) (h : LK w base p m me L) (hB : base ≤ w.heap.size) (x y : Int) (hv : okV (x, y)) (hm : okMe me) (hy : 0 ≤ y) (hok : OkS me L) (a o : Int) : Calls Tryd.prog 18 #[.pointer (some ⟨p, 0, none⟩), .agg #[.int .i64 x, .int .u64 y], .agg #[.int .i64 a, .int .i64 o]] w fun e w' => ∃ qa qn qc L', e = .returned (.tuple #[.slice qa qn qc, .int .i64 (outE me L (x, y) a o)]) ∧ EfS me (x, y) (outE me L (x, y) a o) L L' ∧ (outE me L (x, y) a o = 0 → me.2.1 = 2 ∧ L' = dropL (x, y) L) ∧ KX w w' base p m me L L' := by
  cases ho : findC me L (x, y) with
  | none =>
    have hE : outE me L (x, y) a o = 82 := by unfold outE; rw [ho]
    rw [hE]
    refine (out_none base p m me L w h x y hv hm hy a o ho).mono ?_
    rintro e w' ⟨rfl, hb⟩
    exact ⟨none, 0, 0, L, rfl, EfS.refl _ _ _ hok, fun q => absurd q (by decide), h.kx hb⟩
  | some oc =>
    by_cases hr : me.2.1 = 2
    · have hE : outE me L (x, y) a o = heE oc.1 a o := by unfold outE; rw [ho]; simp [hr]
      rw [hE]
      by_cases hh : heE oc.1 a o = 0
      · refine (out_ok base p m me L w h hB x y hv hm hy a o oc ho hr hh).mono ?_
        rintro e w' ⟨⟨q, rfl, hq⟩, hx⟩
        obtain ⟨qa, qc, rfl, -, -⟩ := hq.shape
        rw [hh]
        exact ⟨qa, _, qc, _, rfl, EfS.drop _ _ hok, fun _ => ⟨hr, rfl⟩, hx⟩
      · refine (out_held base p m me L w h hB x y hv hm hy a o oc ho hr hh).mono ?_
        rintro e w' ⟨rfl, hb⟩
        exact ⟨none, 0, 0, L, rfl, EfS.refl _ _ _ hok, fun q => absurd q hh, h.kx hb⟩
    · have hE : outE me L (x, y) a o = 80 := by unfold outE; rw [ho]; simp [hr]
      rw [hE]
      refine (out_end base p m me L w h hB x y hv hm hy a o oc ho hr).mono ?_
      rintro e w' ⟨rfl, hb⟩
      exact ⟨none, 0, 0, L, rfl, EfS.refl _ _ _ hok, fun q => absurd q (by decide), h.kx hb⟩

theorem put_als (base p m : Nat) (me : Rf) (L : Tb) (w : World) (h : LK w base p m me L) (hB : base ≤ w.heap.size) (x y : Int) (hv : okV (x, y)) (hm : okMe me) (hy : 0 ≤ y) (hR : Ranks w) (hok : OkS me L) (a0 a1 a2 a3 a4 b0 b1 b2 b3 b4 oa oo : Int) : Calls Tryd.prog 20 #[.pointer (some ⟨p, 0, none⟩), .agg #[.int .i64 x, .int .u64 y], .agg #[.int .i64 a0, .int .i64 a1, .int .u64 a2, .int .i64 a3, .int .u64 a4], .agg #[.int .i64 b0, .int .i64 b1, .int .u64 b2, .int .i64 b3, .int .u64 b4], .agg #[.int .i64 oa, .int .i64 oo]] w fun e w' => ∃ L', e = .returned (.int .i64 (putE me (findC me L (x, y)).isSome (x, y) (a0, a1, a2, a3, a4) (b0, b1, b2, b3, b4) (oa, oo))) ∧ EfS me (x, y) (putE me (findC me L (x, y)).isSome (x, y) (a0, a1, a2, a3, a4) (b0, b1, b2, b3, b4) (oa, oo)) L L' ∧ (putE me (findC me L (x, y)).isSome (x, y) (a0, a1, a2, a3, a4) (b0, b1, b2, b3, b4) (oa, oo) = 0 → findC me L' (x, y) = some ([(oa, oo)], (a0, a1, a2, a3, a4), (b0, b1, b2, b3, b4))) ∧ KX w w' base p m me L L' := by
  obtain ⟨E, hE⟩ : ∃ E, putE me (findC me L (x, y)).isSome (x, y) (a0, a1, a2, a3, a4) (b0, b1, b2, b3, b4) (oa, oo) = E := ⟨_, rfl⟩
  rw [hE]
  unfold putE at hE
  by_cases hr : me.2.1 = 2
  rotate_left
  · rw [if_pos hr] at hE
    subst hE
    refine (put_end base p m me L w h x y a0 a1 a2 a3 a4 b0 b1 b2 b3 b4 oa oo hr).mono ?_
    rintro e w' ⟨rfl, hb⟩
    exact ⟨L, rfl, EfS.refl _ _ _ hok, fun q => absurd q (by decide), h.kx hb⟩
  rw [if_neg (fun q => q hr)] at hE
  cases hM : may me (x, y) with
  | false =>
    rw [hM, if_pos rfl] at hE
    subst hE
    refine (put_may base p m me L w h x y hm hy a0 a1 a2 a3 a4 b0 b1 b2 b3 b4 oa oo hr hM).mono ?_
    rintro e w' ⟨rfl, hb⟩
    exact ⟨L, rfl, EfS.refl _ _ _ hok, fun q => absurd q (by decide), h.kx hb⟩
  | true =>
    rw [hM, if_neg (by decide)] at hE
    cases ho : findC me L (x, y) with
    | some oc =>
      rw [ho, Option.isSome_some, if_pos rfl] at hE
      subst hE
      obtain ⟨c, hc⟩ := findC_peer ho hr
      refine (put_in base p m me L w h x y hv hm hy a0 a1 a2 a3 a4 b0 b1 b2 b3 b4 oa oo hr hM c hc).mono ?_
      rintro e w' ⟨rfl, hb⟩
      exact ⟨L, rfl, EfS.refl _ _ _ hok, fun q => absurd q (by decide), h.kx hb⟩
    | none =>
      rw [ho, Option.isSome_none, if_neg (by decide)] at hE
      have hn : ∀ e ∈ L, e.1 ≠ (x, y) := by
        refine lookL_none ?_
        unfold findC at ho
        cases hl : lookL L (x, y) with
        | none => rfl
        | some c => rw [hl] at ho; cases ho
      cases hs : toL a1 a2 me.2.1 me.2.2.1 with
      | false =>
        simp only [hs, if_true] at hE
        subst hE
        refine (put_left base p m me L w h x y hv hm hy a0 a1 a2 a3 a4 b0 b1 b2 b3 b4 oa oo hR hr hM hn hs).mono ?_
        rintro e w' ⟨rfl, hb⟩
        exact ⟨L, rfl, EfS.refl _ _ _ hok, fun q => absurd q (by decide), h.kx hb⟩
      | true =>
        cases ht : toR b1 b2 me.2.1 me.2.2.1 with
        | false =>
          simp only [hs, ht, if_true] at hE
          rw [if_neg (by decide)] at hE
          subst hE
          refine (put_right base p m me L w h x y hv hm hy a0 a1 a2 a3 a4 b0 b1 b2 b3 b4 oa oo hR hr hM hn hs ht).mono ?_
          rintro e w' ⟨rfl, hb⟩
          exact ⟨L, rfl, EfS.refl _ _ _ hok, fun q => absurd q (by decide), h.kx hb⟩
        | true =>
          simp only [hs, ht] at hE
          rw [if_neg (by decide), if_neg (by decide)] at hE
          cases hq : okO oa oo with
          | false =>
            rw [hq, if_pos rfl] at hE
            subst hE
            refine (put_owner base p m me L w h x y hv hm hy a0 a1 a2 a3 a4 b0 b1 b2 b3 b4 oa oo hR hr hM hn hs ht hq).mono ?_
            rintro e w' ⟨rfl, hb⟩
            exact ⟨L, rfl, EfS.refl _ _ _ hok, fun q => absurd q (by decide), h.kx hb⟩
          | true =>
            rw [hq, if_neg (by decide)] at hE
            subst hE
            refine (put_ok base p m me L w h hB x y hv hm hy a0 a1 a2 a3 a4 b0 b1 b2 b3 b4 oa oo hR hr hM hn hs ht hq).mono ?_
            rintro e w' ⟨rfl, c, hc, hx⟩
            refine ⟨_, rfl, EfS.keep hok c ?_ hM (by rw [cn_x hc]; exact Or.inr hs) (by rw [cn_y hc]; exact Or.inr ht), fun _ => ?_, hx⟩
            · rw [cn_os hc]
              intro q hq2
              simp only [List.mem_cons, List.not_mem_nil, or_false] at hq2
              rw [hq2]
              exact hq
            · rw [findC_keep_same (Or.inl hr), hc]

end Go.Proofs.YtledkljffjomdaaDoor
