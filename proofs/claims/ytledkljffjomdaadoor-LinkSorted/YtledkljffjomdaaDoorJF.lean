/- Package link: each call of a table, whatever comes of it. -/
import Derived.Test.YtledkljffjomdaaDoorJB
namespace Go.Proofs.YtledkljffjomdaaDoor
open Go.RowKit Go.Maps

/-- Those that stand in the locks' rows may be. -/
def OkT (L : Tb) : Prop := ∀ e ∈ L, ∀ p ∈ e.2.os, okO p.1 p.2 = true
/-- What a call of a list makes of a table: nothing, where it tells an error; nothing of another list. -/
def Eff (me : Rf) (v : Vc) (E : Int) (L L' : Tb) : Prop := (E ≠ 0 → L' = L) ∧ (∀ u, u ≠ v → findC me L' u = findC me L u) ∧ OkT L'
theorem Eff.refl (me : Rf) (v : Vc) (E : Int) {L : Tb} (h : OkT L) : Eff me v E L L := ⟨fun _ => rfl, fun _ _ => rfl, h⟩
theorem Eff.keep (me : Rf) (v : Vc) {L : Tb} (h : OkT L) (c : Rc) (hc : ∀ p ∈ c.os, okO p.1 p.2 = true) : Eff me v 0 L (keepT me v c (updL v c L)) := by
  refine ⟨fun q => absurd rfl q, fun u hu => findC_keep_other hu, fun e he => ?_⟩
  rcases keepT_mem he with g | g
  · exact h e g
  · rw [g]
    exact hc
theorem Eff.drop (me : Rf) (v : Vc) {L : Tb} (h : OkT L) : Eff me v 0 L (dropL v L) := ⟨fun q => absurd rfl q, fun _ hu => findC_drop_other hu, fun e he => h e (List.mem_filter.1 he).1⟩
theorem OkT.find {me : Rf} {L : Tb} {v : Vc} {o : Cn} (h : OkT L) (ho : findC me L v = some o) : ∀ p ∈ o.1, okO p.1 p.2 = true := by
  unfold findC at ho
  cases hl : lookL L v with
  | some c =>
    rw [hl] at ho
    injection ho with ho
    rw [← ho]
    exact h _ (lookL_some hl)
  | none =>
    rw [hl] at ho
    simp only [] at ho
    split at ho
    · injection ho with ho
      rw [← ho]
      intro p hp
      cases hp
    · cases ho
theorem cn_os {c : Rc} {o : Cn} (h : c.cn = o) : c.os = o.1 := by rw [← h]; rfl

theorem left_all (base p m : Nat) (me : Rf) (L : Tb) (w : World) (h : LK w base p m me L) (hB : base ≤ w.heap.size) (x y : Int) (hv : okV (x, y)) (hm : okMe me) (hy : 0 ≤ y) (hR : Ranks w) (hok : OkT L) (z0 z1 z2 z3 z4 : Int) : Calls Tryd.prog 23 #[.pointer (some ⟨p, 0, none⟩), .agg #[.int .i64 x, .int .u64 y], .agg #[.int .i64 z0, .int .i64 z1, .int .u64 z2, .int .i64 z3, .int .u64 z4]] w fun e w' => ∃ E L', e = .returned (.int .i64 E) ∧ Eff me (x, y) E L L' ∧ KX w w' base p m me L L' := by
  cases ho : findC me L (x, y) with
  | none =>
    refine (left_none base p m me L w h x y hv hm hy z0 z1 z2 z3 z4 ho).mono ?_
    rintro e w' ⟨rfl, hb⟩
    exact ⟨82, L, rfl, Eff.refl _ _ _ hok, h.kx hb⟩
  | some oc =>
    cases hs : toL z1 z2 me.2.1 me.2.2.1 with
    | false =>
      refine (left_side base p m me L w h hB x y hv hm hy z0 z1 z2 z3 z4 hR oc ho hs).mono ?_
      rintro e w' ⟨rfl, hb⟩
      exact ⟨83, L, rfl, Eff.refl _ _ _ hok, h.kx hb⟩
    | true =>
      refine (left_ok base p m me L w h hB x y hv hm hy z0 z1 z2 z3 z4 hR oc ho hs).mono ?_
      rintro e w' ⟨rfl, c, hc, hx⟩
      refine ⟨0, _, rfl, Eff.keep _ _ hok c ?_, hx⟩
      rw [cn_os hc]
      have hf := hok.find ho
      exact hf

theorem right_all (base p m : Nat) (me : Rf) (L : Tb) (w : World) (h : LK w base p m me L) (hB : base ≤ w.heap.size) (x y : Int) (hv : okV (x, y)) (hm : okMe me) (hy : 0 ≤ y) (hR : Ranks w) (hok : OkT L) (z0 z1 z2 z3 z4 : Int) (a o : Int) : Calls Tryd.prog 24 #[.pointer (some ⟨p, 0, none⟩), .agg #[.int .i64 x, .int .u64 y], .agg #[.int .i64 z0, .int .i64 z1, .int .u64 z2, .int .i64 z3, .int .u64 z4], .agg #[.int .i64 a, .int .i64 o]] w fun e w' => ∃ E L', e = .returned (.int .i64 E) ∧ Eff me (x, y) E L L' ∧ KX w w' base p m me L L' := by
  cases ho : findC me L (x, y) with
  | none =>
    refine (right_none base p m me L w h x y hv hm hy z0 z1 z2 z3 z4 a o ho).mono ?_
    rintro e w' ⟨rfl, hb⟩
    exact ⟨82, L, rfl, Eff.refl _ _ _ hok, h.kx hb⟩
  | some oc =>
    by_cases hh : heE oc.1 a o = 0
    · cases hs : toR z1 z2 me.2.1 me.2.2.1 with
      | false =>
        refine (right_side base p m me L w h hB x y hv hm hy z0 z1 z2 z3 z4 a o hR oc ho hh hs).mono ?_
        rintro e w' ⟨rfl, hb⟩
        exact ⟨83, L, rfl, Eff.refl _ _ _ hok, h.kx hb⟩
      | true =>
        refine (right_ok base p m me L w h hB x y hv hm hy z0 z1 z2 z3 z4 a o hR oc ho hh hs).mono ?_
        rintro e w' ⟨rfl, c, hc, hx⟩
        refine ⟨0, _, rfl, Eff.keep _ _ hok c ?_, hx⟩
        rw [cn_os hc]
        have hf := hok.find ho
        exact hf
    · refine (right_held base p m me L w h hB x y hv hm hy z0 z1 z2 z3 z4 a o hR oc ho hh).mono ?_
      rintro e w' ⟨rfl, hb⟩
      exact ⟨_, L, rfl, Eff.refl _ _ _ hok, h.kx hb⟩

theorem lock_all (base p m : Nat) (me : Rf) (L : Tb) (w : World) (h : LK w base p m me L) (hB : base ≤ w.heap.size) (x y : Int) (hv : okV (x, y)) (hm : okMe me) (hy : 0 ≤ y) (hok : OkT L) (a o : Int) : Calls Tryd.prog 21 #[.pointer (some ⟨p, 0, none⟩), .agg #[.int .i64 x, .int .u64 y], .agg #[.int .i64 a, .int .i64 o]] w fun e w' => ∃ B E L', e = .returned (.tuple #[.bool B, .int .i64 E]) ∧ Eff me (x, y) E L L' ∧ KX w w' base p m me L L' := by
  cases ho : findC me L (x, y) with
  | none =>
    refine (lock_none base p m me L w h x y hv hm hy a o ho).mono ?_
    rintro e w' ⟨rfl, hb⟩
    exact ⟨false, 82, L, rfl, Eff.refl _ _ _ hok, h.kx hb⟩
  | some oc =>
    obtain ⟨⟨B, E, os'⟩, hA⟩ : ∃ z, askA oc.1 a o = z := ⟨_, rfl⟩
    by_cases hE : E = 0
    · subst hE
      refine (lock_ok base p m me L w h hB x y hv hm hy a o oc ho B os' hA).mono ?_
      rintro e w' ⟨rfl, c, hc, hx⟩
      refine ⟨B, 0, _, rfl, Eff.keep _ _ hok c ?_, hx⟩
      rw [cn_os hc]
      have hf := hok.find ho
      unfold askA at hA
      split at hA
      · simp only [Prod.mk.injEq] at hA
        exact absurd hA.2.1 (by decide)
      · rename_i h1
        split at hA
        · simp only [Prod.mk.injEq] at hA
          rw [← hA.2.2]
          exact hf
        · split at hA
          · simp only [Prod.mk.injEq] at hA
            exact absurd hA.2.1 (by decide)
          · simp only [Prod.mk.injEq] at hA
            rw [← hA.2.2]
            intro q hq
            rcases List.mem_append.1 hq with hq | hq
            · exact hf q hq
            · simp only [List.mem_cons, List.not_mem_nil, or_false] at hq
              rw [hq]
              simpa using h1
    · refine (lock_err base p m me L w h hB x y hv hm hy a o oc ho B E os' hA hE).mono ?_
      rintro e w' ⟨rfl, hb⟩
      exact ⟨B, E, L, rfl, Eff.refl _ _ _ hok, h.kx hb⟩

theorem free_all (base p m : Nat) (me : Rf) (L : Tb) (w : World) (h : LK w base p m me L) (hB : base ≤ w.heap.size) (x y : Int) (hv : okV (x, y)) (hm : okMe me) (hy : 0 ≤ y) (hok : OkT L) (a o : Int) : Calls Tryd.prog 22 #[.pointer (some ⟨p, 0, none⟩), .agg #[.int .i64 x, .int .u64 y], .agg #[.int .i64 a, .int .i64 o]] w fun e w' => ∃ n1 n2 B E L', e = .returned (.tuple #[.agg #[.int .i64 n1, .int .i64 n2], .bool B, .int .i64 E]) ∧ Eff me (x, y) E L L' ∧ KX w w' base p m me L L' := by
  cases ho : findC me L (x, y) with
  | none =>
    refine (lfree_none base p m me L w h x y hv hm hy a o ho).mono ?_
    rintro e w' ⟨rfl, hb⟩
    exact ⟨0, 0, false, 82, L, rfl, Eff.refl _ _ _ hok, h.kx hb⟩
  | some oc =>
    obtain ⟨⟨⟨n1, n2⟩, B, E, os'⟩, hA⟩ : ∃ z, freeA oc.1 a o = z := ⟨_, rfl⟩
    by_cases hE : E = 0
    · subst hE
      refine (lfree_ok base p m me L w h hB x y hv hm hy a o oc ho n1 n2 B os' hA).mono ?_
      rintro e w' ⟨rfl, c, hc, hx⟩
      refine ⟨n1, n2, B, 0, _, rfl, Eff.keep _ _ hok c ?_, hx⟩
      rw [cn_os hc]
      have hf := hok.find ho
      unfold freeA at hA
      split at hA
      · simp only [Prod.mk.injEq] at hA
        exact absurd hA.2.2.1 (by decide)
      · split at hA
        · simp only [Prod.mk.injEq] at hA
          rw [← hA.2.2.2]
          intro q hq
          exact hf q (List.mem_of_mem_tail hq)
        · simp only [Prod.mk.injEq] at hA
          exact absurd hA.2.2.1 (by decide)
    · refine (lfree_err base p m me L w h hB x y hv hm hy a o oc ho n1 n2 B E os' hA hE).mono ?_
      rintro e w' ⟨rfl, hb⟩
      exact ⟨n1, n2, B, E, L, rfl, Eff.refl _ _ _ hok, h.kx hb⟩

/-- What Out tells. -/
def outE (me : Rf) (L : Tb) (v : Vc) (a o : Int) : Int := match findC me L v with
  | none => 82
  | some oc => if me.2.1 ≠ 2 then 80 else heE oc.1 a o
theorem out_all (base p m : Nat) (me : Rf) (L : Tb) (w : World) (h : LK w base p m me L) (hB : base ≤ w.heap.size) (x y : Int) (hv : okV (x, y)) (hm : okMe me) (hy : 0 ≤ y) (hok : OkT L) (a o : Int) : Calls Tryd.prog 18 #[.pointer (some ⟨p, 0, none⟩), .agg #[.int .i64 x, .int .u64 y], .agg #[.int .i64 a, .int .i64 o]] w fun e w' => ∃ qa qn qc L', e = .returned (.tuple #[.slice qa qn qc, .int .i64 (outE me L (x, y) a o)]) ∧ Eff me (x, y) (outE me L (x, y) a o) L L' ∧ (outE me L (x, y) a o = 0 → me.2.1 = 2 ∧ L' = dropL (x, y) L) ∧ KX w w' base p m me L L' := by
  cases ho : findC me L (x, y) with
  | none =>
    have hE : outE me L (x, y) a o = 82 := by unfold outE; rw [ho]
    rw [hE]
    refine (out_none base p m me L w h x y hv hm hy a o ho).mono ?_
    rintro e w' ⟨rfl, hb⟩
    exact ⟨none, 0, 0, L, rfl, Eff.refl _ _ _ hok, fun q => absurd q (by decide), h.kx hb⟩
  | some oc =>
    by_cases hr : me.2.1 = 2
    · have hE : outE me L (x, y) a o = heE oc.1 a o := by unfold outE; rw [ho]; simp [hr]
      rw [hE]
      by_cases hh : heE oc.1 a o = 0
      · refine (out_ok base p m me L w h hB x y hv hm hy a o oc ho hr hh).mono ?_
        rintro e w' ⟨⟨q, rfl, hq⟩, hx⟩
        obtain ⟨qa, qc, rfl, -, -⟩ := hq.shape
        rw [hh]
        exact ⟨qa, _, qc, _, rfl, Eff.drop _ _ hok, fun _ => ⟨hr, rfl⟩, hx⟩
      · refine (out_held base p m me L w h hB x y hv hm hy a o oc ho hr hh).mono ?_
        rintro e w' ⟨rfl, hb⟩
        exact ⟨none, 0, 0, L, rfl, Eff.refl _ _ _ hok, fun q => absurd q hh, h.kx hb⟩
    · have hE : outE me L (x, y) a o = 80 := by unfold outE; rw [ho]; simp [hr]
      rw [hE]
      refine (out_end base p m me L w h hB x y hv hm hy a o oc ho hr).mono ?_
      rintro e w' ⟨rfl, hb⟩
      exact ⟨none, 0, 0, L, rfl, Eff.refl _ _ _ hok, fun q => absurd q (by decide), h.kx hb⟩

/-- What Put tells: by the peer, whether it is in the list, and what is handed in. -/
def putE (me : Rf) (isIn : Bool) (v : Vc) (a b : Rf) (p : Ow) : Int :=
  if me.2.1 ≠ 2 then 80 else if may me v = false then 80 else if isIn = true then 81 else if toL a.2.1 a.2.2.1 me.2.1 me.2.2.1 = false then 83 else if toR b.2.1 b.2.2.1 me.2.1 me.2.2.1 = false then 83 else if okO p.1 p.2 = false then 70 else 0
theorem put_all (base p m : Nat) (me : Rf) (L : Tb) (w : World) (h : LK w base p m me L) (hB : base ≤ w.heap.size) (x y : Int) (hv : okV (x, y)) (hm : okMe me) (hy : 0 ≤ y) (hR : Ranks w) (hok : OkT L) (a0 a1 a2 a3 a4 b0 b1 b2 b3 b4 oa oo : Int) : Calls Tryd.prog 20 #[.pointer (some ⟨p, 0, none⟩), .agg #[.int .i64 x, .int .u64 y], .agg #[.int .i64 a0, .int .i64 a1, .int .u64 a2, .int .i64 a3, .int .u64 a4], .agg #[.int .i64 b0, .int .i64 b1, .int .u64 b2, .int .i64 b3, .int .u64 b4], .agg #[.int .i64 oa, .int .i64 oo]] w fun e w' => ∃ L', e = .returned (.int .i64 (putE me (findC me L (x, y)).isSome (x, y) (a0, a1, a2, a3, a4) (b0, b1, b2, b3, b4) (oa, oo))) ∧ Eff me (x, y) (putE me (findC me L (x, y)).isSome (x, y) (a0, a1, a2, a3, a4) (b0, b1, b2, b3, b4) (oa, oo)) L L' ∧ (putE me (findC me L (x, y)).isSome (x, y) (a0, a1, a2, a3, a4) (b0, b1, b2, b3, b4) (oa, oo) = 0 → findC me L' (x, y) = some ([(oa, oo)], (a0, a1, a2, a3, a4), (b0, b1, b2, b3, b4))) ∧ KX w w' base p m me L L' := by
  obtain ⟨E, hE⟩ : ∃ E, putE me (findC me L (x, y)).isSome (x, y) (a0, a1, a2, a3, a4) (b0, b1, b2, b3, b4) (oa, oo) = E := ⟨_, rfl⟩
  rw [hE]
  unfold putE at hE
  by_cases hr : me.2.1 = 2
  rotate_left
  · rw [if_pos hr] at hE
    subst hE
    refine (put_end base p m me L w h x y a0 a1 a2 a3 a4 b0 b1 b2 b3 b4 oa oo hr).mono ?_
    rintro e w' ⟨rfl, hb⟩
    exact ⟨L, rfl, Eff.refl _ _ _ hok, fun q => absurd q (by decide), h.kx hb⟩
  rw [if_neg (fun q => q hr)] at hE
  cases hM : may me (x, y) with
  | false =>
    rw [hM, if_pos rfl] at hE
    subst hE
    refine (put_may base p m me L w h x y hm hy a0 a1 a2 a3 a4 b0 b1 b2 b3 b4 oa oo hr hM).mono ?_
    rintro e w' ⟨rfl, hb⟩
    exact ⟨L, rfl, Eff.refl _ _ _ hok, fun q => absurd q (by decide), h.kx hb⟩
  | true =>
    rw [hM, if_neg (by decide)] at hE
    cases ho : findC me L (x, y) with
    | some oc =>
      rw [ho, Option.isSome_some, if_pos rfl] at hE
      subst hE
      obtain ⟨c, hc⟩ := findC_peer ho hr
      refine (put_in base p m me L w h x y hv hm hy a0 a1 a2 a3 a4 b0 b1 b2 b3 b4 oa oo hr hM c hc).mono ?_
      rintro e w' ⟨rfl, hb⟩
      exact ⟨L, rfl, Eff.refl _ _ _ hok, fun q => absurd q (by decide), h.kx hb⟩
    | none =>
      rw [ho, Option.isSome_none, if_neg (by decide)] at hE
      have hn : ∀ e ∈ L, e.1 ≠ (x, y) := by
        refine lookL_none ?_
        unfold findC at ho
        cases hl : lookL L (x, y) with
        | none => rfl
        | some c => rw [hl] at ho; cases ho
      cases hs : toL a1 a2 me.2.1 me.2.2.1 with
      | false =>
        simp only [hs, if_true] at hE
        subst hE
        refine (put_left base p m me L w h x y hv hm hy a0 a1 a2 a3 a4 b0 b1 b2 b3 b4 oa oo hR hr hM hn hs).mono ?_
        rintro e w' ⟨rfl, hb⟩
        exact ⟨L, rfl, Eff.refl _ _ _ hok, fun q => absurd q (by decide), h.kx hb⟩
      | true =>
        cases ht : toR b1 b2 me.2.1 me.2.2.1 with
        | false =>
          simp only [hs, ht, if_true] at hE
          rw [if_neg (by decide)] at hE
          subst hE
          refine (put_right base p m me L w h x y hv hm hy a0 a1 a2 a3 a4 b0 b1 b2 b3 b4 oa oo hR hr hM hn hs ht).mono ?_
          rintro e w' ⟨rfl, hb⟩
          exact ⟨L, rfl, Eff.refl _ _ _ hok, fun q => absurd q (by decide), h.kx hb⟩
        | true =>
          simp only [hs, ht] at hE
          rw [if_neg (by decide), if_neg (by decide)] at hE
          cases hq : okO oa oo with
          | false =>
            rw [hq, if_pos rfl] at hE
            subst hE
            refine (put_owner base p m me L w h x y hv hm hy a0 a1 a2 a3 a4 b0 b1 b2 b3 b4 oa oo hR hr hM hn hs ht hq).mono ?_
            rintro e w' ⟨rfl, hb⟩
            exact ⟨L, rfl, Eff.refl _ _ _ hok, fun q => absurd q (by decide), h.kx hb⟩
          | true =>
            rw [hq, if_neg (by decide)] at hE
            subst hE
            refine (put_ok base p m me L w h hB x y hv hm hy a0 a1 a2 a3 a4 b0 b1 b2 b3 b4 oa oo hR hr hM hn hs ht hq).mono ?_
            rintro e w' ⟨rfl, c, hc, hx⟩
            refine ⟨_, rfl, Eff.keep _ _ hok c ?_, fun _ => ?_, hx⟩
            · rw [cn_os hc]
              intro q hq2
              simp only [List.mem_cons, List.not_mem_nil, or_false] at hq2
              rw [hq2]
              exact hq
            · rw [findC_keep_same (Or.inl hr), hc]

/-- The record of a list as Get tells it. -/
def getS (v : Vc) : Option Cn → RSt
  | none => ((0, 0), (0, 0, 0, 0, 0), (0, 0, 0, 0, 0), false, (0, 0), [])
  | some o => stA v o
theorem get_all (base p m : Nat) (me : Rf) (L : Tb) (w : World) (h : LK w base p m me L) (hB : base ≤ w.heap.size) (x y : Int) (hv : okV (x, y)) (hm : okMe me) (hy : 0 ≤ y) : Calls Tryd.prog 16 #[.pointer (some ⟨p, 0, none⟩), .agg #[.int .i64 x, .int .u64 y]] w fun e w' => ∃ qv, e = .returned (.tuple #[.agg #[.int .i64 (getS (x, y) (findC me L (x, y))).1.1, .int .u64 (getS (x, y) (findC me L (x, y))).1.2, .int .i64 (getS (x, y) (findC me L (x, y))).2.1.1, .int .i64 (getS (x, y) (findC me L (x, y))).2.1.2.1, .int .u64 (getS (x, y) (findC me L (x, y))).2.1.2.2.1, .int .i64 (getS (x, y) (findC me L (x, y))).2.1.2.2.2.1, .int .u64 (getS (x, y) (findC me L (x, y))).2.1.2.2.2.2, .int .i64 (getS (x, y) (findC me L (x, y))).2.2.1.1, .int .i64 (getS (x, y) (findC me L (x, y))).2.2.1.2.1, .int .u64 (getS (x, y) (findC me L (x, y))).2.2.1.2.2.1, .int .i64 (getS (x, y) (findC me L (x, y))).2.2.1.2.2.2.1, .int .u64 (getS (x, y) (findC me L (x, y))).2.2.1.2.2.2.2, .bool (getS (x, y) (findC me L (x, y))).2.2.2.1, .int .i64 (getS (x, y) (findC me L (x, y))).2.2.2.2.1.1, .int .i64 (getS (x, y) (findC me L (x, y))).2.2.2.2.1.2, qv], .bool (findC me L (x, y)).isSome]) ∧ Sl w' qv (getS (x, y) (findC me L (x, y))).2.2.2.2.2 ∧ (∀ k, qv.ownBlock = some k → w.heap.size ≤ k) ∧ Below w.heap.size w w' := by
  cases ho : findC me L (x, y) with
  | none =>
    refine (get_none base p m me L w h x y hv hm hy ho).mono ?_
    rintro e w' ⟨rfl, hb⟩
    exact ⟨.slice none 0 0, rfl, Or.inl ⟨rfl, rfl⟩, (fun k hk => by cases hk), hb⟩
  | some o =>
    refine (get_some base p m me L w h hB x y hv hm hy o ho).mono ?_
    rintro e w' ⟨a, rfl, ⟨q, rfl, hq⟩, hf, hb⟩
    exact ⟨q, rfl, hq, hf q _ rfl rfl, hb⟩

end Go.Proofs.YtledkljffjomdaaDoor
