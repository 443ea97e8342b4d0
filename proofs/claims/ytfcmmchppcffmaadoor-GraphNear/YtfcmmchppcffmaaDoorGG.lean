/- vec.Prefix; the lists of a level, in memory; one member more. -/
import Derived.Test.YtfcmmchppcffmaaDoorGM
namespace Go.Proofs.YtfcmmchppcffmaaDoor
open Go.RowKit Go.Maps Go.ChangeMaps

set_option maxHeartbeats 1000000 in
theorem hasCut_ok (n b k : Int) (hr : rt n b = true) (hb : 0 ≤ b) (h0 : 0 ≤ k) (h1 : k ≤ n) (w : World) : Calls Tryd.prog 67 #[(.agg #[.int .i64 (n), .int .u64 (b)]), .int .i64 k] w fun e w' => e = .returned (.int .i64 0) ∧ Below w.heap.size w w' := by
  have d0 : decide (k < 0) = false := decide_eq_false (by omega)
  have d1 : decide (n < k) = false := decide_eq_false (by omega)
  have Vb := hide (IsB.new w #[.int .i64 n, .int .u64 b] 28)
  have B := hide ((Below.refl w.heap.size w).alloc (Nat.le_refl _) (.cells #[.int .i64 n, .int .u64 b] 28))
  have VR := hide (vright_yes n b hr hb (w.alloc (.cells #[.int .i64 n, .int .u64 b] 28)))
  go_enter Tryd.func67, Tryd.ntmps67
  go_wp2_with fail
  generalize w.alloc (.cells #[.int .i64 n, .int .u64 b] 28) = W1 at *
  generalize hH : w.heap.size = H at Vb ⊢
  replace hH := hide hH
  refine VR.out.mono ?_
  rintro e w2 ⟨rfl, hb2⟩
  have y0 := (Vb.out.below hb2).cell 0
  simp at y0
  replace B := hide (B.out.trans (hb2.mono B.out.size))
  clear hb2 VR
  go_wp2
  go_ret
  exact ⟨rfl, B.out⟩
theorem vec_info : (Tryd.prog.info? 28).map (·.size) = some 2 := by kernel_rfl
theorem ret_vt {fn : Func} {p u : Tmp} (hf : fn.results = #[.cell p 28, .tmp u]) {Q : Ending → World → Prop} {tmps : Array Value} {w : World} {b : Nat} {cs : Array Value} {v : Value} (hs : cs.size = 2)
    (hp : tmps.getD p undef = .pointer (some ⟨b, 0, none⟩)) (hu : tmps.getD u undef = v) (I : IsB w b cs 28) (hQ : Q (.returned (.tuple #[.agg cs, v])) w) :
    bodyPost Tryd.prog fn Q .ret ⟨tmps, []⟩ w := by
  refine bodyPost_ret ?_ rfl hQ
  rw [results_cell_tmp hf, hp, hu]
  have h := run_loadVar_row (P := Tryd.prog) w b 28 28 cs (0, 0) _ I Tryd.underlying28 rfl (by rw [hs]; exact vec_info)
  simp [asAddr, h, Result.andThen]

set_option maxHeartbeats 1000000 in
theorem prefix_ok (n b k : Int) (hr : rt n b = true) (hb : 0 ≤ b) (h0 : 0 ≤ k) (h1 : k ≤ n) (w : World) : Calls Tryd.prog 48 #[(.agg #[.int .i64 (n), .int .u64 (b)]), .int .i64 k] w fun e w' => e = .returned (.tuple #[(.agg #[.int .i64 (k), .int .u64 ((pre n.toNat b.toNat k.toNat : Nat))]), .int .i64 0]) ∧ Below w.heap.size w w' := by
  have h32 : n ≤ 32 := (of_decide_eq_true hr).2.1
  have b2 := ((Below.refl w.heap.size w).alloc (Nat.le_refl _) (.cells #[.int .i64 n, .int .u64 b] 28)).alloc (by simp) (.cells #[.int .i64 0, .int .u64 0] 28)
  have Vb : Hid (IsB ((w.alloc (.cells #[.int .i64 n, .int .u64 b] 28)).alloc (.cells #[.int .i64 0, .int .u64 0] 28)) w.heap.size #[.int .i64 n, .int .u64 b] 28) := (IsB.new w #[.int .i64 n, .int .u64 b] _).below ((Below.refl _ _).alloc (Nat.le_refl _) _)
  have Rb : Hid (IsB ((w.alloc (.cells #[.int .i64 n, .int .u64 b] 28)).alloc (.cells #[.int .i64 0, .int .u64 0] 28)) (w.heap.size + 1) #[.int .i64 0, .int .u64 0] 28) := by
    have := IsB.new (w.alloc (.cells #[.int .i64 n, .int .u64 b] 28)) #[.int .i64 0, .int .u64 0] 28
    rwa [World.size_alloc] at this
  have HC := hide (hasCut_ok n b k hr hb h0 h1 ((w.alloc (.cells #[.int .i64 n, .int .u64 b] 28)).alloc (.cells #[.int .i64 0, .int .u64 0] 28)))
  have B := hide b2
  clear b2
  go_enter Tryd.func48, Tryd.ntmps48
  go_wp2_with fail
  generalize ((w.alloc (.cells #[.int .i64 n, .int .u64 b] 28)).alloc (.cells #[.int .i64 0, .int .u64 0] 28)) = W1 at *
  generalize hH : w.heap.size = H at Vb Rb ⊢
  replace hH := hide hH
  refine HC.out.mono ?_
  rintro e w2 ⟨rfl, hb2⟩
  replace Vb := hide (Vb.out.below hb2)
  replace Rb := hide (Rb.out.below hb2)
  replace B := hide (B.out.trans (hb2.mono B.out.size))
  clear hb2 HC
  have y0 := Vb.out.cell 0
  have y1 := Vb.out.cell 1
  simp at y0 y1
  go_wp2_with fail
  refine (first_any n b k h0 h1 h32 hb w2).mono ?_
  rintro e w3 ⟨rfl, hb2⟩
  replace Rb := hide (Rb.out.below hb2)
  replace B := hide (B.out.trans (hb2.mono B.out.size))
  clear hb2 y0 y1
  generalize hP : ((pre n.toNat b.toNat k.toNat : Nat) : Int) = P
  replace hP := hide hP
  have z0 : w3.frozen? ⟨H + 1, 0, none⟩ = false := Rb.out.free 0
  have c0 : w3.cell? ⟨H + 1, 0, none⟩ = some (.int .i64 0) := Rb.out.cell 0
  have z1 : w3.frozen? ⟨H + 1, 1, none⟩ = false := Rb.out.free 1
  have c1 : w3.cell? ⟨H + 1, 1, none⟩ = some (.int .u64 0) := Rb.out.cell 1
  have fl := Rb.out.lt
  go_wp2
  clear z0 c0 z1 c1
  have hW : ((w3.setCell ⟨H + 1, 0, none⟩ (.int .i64 k)).setCell ⟨H + 1, 1, none⟩ (.int .u64 P)) = putCells w3 (H + 1) 0 [.int .i64 k, .int .u64 P] := rfl
  rw [hW]
  clear hW
  have F9 := putCells_is (cs := [.int .i64 0, .int .u64 0]) Rb.out [.int .i64 k, .int .u64 P] rfl
  have k9 := putCells_kp (H + 1) [.int .i64 k, .int .u64 P] w3 0
  refine ret_vt (p := 4) (u := 5) (b := H + 1) Tryd.results48 rfl rfl rfl F9 ?_
  exact ⟨by rw [hP.out]; rfl, (Kp.of_below (S := []) B.out).trans k9 (fun j hj => by simp at hj; right; rw [hj, hH.out]; omega) |>.to_below (Nat.le_refl _) (by simp)⟩

/-- The vector of a member's list at a level. -/
def prV (k : Int) (r : Rf) : Vc := (k, ((pre r.ln.toNat r.bt.toNat k.toNat : Nat) : Int))
theorem okV_of {x y : Int} (h0 : 0 ≤ x) (h1 : x ≤ 32) (h2 : 0 ≤ y) (h3 : y < 18446744073709551616) : okV (x, y) := by
  unfold okV
  constructor
  · simp [Lit.wf, IntKind.min, IntKind.max, IntKind.bits, IntKind.signed]; omega
  · simp [Lit.wf, IntKind.min, IntKind.max, IntKind.bits, IntKind.signed]; omega
theorem pow32 (n : Int) (h0 : 0 ≤ n) (h1 : n ≤ 32) : (2 : Int) ^ n.toNat ≤ 4294967296 := by
  have : 2 ^ n.toNat ≤ 2 ^ 32 := Nat.pow_le_pow_right (by omega) (by omega)
  have h2 : ((2 ^ n.toNat : Nat) : Int) ≤ ((2 ^ 32 : Nat) : Int) := by omega
  simpa using h2
theorem okV_prV {k : Int} {r : Rf} (hr : rt r.ln r.bt = true) (h0 : 0 ≤ k) (h1 : k ≤ 32) : okV (prV k r) := by
  have h := of_decide_eq_true hr
  have h5 := pow32 r.ln h.1 h.2.1
  refine okV_of h0 h1 (by omega) ?_
  have h4 : pre r.ln.toNat r.bt.toNat k.toNat ≤ r.bt.toNat := Nat.div_le_self _ _
  omega
/-- The members of a list. -/
def flt (k : Int) (u : Vc) (l : List Rf) : List Rf := l.filter fun r => decide (prV k r = u)
theorem flt_app (k : Int) (u : Vc) (l : List Rf) (r : Rf) : flt k u (l ++ [r]) = flt k u l ++ (if prV k r = u then [r] else []) := by
  unfold flt
  rw [List.filter_append]
  congr 1
  by_cases h : prV k r = u <;> simp [h]
/-- The lists of a level lie in a map, each in a row of its own. -/
structure Lv (w : World) (base m : Nat) (k : Int) (l : List Rf) (E : List (Vc × Value)) : Prop where
  mp : MV w m E
  lo : base ≤ m
  row : ∀ x ∈ E, Rw w 30 5 x.2 (flt k x.1 l).length (rfs (flt k x.1 l))
  own : ∀ x ∈ E, ∃ g, x.2.ownBlock = some g ∧ base ≤ g
  dis : ∀ x ∈ E, ∀ y ∈ E, x.2.ownBlock = y.2.ownBlock → x.1 = y.1
  all : ∀ r ∈ l, ∃ x ∈ E, x.1 = prV k r
  key : ∀ x ∈ E, ∃ r ∈ l, x.1 = prV k r
  nod : (E.map (·.1)).Nodup
theorem Lv.below {w w' : World} {base m : Nat} {k : Int} {l : List Rf} {E : List (Vc × Value)} (h : Lv w base m k l E) (hb : Below w.heap.size w w') : Lv w' base m k l E :=
  ⟨h.mp.below hb, h.lo, fun x hx => (h.row x hx).below hb, h.own, h.dis, h.all, h.key, h.nod⟩
/-- What is looked up in it. -/
theorem Lv.look {w : World} {base m : Nat} {k : Int} {l : List Rf} {E : List (Vc × Value)} (h : Lv w base m k l E) (u : Vc) (hu : okV u) :
    ∃ v, (Instr.lookup 70 (.map (some m)) (vv u) false).run Tryd.prog w = .ok v w ∧ Rw w 30 5 v (flt k u l).length (rfs (flt k u l)) ∧ ∀ g, v.ownBlock = some g → base ≤ g := by
  by_cases hx : ∃ x ∈ E, x.1 = u
  · obtain ⟨x, hx, rfl⟩ := hx
    refine ⟨x.2, h.mp.look_in x.1 hu x.2 hx, h.row x hx, fun g hg => ?_⟩
    obtain ⟨g', h1, h2⟩ := h.own x hx
    rw [h1] at hg
    injection hg with hg
    omega
  · have hn : flt k u l = [] := by
      unfold flt
      rw [List.filter_eq_nil_iff]
      intro r hr
      simp
      rintro rfl
      obtain ⟨x, hx', e⟩ := h.all r hr
      exact hx ⟨x, hx', e⟩
    refine ⟨.slice none 0 0, h.mp.look_no u hu (fun x hx' e => hx ⟨x, hx', e⟩), ?_, fun g hg => by cases hg⟩
    rw [hn]
    exact ⟨rfl, Or.inl ⟨rfl, rfl⟩⟩
theorem MV.grown {w w' : World} {m : Nat} {E : List (Vc × Value)} {row : Option Nat} (h : MV w m E) (hg : w.grownBy w' row) (hn : row ≠ some m) : MV w' m E := h.kept (hg.block m h.lt (fun e => hn e.symm))
theorem Rw.grown {w w' : World} {e : TypeId} {size : Nat} {v : Value} {n : Nat} {xs : List Value} {row : Option Nat} (h : Rw w e size v n xs) (hg : w.grownBy w' row) (hn : ∀ g, v.ownBlock = some g → row ≠ some g) : Rw w' e size v n xs :=
  h.kept fun g hv => hg.block g (h.lt g hv).1 (fun e => hn g hv e.symm)
theorem MV.blk {w : World} {m : Nat} {E : List (Vc × Value)} (h : MV w m E) : ∃ es cl, w.heap[m]? = some (.map es cl) := by
  obtain ⟨es, cl, h1, -⟩ := h
  exact ⟨es, cl, h1⟩
theorem mem_updE {E : List (Vc × Value)} {v : Vc} {val : Value} {x : Vc × Value} (hx : x ∈ updE E v val) : x = (v, val) ∨ (x ∈ E ∧ x.1 ≠ v) := by
  unfold updE at hx
  split at hx
  · obtain ⟨y, hy, e⟩ := List.mem_map.1 hx
    split at e
    · exact Or.inl e.symm
    · rename_i hne
      subst e
      exact Or.inr ⟨hy, hne⟩
  · rename_i hn
    rcases List.mem_append.1 hx with hx | hx
    · exact Or.inr ⟨hx, fun e => hn (List.mem_map.2 ⟨x, hx, e⟩)⟩
    · simp at hx
      exact Or.inl hx
theorem in_updE (E : List (Vc × Value)) (v : Vc) (val : Value) : (v, val) ∈ updE E v val := by
  unfold updE
  split
  · rename_i hm
    obtain ⟨x, hx, rfl⟩ := List.mem_map.1 hm
    exact List.mem_map.2 ⟨x, hx, by simp⟩
  · simp
theorem key_updE {E : List (Vc × Value)} {v : Vc} {val : Value} {u : Vc} (h : ∃ x ∈ E, x.1 = u) : ∃ x ∈ updE E v val, x.1 = u := by
  obtain ⟨x, hx, rfl⟩ := h
  by_cases e : x.1 = v
  · exact ⟨_, in_updE E v val, e.symm⟩
  · refine ⟨x, ?_, rfl⟩
    unfold updE
    split
    · exact List.mem_map.2 ⟨x, hx, by simp [e]⟩
    · exact List.mem_append_left _ hx
theorem nod_updE {E : List (Vc × Value)} (v : Vc) (val : Value) (h : (E.map (·.1)).Nodup) : ((updE E v val).map (·.1)).Nodup := by
  unfold updE
  split
  · have e : ∀ l : List (Vc × Value), (l.map (fun x => if x.1 = v then (v, val) else x)).map (·.1) = l.map (·.1) := by
      intro l
      rw [List.map_map]
      apply List.map_congr_left
      intro x _
      by_cases e : x.1 = v <;> simp [e]
    rw [e]
    exact h
  · rename_i hn
    rw [List.map_append, List.nodup_append]
    refine ⟨h, by simp, fun a ha b hb => ?_⟩
    simp at hb
    subst hb
    exact fun e => hn (e ▸ ha)
/-- One member more. -/
theorem Lv.step {w : World} {base m : Nat} {k : Int} {l : List Rf} {E : List (Vc × Value)} (h : Lv w base m k l E) (r : Rf) (hok : okV (prV k r)) (hl : l.length ≤ 100000) (N : Nat) (hN : IsB w N r.cells 30) (hB : base ≤ w.heap.size) :
    ∃ (v0 : Value) (st : Nat) (w1 : World) (v2 : Value) (w2 w3 : World) (E' : List (Vc × Value)), (Instr.mapEntry 70 (.map (some m)) (vv (prV k r))).run Tryd.prog w = .ok (.tuple #[v0, goInt st]) w1 ∧
      (Builtin.append_ #[22, 22] 22 #[v0, .slice (some ⟨N, 0, none⟩) 1 1]).run Tryd.prog w1 = .ok v2 w2 ∧
      (Instr.entryStore 70 (.map (some m)) (goInt st) v2).run Tryd.prog w2 = .ok () w3 ∧ Lv w3 base m k (l ++ [r]) E' ∧ Below base w w3 := by
  obtain ⟨v0, st, w1, hr1, hg1, hv0, hst⟩ := h.mp.entry (prV k r) hok
  obtain ⟨es, cl, hes⟩ := h.mp.blk
  have hNm : N ≠ m := by
    rintro rfl
    unfold IsB at hN
    rw [hes] at hN
    cases hN
  have rows1 : ∀ x ∈ E, Rw w1 30 5 x.2 (flt k x.1 l).length (rfs (flt k x.1 l)) := fun x hx => (h.row x hx).grown hg1 (fun g hg e => by
    injection e with e
    subst e
    obtain ⟨-, cur, hc⟩ := (h.row x hx).lt _ hg
    rw [hes] at hc
    cases hc)
  have hN1 : IsB w1 N r.cells 30 := (hg1.block N hN.lt (by simp; exact hNm)).trans hN
  have hrow0 : Rw w1 30 5 v0 (flt k (prV k r) l).length (rfs (flt k (prV k r) l)) := by
    rcases hv0 with hv0 | ⟨hn, rfl⟩
    · exact rows1 _ hv0
    · have : flt k (prV k r) l = [] := by
        unfold flt
        rw [List.filter_eq_nil_iff]
        intro q hq
        simp
        intro e
        obtain ⟨x, hx', e2⟩ := h.all q hq
        exact hn x hx' (e2.trans e)
      rw [this]
      exact ⟨rfl, Or.inl ⟨rfl, rfl⟩⟩
  obtain ⟨i0, hi, hz0, hz1, hz2⟩ := info_parts infoRef
  have hlen : (flt k (prV k r) l).length ≤ l.length := List.length_filter_le _ _
  obtain ⟨v2, w2, hr2, hrw2, hg2, hat, -⟩ := run_append_rw (P := Tryd.prog) w1 22 22 30 i0 _ 5 40 Tryd.underlying22 hi hz0 hz1 hz2 rfl v0 _ _ hrow0
    (.slice (some ⟨N, 0, none⟩) 1 1) 1 (rfs [r]) rfl (Or.inl ⟨⟨N, 0, none⟩, 1, rfl, fun j u hu => by
      have e : (⟨N, 0, none⟩ : Addr).add j = ⟨N, j, none⟩ := by unfold Addr.add; split <;> simp_all
      rw [e, hN1.cell j, ← hu]
      simp [Rf.cells, rfs]⟩) (rfs_one [r]) (by unfold maxLen; omega) (by omega)
  have hm1 : m < w1.heap.size := Nat.lt_of_lt_of_le h.mp.lt hg1.size
  have hv0m : v0.ownBlock ≠ some m := fun e => by
    rcases hv0 with hv0 | ⟨hn, rfl⟩
    · obtain ⟨-, cur, hc⟩ := (h.row _ hv0).lt _ e
      rw [hes] at hc
      cases hc
    · cases e
  have hw2m : w2.heap[m]? = w1.heap[m]? := hg2.block m hm1 (fun e => hv0m e.symm)
  obtain ⟨w3, hr3, hmv, hg3⟩ := hst w2 v2 hw2m
  have hv2 : ∃ g, v2.ownBlock = some g ∧ base ≤ g ∧ g ≠ m ∧ ∀ x ∈ E, x.1 ≠ prV k r → x.2.ownBlock ≠ some g := by
    rcases hat with e | e
    · rcases hv0 with hv0 | ⟨hn, rfl⟩
      · obtain ⟨g, hg, hbg⟩ := h.own _ hv0
        refine ⟨g, e.trans hg, hbg, fun e2 => hv0m (by rw [hg, e2]), fun x hx hne hxg => hne ?_⟩
        exact h.dis x hx _ hv0 (hxg.trans hg.symm)
      · obtain ⟨g, cap, hv, -⟩ := hrw2.form (by omega)
        rw [hv] at e
        cases e
    · refine ⟨_, e, by have := hg1.size; omega, by omega, fun x hx _ hxg => ?_⟩
      have := ((rows1 x hx).lt _ hxg).1
      omega
  obtain ⟨g, hg, hbg, hgm, hgo⟩ := hv2
  have hrow3 : Rw w3 30 5 v2 (flt k (prV k r) (l ++ [r])).length (rfs (flt k (prV k r) (l ++ [r]))) := by
    rw [flt_app, if_pos rfl, List.length_append, rfs_app]
    exact hrw2.grown hg3 (fun g' hg' e => by injection e with e; rw [hg] at hg'; injection hg' with hg'; omega)
  refine ⟨v0, st, w1, v2, w2, w3, updE E (prV k r) v2, hr1, hr2, hr3, ⟨hmv, h.lo, fun x hx => ?_, fun x hx => ?_, fun x hx y hy hxy => ?_, fun q hq => ?_, fun x hx => ?_, nod_updE _ _ h.nod⟩, ?_⟩
  · rcases mem_updE hx with rfl | ⟨hx, hne⟩
    · exact hrow3
    · have e1 : flt k x.1 (l ++ [r]) = flt k x.1 l := by rw [flt_app, if_neg (fun e => hne e.symm)]; simp
      rw [e1]
      refine ((rows1 x hx).grown hg2 (fun g' hg' e => ?_)).grown hg3 (fun g' hg' e => ?_)
      · rcases hv0 with hv0 | ⟨hn, rfl⟩
        · exact hne (h.dis x hx _ hv0 (hg'.trans e.symm))
        · cases e
      · injection e with e
        subst e
        obtain ⟨-, cur, hc⟩ := (h.row x hx).lt _ hg'
        rw [hes] at hc
        cases hc
  · rcases mem_updE hx with rfl | ⟨hx, hne⟩
    · exact ⟨g, hg, hbg⟩
    · exact h.own x hx
  · rcases mem_updE hx with rfl | ⟨hx, hne⟩ <;> rcases mem_updE hy with rfl | ⟨hy, hne2⟩
    · rfl
    · exact absurd (hxy.symm.trans hg) (hgo y hy hne2)
    · exact absurd (hxy.trans hg) (hgo x hx hne)
    · exact h.dis x hx y hy hxy
  · rcases List.mem_append.1 hq with hq | hq
    · exact key_updE (h.all q hq)
    · simp at hq
      subst hq
      exact ⟨_, in_updE _ _ _, rfl⟩
  · rcases mem_updE hx with rfl | ⟨hx, hne⟩
    · exact ⟨r, by simp, rfl⟩
    · obtain ⟨q, hq, e⟩ := h.key x hx
      exact ⟨q, by simp [hq], e⟩
  · have b1 : Below base w w1 := (Below.refl base w).grown hg1 hB (fun k hk => by injection hk with hk; have := h.lo; omega)
    have b2 : Below base w w2 := b1.grown hg2 (by have := hg1.size; omega) (fun k' hk => by
      rcases hv0 with hv0 | ⟨hn, rfl⟩
      · obtain ⟨g', hg', hbg'⟩ := h.own _ hv0
        rw [hg'] at hk
        injection hk with hk
        omega
      · cases hk)
    exact b2.grown hg3 (by have := hg1.size; have := hg2.size; omega) (fun k hk => by injection hk with hk; have := h.lo; omega)

end Go.Proofs.YtfcmmchppcffmaaDoor
