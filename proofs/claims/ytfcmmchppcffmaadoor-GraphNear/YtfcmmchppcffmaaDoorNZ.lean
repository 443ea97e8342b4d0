/- GraphNear walked. -/
import Derived.Test.YtfcmmchppcffmaaDoorNZM
import Derived.Test.YtfcmmchppcffmaaDoorLKL
namespace Go.Proofs.YtfcmmchppcffmaaDoor
open Go.RowKit Go.Maps Go.ChangeMaps

theorem cutT {K : Act → World → Prop} {F : Nat → Nat → World → Prop} {G : Prop} (T : Nat → Nat → Act) (tail : ∀ gA gB W, F gA gB W → K (T gA gB) W) (main : (∀ gA gB W, F gA gB W → K (T gA gB) W) → G) : G := main tail
theorem eqr_w (x y : Rf) (w : World) : (binOp .eql 30 (.agg x.cells) (.agg y.cells)).run Tryd.prog w = .ok (.bool (decide (x = y))) w := by
  refine (eqr x.id x.rk x.kn x.ln x.bt y.id y.rk y.kn y.ln y.bt w).trans ?_
  congr 2
  cases x; cases y
  rw [Bool.eq_iff_iff]
  simp [and_assoc]
theorem ner_w (x y : Rf) (w : World) : (binOp .neq 30 (.agg x.cells) (.agg y.cells)).run Tryd.prog w = .ok (.bool (!decide (x = y))) w := by
  refine (ner x.id x.rk x.kn x.ln x.bt y.id y.rk y.kn y.ln y.bt w).trans ?_
  congr 3
  cases x; cases y
  rw [Bool.eq_iff_iff]
  simp [and_assoc]
theorem gb1 (w : World) (o : Obj) : Below w.heap.size w (w.alloc o) := (Below.refl _ _).alloc (Nat.le_refl _) o
theorem more_copy {w1 w2 : World} {v : Value} {l : List Rf} (h : RSl w1 v l) (hl : l.length ≤ 1000) (hb : Below w1.heap.size w1 w2) {ge : Nat} (hE : IsB w2 ge #[] 30) (hge : w1.heap.size ≤ ge) :
    ∃ ea ec w3, (Builtin.append_ #[22, 22] 22 #[.slice (some ⟨ge, 0, none⟩) 0 0, v]).run Tryd.prog w2 = .ok (.slice ea l.length ec) w3 ∧ Gr5 w1.heap.size w3 (.slice ea l.length ec) l ∧ Kp [ge] w2 w3 := by
  have hR : Rg 30 5 w1.heap.size w2 (.slice (some ⟨ge, 0, none⟩) 0 0) [] := ⟨⟨by simp, Or.inr ⟨ge, 0, #[], rfl, hE, Nat.le_refl _, by unfold maxLen; omega, by simp, by simp⟩⟩, Es.nil 5, fun j hj => by have := Option.some.inj (show some ge = some j from hj); omega⟩
  have ht := (h.below hb).src
  have hd : (l.map Rf.cs).length = l.length := by simp
  rw [← hd, ← flat_rfs] at ht
  obtain ⟨ea, ec, w3, s1, s2, s3⟩ := Rg.app ty_ref (by omega) hR v (l.map Rf.cs) (es_rfs _) ht (by simp; omega) hb.size 22
  simp only [List.length_nil, Nat.zero_add, List.length_map, List.nil_append] at s1 s2
  exact ⟨ea, ec, w3, s1, s2, s3⟩
theorem more_push {G : Nat} {w2 : World} {ea : Option Addr} {ec : Nat} {l : List Rf} (hE : Gr5 G w2 (.slice ea l.length ec) l) (hl : l.length ≤ 1000) (z : Rf) {gz : Nat} (hz : IsB w2 gz z.cells 30) (hG : G ≤ w2.heap.size) :
    ∃ sa sc w3, (Builtin.append_ #[22, 22] 22 #[.slice ea l.length ec, .slice (some ⟨gz, 0, none⟩) 1 1]).run Tryd.prog w2 = .ok (.slice sa (l.length + 1) sc) w3 ∧ RSl w3 (.slice sa (l.length + 1) sc) (l ++ [z]) ∧ Below G w2 w3 := by
  obtain ⟨ra, rc, w3, r1, r2, r3⟩ := Rg.push ty_ref (by omega) hE z.cs rfl ((es_rfs [z]).one z.cs (by simp)) gz 1 hz (by simp; omega) hG 22
  rw [List.length_map] at r1 r2
  have r4 : Gr5 G w3 (.slice ra (l.length + 1) rc) (l ++ [z]) := by
    unfold Gr5
    simpa using r2
  exact ⟨ra, rc, w3, r1, r4.rsl, r3.to_below hG (fun k hk => hE.new k (by simpa using hk))⟩

theorem LsRow.ldv {w : World} {g n c : Nat} {l : List Rf} {As : List Lx} (h : LsRow w (.slice (some ⟨g, 0, none⟩) n c) l As) (hn : As.length = n) (i : Nat) (hi : i < As.length) (p q : Int) (hpq : As[i].1.1 = (p, q)) : (Instr.loadAt 28 (.pointer (some ⟨g, i * 3, none⟩))).run Tryd.prog w = .ok (.agg #[.int .i64 (p), .int .u64 (q)]) w := by
  refine run_loadAt_mid w g (i * 3) 28 [.int .i64 p, .int .u64 q] _ (fun k v hkv => ?_) Tryd.underlying28 rfl (by kernel_rfl)
  have hk := (List.getElem?_eq_some_iff.1 hkv).1
  simp at hk
  subst hn
  rw [h.row.cellAt (i * 3 + k) (by omega), flatX_get As _ (by omega), show (i * 3 + k) / 3 = i by omega, show (i * 3 + k) % 3 = k by omega, getElem!_pos As.toArray i (by simpa using hi)]
  rw [← hkv]
  have e : encX As.toArray[i] = [.int .i64 p, .int .u64 q, .slice As[i].1.2.1 As[i].1.2.2.1 As[i].1.2.2.2] := by
    show [_, _, _] = _
    simp [hpq]
  rw [e]
  match k, hk with
  | 0, _ => rfl
  | 1, _ => rfl
theorem row_same {h x y : Int} {l m : List Rf} (hg : okG h l) (hp : m.Perm l) (hs : m.Pairwise keyLt) (hv : (rt x y && decide (x ≤ h)) = true) : sortL (l.filter fun r => bgS r.ln r.bt x y) = flt x (x, y) m := by
  have hf : l.filter (fun r => bgS r.ln r.bt x y) = l.filter (fun r => decide (prV x r = (x, y))) := List.filter_congr fun r hr => bgS_prV (hg.2.1.1 r hr) hv
  have hn : ((l.filter fun r => decide (prV x r = (x, y))).map fun x => (x.rk, x.kn)).Nodup := hg.2.2.sublist (List.filter_sublist.map _)
  obtain ⟨s1, s2⟩ := sort_ok (l.filter fun r => decide (prV x r = (x, y))) [] List.Pairwise.nil hn
  rw [hf]
  exact sorted_one s2 (hp.filter _) s1 (hs.sublist List.filter_sublist)

set_option maxHeartbeats 8000000 in
set_option maxRecDepth 100000 in
theorem near_any (h : Int) (v : Value) (l0 : List Rf) (hbt : ∀ r ∈ l0, 0 ≤ r.bt) (x : Rf) (hxb : 0 ≤ x.bt) (w : World) (hR : Ranks w) (hs : RSl w v l0) : Calls Tryd.prog 3 #[.int .i64 h, v, .agg x.cells] w fun e w' => e = .returned (.bool true) ∧ Below w.heap.size w w' := by
  have mixed : Tryd.prog.follows .mixedOrders = true := by kernel_rfl
  obtain ⟨v2, hs2, FW⟩ := few_at v l0 w hs
  have hbt2 : ∀ r ∈ l0.take 12, 0 ≤ r.bt := fun r hr => hbt r (List.mem_of_mem_take hr)
  have hl12 : (l0.take 12).length ≤ 12 := by rw [List.length_take]; omega
  generalize l0.take 12 = l at *
  clear hs hbt
  have b1 := gb1 w (.cells #[.int .i64 x.id, .int .i64 x.rk, .int .u64 x.kn, .int .i64 x.ln, .int .u64 x.bt] 30)
  have XB := hide (IsB.new w #[.int .i64 x.id, .int .i64 x.rk, .int .u64 x.kn, .int .i64 x.ln, .int .u64 x.bt] 30)
  have HR := hide (hR.below b1)
  have LS := hide (hs2.below b1)
  have B := hide b1
  replace FW := hide FW
  have hbt3 := hide hbt2
  have hl3 := hide hl12
  have HX := hide hxb
  clear b1 hR hbt2 hl12 hxb
  obtain ⟨va2, vc2, rfl, -, -⟩ := hs2.shape
  clear hs2
  simp only [Rf.cells]
  go_enter Tryd.func3, Tryd.ntmps3
  go_wp2_with fail
  refine (FW.out _).mono ?_
  rintro e w2 ⟨rfl, hw⟩
  rw [hw]
  clear hw w2 FW
  generalize hn : l.length = n at *
  replace hn := hide hn
  go_wp2_with fail
  generalize w.alloc (.cells #[.int .i64 x.id, .int .i64 x.rk, .int .u64 x.kn, .int .i64 x.ln, .int .u64 x.bt] 30) = W0 at *
  generalize hg0 : w.heap.size = g0 at XB B ⊢
  replace hg0 := hide hg0
  rename_i K0 hK0
  refine (fun (TAIL : ∀ (gE gZ : Nat) (ea : Option Addr) (ec : Nat) (sa : Option Addr) (sc : Nat) (W : World), Hid (RSl W (.slice va2 n vc2) l ∧ RSl W (.slice sa (n + 1) sc) (l ++ [x]) ∧ IsB W g0 #[.int .i64 x.id, .int .i64 x.rk, .int .u64 x.kn, .int .i64 x.ln, .int .u64 x.bt] 30 ∧ Ranks W ∧ Below g0 w W) → K0 { tmps := #[.int .i64 h, .slice va2 n vc2, .agg #[.int .i64 x.id, .int .i64 x.rk, .int .u64 x.kn, .int .i64 x.ln, .int .u64 x.bt], undef, undef, .pointer (some ⟨g0, 0, none⟩), .bool false, .slice sa (n + 1) sc, undef, undef, undef, undef, undef, undef, undef, undef, undef, undef, undef, undef, undef, undef, undef, v, .slice va2 n vc2, .slice (some ⟨gE, 0, none⟩) 0 0, .slice va2 n vc2, .slice ea n ec, .agg #[.int .i64 x.id, .int .i64 x.rk, .int .u64 x.kn, .int .i64 x.ln, .int .u64 x.bt], .slice (some ⟨gZ, 0, none⟩) 1 1, .slice sa (n + 1) sc, undef, undef, undef, undef, undef, undef, undef, undef, undef, undef, undef, undef, undef, undef, undef, undef, undef, undef, undef, undef, undef, undef, undef, undef, undef, undef, undef, undef, undef, undef, undef, undef, undef, undef, undef, undef, undef, undef, undef, undef, undef, undef, undef, undef, undef, undef, undef, undef, undef, undef, undef, undef, undef, undef, undef, undef, undef, undef, undef, undef, undef, undef, undef, undef, undef, undef, undef, undef, undef, undef, undef, undef, undef, undef, undef, undef, undef, undef, undef, undef, undef, undef, undef, undef, undef, undef, undef, undef, undef, undef, undef, undef, undef, undef, undef, undef, undef, undef, undef, undef, undef, undef, undef, undef, undef, undef, undef, undef, undef, undef, undef, undef, undef, undef, undef, undef, undef, undef, undef, undef, undef, undef, undef, undef, undef, undef, undef, undef, undef, undef, undef, undef, undef, undef, undef, undef, undef, undef, undef], defers := [] } W) => ?main) ?tail
  case main =>
    replace XB := hide (XB.out.below ((Below.refl _ _).drew))
    replace HR := hide (HR.out.below ((Below.refl _ _).drew))
    replace LS := hide (LS.out.below ((Below.refl _ _).drew))
    replace B := hide B.out.drew
    refine regionL 7 (fun w' => (Instr.loadAt 30 (.pointer (some ⟨g0, 0, none⟩))).run Tryd.prog w' = .ok (.agg #[.int .i64 x.id, .int .i64 x.rk, .int .u64 x.kn, .int .i64 x.ln, .int .u64 x.bt]) w') mixed (load_ref XB.out rfl) (fun hHeld => ?_)
    generalize W0.drew = WD at *
    refine pickA (v := ?_) 1 (some 26) rfl rfl (by kernel_rfl) (by kernel_rfl) (by kernel_rfl) (by decide) (fun _ _ _ h => h) (by rfl) ?_ (by assumption) ?_
    rotate_left
    · intro w'
      go_simp
      try with_reducible rfl
    try simp only [Act.put, List.setIfInBounds_toArray, List.set_cons_zero, List.set_cons_succ]
    refine pickL (v := .agg #[.int .i64 x.id, .int .i64 x.rk, .int .u64 x.kn, .int .i64 x.ln, .int .u64 x.bt]) 3 (some 28) rfl rfl (by kernel_rfl) (by kernel_rfl) (by kernel_rfl) (by decide) (by kernel_rfl) (by kernel_rfl) (fun _ _ _ h => h) (by rfl) ?_ (by assumption) ?_
    · intro w' hSw
      skip
      exact exec_load rfl rfl hSw
    try simp only [Act.put, List.setIfInBounds_toArray, List.set_cons_zero, List.set_cons_succ]
    have BC0 : Hid (Below WD.heap.size WD WD) := Below.refl _ _
    refine manyL (L := [0, 4]) (by kernel_rfl) (by decide) (fun i hi => ?_)
    simp only [List.mem_cons, List.not_mem_nil, or_false] at hi
    rcases hi with rfl | rfl
    · refine ⟨_, rfl, fun K hK => ?_⟩
      go_simp
      have bE := gb1 WD (.cells #[] 30)
      have BC1 := hide (BC0.out.trans (bE.mono BC0.out.size))
      have hE := hide (IsB.new WD #[] 30)
      clear bE
      refine hK.out _ _ ?_ ?_
      · exact load_ref (XB.out.below BC1.out) rfl
      clear hK K
      try simp only [Act.put, List.setIfInBounds_toArray, List.set_cons_zero, List.set_cons_succ]
      clear hHeld
      have hHeld : (fun w' => (Instr.loadAt 30 (.pointer (some ⟨g0, 0, none⟩))).run Tryd.prog w' = .ok (.agg #[.int .i64 x.id, .int .i64 x.rk, .int .u64 x.kn, .int .i64 x.ln, .int .u64 x.bt]) w') (WD.alloc (.cells #[] 30)) := load_ref (XB.out.below BC1.out) rfl
      refine manyL (L := [2, 4]) (by kernel_rfl) (by decide) (fun i hi => ?_)
      simp only [List.mem_cons, List.not_mem_nil, or_false] at hi
      rcases hi with rfl | rfl
      · refine ⟨_, rfl, fun K hK => ?_⟩
        obtain ⟨ea, ec, w4, hap4, hg4, hk4⟩ := more_copy LS.out (by have := hl3.out; have := hn.out; omega) BC1.out hE.out (by first | exact Nat.le_refl _ | omega | (simp; omega))
        rw [hn.out] at hap4 hg4
        have HA4 := hide hap4
        have BC2 : Hid (Below WD.heap.size WD w4) := BC1.out.trans (hk4.to_below BC1.out.size (by simp <;> omega))
        have hE4 := hide hg4
        clear hap4 hg4 hk4
        refine step_append_eq rfl (.tmp 25) (.tmp 26) 22 rfl _ _ (.slice ea n ec) w4 rfl rfl HA4.out ?_
        refine hK.out _ _ ?_ ?_
        · exact load_ref (XB.out.below BC2.out) rfl
        clear hK K
        try simp only [Act.put, List.setIfInBounds_toArray]
        clear hHeld
        have hHeld : (fun w' => (Instr.loadAt 30 (.pointer (some ⟨g0, 0, none⟩))).run Tryd.prog w' = .ok (.agg #[.int .i64 x.id, .int .i64 x.rk, .int .u64 x.kn, .int .i64 x.ln, .int .u64 x.bt]) w') w4 := load_ref (XB.out.below BC2.out) rfl
        refine oneL (i := 4) (by kernel_rfl) rfl (fun K hK => ?_)
        go_simp
        have bZ := gb1 w4 (.cells #[.int .i64 x.id, .int .i64 x.rk, .int .u64 x.kn, .int .i64 x.ln, .int .u64 x.bt] 30)
        have BC3 := hide (BC2.out.trans (bZ.mono BC2.out.size))
        have hZ0 : Hid (IsB (w4.alloc (.cells #[.int .i64 x.id, .int .i64 x.rk, .int .u64 x.kn, .int .i64 x.ln, .int .u64 x.bt] 30)) w4.heap.size x.cells 30) := IsB.new w4 x.cells 30
        have hZ := hZ0
        have hEr := hide (Gr5.below hE4.out bZ)
        clear bZ
        refine hK.out _ _ ?_ ?_
        · exact load_ref (XB.out.below BC3.out) rfl
        clear hK K
        try simp only [Act.put, List.setIfInBounds_toArray, List.set_cons_zero, List.set_cons_succ]
        clear hHeld
        have hHeld : (fun w' => (Instr.loadAt 30 (.pointer (some ⟨g0, 0, none⟩))).run Tryd.prog w' = .ok (.agg #[.int .i64 x.id, .int .i64 x.rk, .int .u64 x.kn, .int .i64 x.ln, .int .u64 x.bt]) w') (w4.alloc (.cells #[.int .i64 x.id, .int .i64 x.rk, .int .u64 x.kn, .int .i64 x.ln, .int .u64 x.bt] 30)) := load_ref (XB.out.below BC3.out) rfl
        refine oneL (i := 5) (by kernel_rfl) rfl (fun K hK => ?_)
        have hEq := hEr.out
        rw [← hn.out] at hEq
        obtain ⟨sa, sc, w5, hap5, hr5, hb5⟩ := more_push hEq (by have := hl3.out; have := hn.out; omega) x hZ.out BC3.out.size
        rw [hn.out] at hap5 hr5
        have HA5 := hide hap5
        have BC4 := hide (BC3.out.trans hb5)
        have FIN : Hid (RSl w5 (.slice va2 n vc2) l ∧ RSl w5 (.slice sa (n + 1) sc) (l ++ [x]) ∧ IsB w5 g0 #[.int .i64 x.id, .int .i64 x.rk, .int .u64 x.kn, .int .i64 x.ln, .int .u64 x.bt] 30 ∧ Ranks w5 ∧ Below g0 w w5) := ⟨LS.out.below BC4.out, hr5, XB.out.below BC4.out, HR.out.below BC4.out, B.out.trans (BC4.out.mono (by have := B.out.size; have := hg0.out; omega))⟩
        clear hap5 hr5 hb5 hEq
        refine step_append_eq rfl (.tmp 27) (.tmp 29) 22 rfl _ _ (.slice sa (n + 1) sc) w5 rfl rfl HA5.out ?_
        refine hK.out _ _ ?_ ?_
        · exact load_ref (XB.out.below BC4.out) rfl
        clear hK K
        try simp only [Act.put, List.setIfInBounds_toArray]
        clear hHeld
        have hHeld : (fun w' => (Instr.loadAt 30 (.pointer (some ⟨g0, 0, none⟩))).run Tryd.prog w' = .ok (.agg #[.int .i64 x.id, .int .i64 x.rk, .int .u64 x.kn, .int .i64 x.ln, .int .u64 x.bt]) w') w5 := load_ref (XB.out.below BC4.out) rfl
        refine pickA (v := ?_) 6 (some 7) rfl rfl (by kernel_rfl) (by kernel_rfl) (by kernel_rfl) (by decide) (fun _ _ _ h => h) (by rfl) ?_ (by assumption) ?_
        rotate_left
        · intro w'
          go_simp
          try with_reducible rfl
        try simp only [Act.put]
        refine doneL (by kernel_rfl) ?_ _
        clear hHeld
        show K0 _ _
        go_simp
        exact TAIL _ _ _ _ _ _ _ FIN
      · refine ⟨_, rfl, fun K hK => ?_⟩
        go_simp
        have bZ := gb1 (WD.alloc (.cells #[] 30)) (.cells #[.int .i64 x.id, .int .i64 x.rk, .int .u64 x.kn, .int .i64 x.ln, .int .u64 x.bt] 30)
        have BC2 := hide (BC1.out.trans (bZ.mono BC1.out.size))
        have hZ0 : Hid (IsB ((WD.alloc (.cells #[] 30)).alloc (.cells #[.int .i64 x.id, .int .i64 x.rk, .int .u64 x.kn, .int .i64 x.ln, .int .u64 x.bt] 30)) (WD.heap.size + 1) x.cells 30) := by have h7 := IsB.new (WD.alloc (.cells #[] 30)) x.cells 30; rw [World.size_alloc] at h7; exact h7
        have hE2 := hide (hE.out.below bZ)
        have hZ := hZ0
        clear bZ
        refine hK.out _ _ ?_ ?_
        · exact load_ref (XB.out.below BC2.out) rfl
        clear hK K
        try simp only [Act.put, List.setIfInBounds_toArray, List.set_cons_zero, List.set_cons_succ]
        clear hHeld
        have hHeld : (fun w' => (Instr.loadAt 30 (.pointer (some ⟨g0, 0, none⟩))).run Tryd.prog w' = .ok (.agg #[.int .i64 x.id, .int .i64 x.rk, .int .u64 x.kn, .int .i64 x.ln, .int .u64 x.bt]) w') ((WD.alloc (.cells #[] 30)).alloc (.cells #[.int .i64 x.id, .int .i64 x.rk, .int .u64 x.kn, .int .i64 x.ln, .int .u64 x.bt] 30)) := load_ref (XB.out.below BC2.out) rfl
        refine oneL (i := 2) (by kernel_rfl) rfl (fun K hK => ?_)
        obtain ⟨ea, ec, w4, hap4, hg4, hk4⟩ := more_copy LS.out (by have := hl3.out; have := hn.out; omega) BC2.out hE2.out (by first | exact Nat.le_refl _ | omega | (simp; omega))
        rw [hn.out] at hap4 hg4
        have HA4 := hide hap4
        have BC3 : Hid (Below WD.heap.size WD w4) := BC2.out.trans (hk4.to_below BC2.out.size (by simp <;> omega))
        have hE4 := hide hg4
        have hZ4 := hide (hZ.out.kp hk4 (by simp <;> omega))
        have hEr := hE4
        clear hap4 hg4 hk4
        refine step_append_eq rfl (.tmp 25) (.tmp 26) 22 rfl _ _ (.slice ea n ec) w4 rfl rfl HA4.out ?_
        refine hK.out _ _ ?_ ?_
        · exact load_ref (XB.out.below BC3.out) rfl
        clear hK K
        try simp only [Act.put, List.setIfInBounds_toArray]
        clear hHeld
        have hHeld : (fun w' => (Instr.loadAt 30 (.pointer (some ⟨g0, 0, none⟩))).run Tryd.prog w' = .ok (.agg #[.int .i64 x.id, .int .i64 x.rk, .int .u64 x.kn, .int .i64 x.ln, .int .u64 x.bt]) w') w4 := load_ref (XB.out.below BC3.out) rfl
        refine oneL (i := 5) (by kernel_rfl) rfl (fun K hK => ?_)
        have hEq := hEr.out
        rw [← hn.out] at hEq
        obtain ⟨sa, sc, w5, hap5, hr5, hb5⟩ := more_push hEq (by have := hl3.out; have := hn.out; omega) x hZ4.out BC3.out.size
        rw [hn.out] at hap5 hr5
        have HA5 := hide hap5
        have BC4 := hide (BC3.out.trans hb5)
        have FIN : Hid (RSl w5 (.slice va2 n vc2) l ∧ RSl w5 (.slice sa (n + 1) sc) (l ++ [x]) ∧ IsB w5 g0 #[.int .i64 x.id, .int .i64 x.rk, .int .u64 x.kn, .int .i64 x.ln, .int .u64 x.bt] 30 ∧ Ranks w5 ∧ Below g0 w w5) := ⟨LS.out.below BC4.out, hr5, XB.out.below BC4.out, HR.out.below BC4.out, B.out.trans (BC4.out.mono (by have := B.out.size; have := hg0.out; omega))⟩
        clear hap5 hr5 hb5 hEq
        refine step_append_eq rfl (.tmp 27) (.tmp 29) 22 rfl _ _ (.slice sa (n + 1) sc) w5 rfl rfl HA5.out ?_
        refine hK.out _ _ ?_ ?_
        · exact load_ref (XB.out.below BC4.out) rfl
        clear hK K
        try simp only [Act.put]
        clear hHeld
        have hHeld : (fun w' => (Instr.loadAt 30 (.pointer (some ⟨g0, 0, none⟩))).run Tryd.prog w' = .ok (.agg #[.int .i64 x.id, .int .i64 x.rk, .int .u64 x.kn, .int .i64 x.ln, .int .u64 x.bt]) w') w5 := load_ref (XB.out.below BC4.out) rfl
        refine pickA (v := ?_) 6 (some 7) rfl rfl (by kernel_rfl) (by kernel_rfl) (by kernel_rfl) (by decide) (fun _ _ _ h => h) (by rfl) ?_ (by assumption) ?_
        rotate_left
        · intro w'
          go_simp
          try with_reducible rfl
        try simp only [Act.put]
        refine doneL (by kernel_rfl) ?_ _
        clear hHeld
        show K0 _ _
        go_simp
        exact TAIL _ _ _ _ _ _ _ FIN
    · refine ⟨_, rfl, fun K hK => ?_⟩
      go_simp
      have bZ := gb1 WD (.cells #[.int .i64 x.id, .int .i64 x.rk, .int .u64 x.kn, .int .i64 x.ln, .int .u64 x.bt] 30)
      have BC1 := hide (BC0.out.trans (bZ.mono BC0.out.size))
      have hZ0 : Hid (IsB (WD.alloc (.cells #[.int .i64 x.id, .int .i64 x.rk, .int .u64 x.kn, .int .i64 x.ln, .int .u64 x.bt] 30)) WD.heap.size x.cells 30) := IsB.new WD x.cells 30
      clear bZ
      refine hK.out _ _ ?_ ?_
      · exact load_ref (XB.out.below BC1.out) rfl
      clear hK K
      try simp only [Act.put, List.setIfInBounds_toArray, List.set_cons_zero, List.set_cons_succ]
      clear hHeld
      have hHeld : (fun w' => (Instr.loadAt 30 (.pointer (some ⟨g0, 0, none⟩))).run Tryd.prog w' = .ok (.agg #[.int .i64 x.id, .int .i64 x.rk, .int .u64 x.kn, .int .i64 x.ln, .int .u64 x.bt]) w') (WD.alloc (.cells #[.int .i64 x.id, .int .i64 x.rk, .int .u64 x.kn, .int .i64 x.ln, .int .u64 x.bt] 30)) := load_ref (XB.out.below BC1.out) rfl
      refine oneL (i := 0) (by kernel_rfl) rfl (fun K hK => ?_)
      go_simp
      have bE := gb1 (WD.alloc (.cells #[.int .i64 x.id, .int .i64 x.rk, .int .u64 x.kn, .int .i64 x.ln, .int .u64 x.bt] 30)) (.cells #[] 30)
      have BC2 := hide (BC1.out.trans (bE.mono BC1.out.size))
      have hE : Hid (IsB ((WD.alloc (.cells #[.int .i64 x.id, .int .i64 x.rk, .int .u64 x.kn, .int .i64 x.ln, .int .u64 x.bt] 30)).alloc (.cells #[] 30)) (WD.heap.size + 1) #[] 30) := by have h7 := IsB.new (WD.alloc (.cells #[.int .i64 x.id, .int .i64 x.rk, .int .u64 x.kn, .int .i64 x.ln, .int .u64 x.bt] 30)) #[] 30; rw [World.size_alloc] at h7; exact h7
      have hZ := hide (hZ0.out.below bE)
      clear bE
      refine hK.out _ _ ?_ ?_
      · exact load_ref (XB.out.below BC2.out) rfl
      clear hK K
      try simp only [Act.put, List.setIfInBounds_toArray, List.set_cons_zero, List.set_cons_succ]
      clear hHeld
      have hHeld : (fun w' => (Instr.loadAt 30 (.pointer (some ⟨g0, 0, none⟩))).run Tryd.prog w' = .ok (.agg #[.int .i64 x.id, .int .i64 x.rk, .int .u64 x.kn, .int .i64 x.ln, .int .u64 x.bt]) w') ((WD.alloc (.cells #[.int .i64 x.id, .int .i64 x.rk, .int .u64 x.kn, .int .i64 x.ln, .int .u64 x.bt] 30)).alloc (.cells #[] 30)) := load_ref (XB.out.below BC2.out) rfl
      refine oneL (i := 2) (by kernel_rfl) rfl (fun K hK => ?_)
      obtain ⟨ea, ec, w4, hap4, hg4, hk4⟩ := more_copy LS.out (by have := hl3.out; have := hn.out; omega) BC2.out hE.out (by first | exact Nat.le_refl _ | omega | (simp; omega))
      rw [hn.out] at hap4 hg4
      have HA4 := hide hap4
      have BC3 : Hid (Below WD.heap.size WD w4) := BC2.out.trans (hk4.to_below BC2.out.size (by simp <;> omega))
      have hE4 := hide hg4
      have hZ4 := hide (hZ.out.kp hk4 (by simp <;> omega))
      have hEr := hE4
      clear hap4 hg4 hk4
      refine step_append_eq rfl (.tmp 25) (.tmp 26) 22 rfl _ _ (.slice ea n ec) w4 rfl rfl HA4.out ?_
      refine hK.out _ _ ?_ ?_
      · exact load_ref (XB.out.below BC3.out) rfl
      clear hK K
      try simp only [Act.put, List.setIfInBounds_toArray]
      clear hHeld
      have hHeld : (fun w' => (Instr.loadAt 30 (.pointer (some ⟨g0, 0, none⟩))).run Tryd.prog w' = .ok (.agg #[.int .i64 x.id, .int .i64 x.rk, .int .u64 x.kn, .int .i64 x.ln, .int .u64 x.bt]) w') w4 := load_ref (XB.out.below BC3.out) rfl
      refine oneL (i := 5) (by kernel_rfl) rfl (fun K hK => ?_)
      have hEq := hEr.out
      rw [← hn.out] at hEq
      obtain ⟨sa, sc, w5, hap5, hr5, hb5⟩ := more_push hEq (by have := hl3.out; have := hn.out; omega) x hZ4.out BC3.out.size
      rw [hn.out] at hap5 hr5
      have HA5 := hide hap5
      have BC4 := hide (BC3.out.trans hb5)
      have FIN : Hid (RSl w5 (.slice va2 n vc2) l ∧ RSl w5 (.slice sa (n + 1) sc) (l ++ [x]) ∧ IsB w5 g0 #[.int .i64 x.id, .int .i64 x.rk, .int .u64 x.kn, .int .i64 x.ln, .int .u64 x.bt] 30 ∧ Ranks w5 ∧ Below g0 w w5) := ⟨LS.out.below BC4.out, hr5, XB.out.below BC4.out, HR.out.below BC4.out, B.out.trans (BC4.out.mono (by have := B.out.size; have := hg0.out; omega))⟩
      clear hap5 hr5 hb5 hEq
      refine step_append_eq rfl (.tmp 27) (.tmp 29) 22 rfl _ _ (.slice sa (n + 1) sc) w5 rfl rfl HA5.out ?_
      refine hK.out _ _ ?_ ?_
      · exact load_ref (XB.out.below BC4.out) rfl
      clear hK K
      try simp only [Act.put]
      clear hHeld
      have hHeld : (fun w' => (Instr.loadAt 30 (.pointer (some ⟨g0, 0, none⟩))).run Tryd.prog w' = .ok (.agg #[.int .i64 x.id, .int .i64 x.rk, .int .u64 x.kn, .int .i64 x.ln, .int .u64 x.bt]) w') w5 := load_ref (XB.out.below BC4.out) rfl
      refine pickA (v := ?_) 6 (some 7) rfl rfl (by kernel_rfl) (by kernel_rfl) (by kernel_rfl) (by decide) (fun _ _ _ h => h) (by rfl) ?_ (by assumption) ?_
      rotate_left
      · intro w'
        go_simp
        try with_reducible rfl
      try simp only [Act.put]
      refine doneL (by kernel_rfl) ?_ _
      clear hHeld
      show K0 _ _
      go_simp
      exact TAIL _ _ _ _ _ _ _ FIN
  case tail =>
    clear LS XB HR B
    intro gE gZ ea ec sa sc W FIN
    have LS := hide FIN.out.1
    have LM := hide FIN.out.2.1
    have XB := hide FIN.out.2.2.1
    have HR := hide FIN.out.2.2.2.1
    have B : Hid (Below w.heap.size w W) := by rw [hg0.out]; exact FIN.out.2.2.2.2
    clear FIN
    refine hK0 _ _ ?_
    clear hK0 K0
    go_wp2_with fail
    refine (check_doc h _ l (by have := hl3.out; have := hn.out; omega) _ LS.out).mono ?_
    rintro e w3 ⟨rfl, hb⟩
    replace LS := hide (LS.out.below hb)
    replace LM := hide (LM.out.below hb)
    replace XB := hide (XB.out.below hb)
    replace HR := hide (HR.out.below hb)
    replace B := hide (B.out.trans (hb.mono B.out.size))
    clear hb
    by_cases hg : okG h l
    rotate_left
    · rw [chkE_no hg]
      go_wp2_with fail
      refine (alive_any _ HR.out).mono ?_
      rintro e w9 ⟨rfl, hb⟩
      replace B := hide (B.out.trans (hb.mono B.out.size))
      clear hb
      go_wp2
      go_ret
      exact ⟨rfl, B.out⟩
    rw [chkE_yes hg]
    go_wp2_with fail
    refine (check_doc h _ (l ++ [x]) (by have := hl3.out; have := hn.out; simp; omega) _ LM.out).mono ?_
    rintro e w4 ⟨rfl, hb⟩
    replace LS := hide (LS.out.below hb)
    replace LM := hide (LM.out.below hb)
    replace XB := hide (XB.out.below hb)
    replace HR := hide (HR.out.below hb)
    replace B := hide (B.out.trans (hb.mono B.out.size))
    clear hb
    by_cases hg2 : okG h (l ++ [x])
    rotate_left
    · rw [chkE_no hg2]
      go_wp2_with fail
      refine (alive_any _ HR.out).mono ?_
      rintro e w9 ⟨rfl, hb⟩
      replace B := hide (B.out.trans (hb.mono B.out.size))
      clear hb
      go_wp2
      go_ret
      exact ⟨rfl, B.out⟩
    rw [chkE_yes hg2]
    replace hg := hide hg
    replace hg2 := hide hg2
    obtain ⟨m, hp, hso⟩ := ex_sorted hg.out.2.2
    obtain ⟨m2, hp2, hso2⟩ := ex_sorted hg2.out.2.2
    have hbtm : Hid (∀ r ∈ l ++ [x], 0 ≤ r.bt) := fun r hr => by
      rcases List.mem_append.1 hr with q | q
      · exact hbt3.out r q
      · simp at q
        rw [q]
        exact HX.out
    obtain ⟨LA, LB, rfl, rfl⟩ := near_split hp hso hp2 hso2
    have M := hide (Mem.of hg.out hbt3.out (by have := hl3.out; have := hn.out; omega) hp)
    have M2 := hide (Mem.of hg2.out hbtm.out (by have := hl3.out; have := hn.out; simp; omega) hp2)
    have hpm := hide hp
    have hpm2 := hide hp2
    have hsm := hide hso
    have hsm2 := hide hso2
    clear hp hp2 hso hso2
    go_wp2_with fail
    refine (glists_ok h _ l (by have := hl3.out; have := hn.out; omega) hbt3.out hg.out _ hpm.out hsm.out _ LS.out).mono ?_
    rintro e w5 ⟨v5, As, rfl, LR0, NM0, hb⟩
    replace LS := hide (LS.out.below hb)
    replace LM := hide (LM.out.below hb)
    replace XB := hide (XB.out.below hb)
    replace HR := hide (HR.out.below hb)
    replace B := hide (B.out.trans (hb.mono B.out.size))
    have LR := hide LR0
    have NM := hide NM0
    obtain ⟨la, lc, rfl, hlc1, hlc2⟩ := LR0.row.shape
    clear hb LR0 NM0 hlc1 hlc2
    have hAn3 : As.length ≤ 100000 := by
      have q1 := NM.out.len
      rw [List.length_map] at q1
      have q2 : (h.toNat + 1) * (LA ++ LB).length ≤ 33 * 1000 := Nat.mul_le_mul (by have := M.out.h32; omega) M.out.len
      omega
    generalize hAn : As.length = an at *
    replace hAn := hide hAn
    go_wp2_with fail
    go_loopw [10] (fun v wr => ∃ i : Nat, i ≤ an ∧ v = .int .i64 (i : Int) ∧ Hid (RSl wr (.slice va2 n vc2) l) ∧ Hid (RSl wr (.slice sa (n + 1) sc) (l ++ [x])) ∧ Hid (IsB wr g0 #[.int .i64 x.id, .int .i64 x.rk, .int .u64 x.kn, .int .i64 x.ln, .int .u64 x.bt] 30) ∧ Hid (Ranks wr) ∧ Hid (LsRow wr (.slice la an lc) (LA ++ LB) As) ∧ Hid (Below w.heap.size w wr)) (fun v _ => an - (intOf v).toNat)
    case atStart => exact ⟨0, by omega, rfl, LS.out, LM.out, XB.out, HR.out, LR.out, B.out⟩
    case round =>
      clear LS LM XB HR LR B
      obtain ⟨i, hi, rfl, LS, LM, XB, HR, LR, B⟩ := hrel
      by_cases hlt : i < an
      rotate_left
      · obtain rfl : i = an := by omega
        have d1 : decide ((i : Int) < (i : Int)) = false := by simp
        go_wp2_with fail
        refine (alive_any _ HR.out).mono ?_
        rintro e w9 ⟨rfl, hb⟩
        replace B := hide (B.out.trans (hb.mono B.out.size))
        clear hb
        go_wp2
        go_ret
        exact ⟨rfl, B.out⟩
      have d1 : decide ((i : Int) < (an : Int)) = true := decide_eq_true (by omega)
      have i1 : (i : Int) < an := by omega
      have i0 : (0 : Int) ≤ i := by omega
      have hiA : i < As.length := by rw [hAn.out]; exact hlt
      obtain ⟨g, cap, ev, -, -, -⟩ := LR.out.row.form (by omega)
      injection ev with ev el ec
      clear el
      subst ev ec
      obtain ⟨p, q, hpq⟩ : ∃ p q, As[i].1.1 = (p, q) := ⟨_, _, rfl⟩
      obtain ⟨k0, hk0, r0, hr0, hu0⟩ := NM.out.key As[i].1.1 (List.mem_map.2 ⟨As[i], List.getElem_mem hiA, rfl⟩)
      rw [hpq] at hu0
      have hrok := M.out.ok r0 hr0
      have hp0 : p = (k0 : Int) := congrArg Prod.fst hu0
      have hq0 : q = ((pre r0.ln.toNat r0.bt.toNat (k0 : Int).toNat : Nat) : Int) := congrArg Prod.snd hu0
      have hkh : (k0 : Int) ≤ h := by have := M.out.h0; omega
      have hrtp : rt p q = true := by rw [hp0, hq0]; exact pre_rt (mayR_rt hrok.1).1 hrok.2 (by omega) (by rw [(mayR_rt hrok.1).2]; exact hkh)
      have HU : Hid ((rt p q && decide (p ≤ h)) = true) := by show _ = true; rw [hrtp, hp0]; simp [hkh]
      have HQ : Hid (0 ≤ q) := by show _ ≤ _; rw [hq0]; omega
      have LX : Hid (∀ w', Below wr.heap.size wr w' → (Instr.loadAt 28 (.pointer (some ⟨g, i * 3, none⟩))).run Tryd.prog w' = .ok (.agg #[.int .i64 (p), .int .u64 (q)]) w') := fun w' hb => (LR.out.below hb).ldv hAn.out i hiA p q hpq
      clear hpq hk0 hr0 hu0 hrok hp0 hq0 hkh hrtp hiA
      have BW0 : Hid (Below wr.heap.size wr wr) := Below.refl _ _
      have LX0 := hide (LX.out _ BW0.out)
      go_wp2_with (first | (focus ((with_reducible refine wpList_load_w ?_ 28 (.tmp 60) ?_ ?_ LX0.out ?_); rotate_left; rfl; rfl; rotate_left; rfl)))
      refine (row_doc h p q M.out.h0 M.out.h32 HQ.out _ l (by have := hl3.out; have := hn.out; omega) hbt3.out _ LS.out).mono ?_
      rintro e w6 ⟨v6, rfl, hro, hb⟩
      replace LS := hide (LS.out.below hb)
      replace LM := hide (LM.out.below hb)
      replace XB := hide (XB.out.below hb)
      replace HR := hide (HR.out.below hb)
      replace LR := hide (LR.out.below hb)
      replace B := hide (B.out.trans (hb.mono B.out.size))
      replace BW0 := hide (BW0.out.trans (hb.mono BW0.out.size))
      clear hb LX0
      rw [row_same hg.out hpm.out hsm.out HU.out] at hro
      have RO := hide hro.rsl
      obtain ⟨roa, roc, rfl, -, -⟩ := hro.shape
      clear hro
      have hRL : (rowL h (flt p (p, q) (LA ++ LB))).length ≤ 2000 := by
        have q1 : (flt p (p, q) (LA ++ LB)).length ≤ (LA ++ LB).length := List.length_filter_le _ _
        have q2 := M.out.len
        rw [rowL_len]
        omega
      generalize hrn : (rowL h (flt p (p, q) (LA ++ LB))).length = rn at *
      replace hrn := hide hrn
      have CB := fun W (hW : RSl W (.slice sa (n + 1) sc) (l ++ [x])) => beside_ok h p q x.id HQ.out (.slice sa (n + 1) sc) (l ++ [x]) (by have := hl3.out; have := hn.out; simp; omega) hbtm.out hg2.out _ hpm2.out hsm2.out W hW
      obtain ⟨⟨a0, a1, a2, a3, a4⟩, ⟨b0, b1, b2, b3, b4⟩, fx, hBX⟩ : ∃ a b f, besE h (p, q) x.id (LA ++ x :: LB) = (a, b, f) := ⟨_, _, _, rfl⟩
      rw [hBX] at CB
      replace hBX := hide hBX
      go_wp2_with fail
      rename_i K1 hK1
      have dr := (Below.refl w6.heap.size w6).drew
      obtain ⟨WD, hWD⟩ : ∃ W, w6.drew = W := ⟨_, rfl⟩
      rw [hWD] at dr
      replace LS := hide (LS.out.below dr)
      replace LM := hide (LM.out.below dr)
      replace XB := hide (XB.out.below dr)
      replace HR := hide (HR.out.below dr)
      replace LR := hide (LR.out.below dr)
      replace RO := hide (RO.out.below dr)
      replace B := hide (B.out.trans (dr.mono B.out.size))
      replace BW0 := hide (BW0.out.trans (dr.mono BW0.out.size))
      clear dr
      have LXd : Hid (∀ w', Below WD.heap.size WD w' → (Instr.loadAt 28 (.pointer (some ⟨g, i * 3, none⟩))).run Tryd.prog w' = .ok (.agg #[.int .i64 (p), .int .u64 (q)]) w') := fun w' hb => LX.out _ (BW0.out.trans (hb.mono BW0.out.size))
      have CBl := hide (fun W' (hb : Below WD.heap.size WD W') => CB W' (LM.out.below hb))
      clear CB
      have BC0 : Hid (Below WD.heap.size WD WD) := Below.refl _ _
      refine cutT (K := K1) (F := (fun gA gB W => Hid (Below WD.heap.size WD W) ∧ Hid (IsB W gA #[.int .i64 a0, .int .i64 a1, .int .u64 a2, .int .i64 a3, .int .u64 a4] 30) ∧ Hid (IsB W gB #[.int .i64 b0, .int .i64 b1, .int .u64 b2, .int .i64 b3, .int .u64 b4] 30))) ?T ?tail (fun TAIL => ?main)
      case main =>
        refine regionL 19 (fun w' => (Instr.loadAt 28 (.pointer (some ⟨g, i * 3, none⟩))).run Tryd.prog w' = .ok (.agg #[.int .i64 (p), .int .u64 (q)]) w' ∧ w'.cell? ⟨g0, 0, none⟩ = some (.int .i64 x.id)) mixed (by rw [hWD]; exact ⟨LXd.out _ BC0.out, (XB.out.below BC0.out).cell 0⟩) (fun hHeld => ?_)
        rw [hWD] at hHeld ⊢
        refine pickA (v := ?_) 0 (some 65) rfl rfl (by kernel_rfl) (by kernel_rfl) (by kernel_rfl) (by decide) (fun _ _ _ h => h) (by rfl) ?_ (by assumption) ?_
        rotate_left
        · intro w'
          go_simp
          try with_reducible rfl
        try simp only [Act.put, List.setIfInBounds_toArray, List.set_cons_zero, List.set_cons_succ]
        refine pickA (v := ?_) 1 (some 66) rfl rfl (by kernel_rfl) (by kernel_rfl) (by kernel_rfl) (by decide) (fun _ _ _ h => h) (by rfl) ?_ (by assumption) ?_
        rotate_left
        · intro w'
          go_simp
          try with_reducible rfl
        try simp only [Act.put, List.setIfInBounds_toArray, List.set_cons_zero, List.set_cons_succ]
        refine pickA (v := ?_) 2 (some 67) rfl rfl (by kernel_rfl) (by kernel_rfl) (by kernel_rfl) (by decide) (fun _ _ _ h => h) (by rfl) ?_ (by assumption) ?_
        rotate_left
        · intro w'
          go_simp
          try with_reducible rfl
        try simp only [Act.put, List.setIfInBounds_toArray, List.set_cons_zero, List.set_cons_succ]
        refine pickA (v := ?_) 3 (some 68) rfl rfl (by kernel_rfl) (by kernel_rfl) (by kernel_rfl) (by decide) (fun _ _ _ h => h) (by rfl) ?_ (by assumption) ?_
        rotate_left
        · intro w'
          go_simp
          try with_reducible rfl
        try simp only [Act.put, List.setIfInBounds_toArray, List.set_cons_zero, List.set_cons_succ]
        refine pickA (v := ?_) 4 (some 69) rfl rfl (by kernel_rfl) (by kernel_rfl) (by kernel_rfl) (by decide) (fun _ _ _ h => h) (by rfl) ?_ (by assumption) ?_
        rotate_left
        · intro w'
          go_simp
          try with_reducible rfl
        try simp only [Act.put, List.setIfInBounds_toArray, List.set_cons_zero, List.set_cons_succ]
        refine pickL (v := (.agg #[.int .i64 (p), .int .u64 (q)])) 5 (some 70) rfl rfl (by kernel_rfl) (by kernel_rfl) (by kernel_rfl) (by decide) (by kernel_rfl) (by kernel_rfl) (fun _ _ _ h => h) (by rfl) ?_ (by assumption) ?_
        · intro w' hSw
          obtain ⟨q0, q1⟩ := hSw
          exact exec_load rfl rfl q0
        try simp only [Act.put, List.setIfInBounds_toArray, List.set_cons_zero, List.set_cons_succ]
        refine pickA (v := ?_) 6 (some 71) rfl rfl (by kernel_rfl) (by kernel_rfl) (by kernel_rfl) (by decide) (fun _ _ _ h => h) (by rfl) ?_ (by assumption) ?_
        rotate_left
        · intro w'
          go_simp
          try with_reducible rfl
        try simp only [Act.put, List.setIfInBounds_toArray, List.set_cons_zero, List.set_cons_succ]
        refine pickL (v := .int .i64 x.id) 7 (some 72) rfl rfl (by kernel_rfl) (by kernel_rfl) (by kernel_rfl) (by decide) (by kernel_rfl) (by kernel_rfl) (fun _ _ _ h => h) (by rfl) ?_ (by assumption) ?_
        · intro w' hSw
          obtain ⟨q0, q1⟩ := hSw
          go_simp
          try rfl
        try simp only [Act.put, List.setIfInBounds_toArray, List.set_cons_zero, List.set_cons_succ]
        refine pickA (v := ?_) 8 (some 73) rfl rfl (by kernel_rfl) (by kernel_rfl) (by kernel_rfl) (by decide) (fun _ _ _ h => h) (by rfl) ?_ (by assumption) ?_
        rotate_left
        · intro w'
          go_simp
          try with_reducible rfl
        try simp only [Act.put, List.setIfInBounds_toArray, List.set_cons_zero, List.set_cons_succ]
        refine manyL (L := [9, 14, 15]) (by kernel_rfl) (by decide) (fun i hi => ?_)
        simp only [List.mem_cons, List.not_mem_nil, or_false] at hi
        rcases hi with rfl | rfl | rfl
        · refine ⟨_, rfl, fun K hK => ?_⟩
          go_simp
          refine (CBl.out WD BC0.out).mono ?_
          rintro e wc ⟨rfl, hb⟩
          have BC1 := hide (BC0.out.trans (hb.mono BC0.out.size))
          clear hb
          refine hK.out _ _ ?_ ?_
          · exact ⟨LXd.out _ BC1.out, (XB.out.below BC1.out).cell 0⟩
          clear hK K
          try simp only [Act.put, List.setIfInBounds_toArray, List.set_cons_zero, List.set_cons_succ]
          clear hHeld
          have hHeld : (fun w' => (Instr.loadAt 28 (.pointer (some ⟨g, i * 3, none⟩))).run Tryd.prog w' = .ok (.agg #[.int .i64 (p), .int .u64 (q)]) w' ∧ w'.cell? ⟨g0, 0, none⟩ = some (.int .i64 x.id)) wc := ⟨LXd.out _ BC1.out, (XB.out.below BC1.out).cell 0⟩
          refine pickA (v := ?_) 10 (some 64) rfl rfl (by kernel_rfl) (by kernel_rfl) (by kernel_rfl) (by decide) (fun _ _ _ h => h) (by rfl) ?_ (by assumption) ?_
          rotate_left
          · intro w'
            go_simp
            try with_reducible rfl
          try simp only [Act.put, List.setIfInBounds_toArray, List.set_cons_zero, List.set_cons_succ]
          refine pickA (v := ?_) 11 (some 75) rfl rfl (by kernel_rfl) (by kernel_rfl) (by kernel_rfl) (by decide) (fun _ _ _ h => h) (by rfl) ?_ (by assumption) ?_
          rotate_left
          · intro w'
            go_simp
            try with_reducible rfl
          try simp only [Act.put, List.setIfInBounds_toArray, List.set_cons_zero, List.set_cons_succ]
          refine pickA (v := ?_) 12 (some 76) rfl rfl (by kernel_rfl) (by kernel_rfl) (by kernel_rfl) (by decide) (fun _ _ _ h => h) (by rfl) ?_ (by assumption) ?_
          rotate_left
          · intro w'
            go_simp
            try with_reducible rfl
          try simp only [Act.put, List.setIfInBounds_toArray, List.set_cons_zero, List.set_cons_succ]
          refine pickA (v := ?_) 13 (some 77) rfl rfl (by kernel_rfl) (by kernel_rfl) (by kernel_rfl) (by decide) (fun _ _ _ h => h) (by rfl) ?_ (by assumption) ?_
          rotate_left
          · intro w'
            go_simp
            try with_reducible rfl
          try simp only [Act.put, List.setIfInBounds_toArray, List.set_cons_zero, List.set_cons_succ]
          refine manyL (L := [14, 15]) (by kernel_rfl) (by decide) (fun i hi => ?_)
          simp only [List.mem_cons, List.not_mem_nil, or_false] at hi
          rcases hi with rfl | rfl
          · refine ⟨_, rfl, fun K hK => ?_⟩
            go_simp
            have b0 := gb1 wc (.cells #[.int .i64 0, .int .i64 0, .int .u64 0, .int .i64 0, .int .u64 0] 30)
            have hA := hide (IsB.new wc #[.int .i64 0, .int .i64 0, .int .u64 0, .int .i64 0, .int .u64 0] 30)
            have BC2 := hide (BC1.out.trans (b0.mono BC1.out.size))
            obtain ⟨gA, hgA⟩ : ∃ z, wc.heap.size = z := ⟨_, rfl⟩
            have hbA : WD.heap.size ≤ gA := by rw [← hgA]; exact BC1.out.size
            rw [hgA] at hA ⊢
            clear b0
            generalize wc.alloc (.cells #[.int .i64 0, .int .i64 0, .int .u64 0, .int .i64 0, .int .u64 0] 30) = wA at *
            refine hK.out _ _ ?_ ?_
            · exact ⟨LXd.out _ BC2.out, (XB.out.below BC2.out).cell 0⟩
            clear hK K
            try simp only [Act.put, List.setIfInBounds_toArray, List.set_cons_zero, List.set_cons_succ]
            clear hHeld
            have hHeld : (fun w' => (Instr.loadAt 28 (.pointer (some ⟨g, i * 3, none⟩))).run Tryd.prog w' = .ok (.agg #[.int .i64 (p), .int .u64 (q)]) w' ∧ w'.cell? ⟨g0, 0, none⟩ = some (.int .i64 x.id)) wA := ⟨LXd.out _ BC2.out, (XB.out.below BC2.out).cell 0⟩
            refine oneL (i := 15) (by kernel_rfl) rfl (fun K hK => ?_)
            go_simp
            have b0 := gb1 wA (.cells #[.int .i64 0, .int .i64 0, .int .u64 0, .int .i64 0, .int .u64 0] 30)
            have hB := hide (IsB.new wA #[.int .i64 0, .int .i64 0, .int .u64 0, .int .i64 0, .int .u64 0] 30)
            have BC3 := hide (BC2.out.trans (b0.mono BC2.out.size))
            obtain ⟨gB, hgB⟩ : ∃ z, wA.heap.size = z := ⟨_, rfl⟩
            have hbB : WD.heap.size ≤ gB := by rw [← hgB]; exact BC2.out.size
            have hne : gA ≠ gB := by have := hA.out.lt; omega
            replace hA := hide (hA.out.below b0)
            rw [hgB] at hB ⊢
            clear b0
            generalize wA.alloc (.cells #[.int .i64 0, .int .i64 0, .int .u64 0, .int .i64 0, .int .u64 0] 30) = wB at *
            refine hK.out _ _ ?_ ?_
            · exact ⟨LXd.out _ BC3.out, (XB.out.below BC3.out).cell 0⟩
            clear hK K
            try simp only [Act.put, List.setIfInBounds_toArray, List.set_cons_zero, List.set_cons_succ]
            clear hHeld
            have hHeld : (fun w' => (Instr.loadAt 28 (.pointer (some ⟨g, i * 3, none⟩))).run Tryd.prog w' = .ok (.agg #[.int .i64 (p), .int .u64 (q)]) w' ∧ w'.cell? ⟨g0, 0, none⟩ = some (.int .i64 x.id)) wB := ⟨LXd.out _ BC3.out, (XB.out.below BC3.out).cell 0⟩
            refine oneL (i := 16) (by kernel_rfl) rfl (fun K hK => ?_)
            obtain ⟨wS, hst, hn, hk⟩ := st_ref (x := zr) hA.out (⟨a0, a1, a2, a3, a4⟩ : Rf)
            have BC4 := hide (BC3.out.trans (hk.to_below BC3.out.size (by simp; omega)))
            replace hB := hide (hB.out.kp hk (by simp; omega))
            replace hA := hide hn
            have HS := hide hst
            clear hst hk hn
            refine step_store_w rfl 30 (.tmp 12) (.tmp 75) rfl rfl rfl HS.out ?_
            refine hK.out _ _ ?_ ?_
            · exact ⟨LXd.out _ BC4.out, (XB.out.below BC4.out).cell 0⟩
            clear hK K
            try simp only [Act.put, List.setIfInBounds_toArray]
            clear hHeld
            have hHeld : (fun w' => (Instr.loadAt 28 (.pointer (some ⟨g, i * 3, none⟩))).run Tryd.prog w' = .ok (.agg #[.int .i64 (p), .int .u64 (q)]) w' ∧ w'.cell? ⟨g0, 0, none⟩ = some (.int .i64 x.id)) wS := ⟨LXd.out _ BC4.out, (XB.out.below BC4.out).cell 0⟩
            refine oneL (i := 17) (by kernel_rfl) rfl (fun K hK => ?_)
            obtain ⟨wT, hst, hn, hk⟩ := st_ref (x := zr) hB.out (⟨b0, b1, b2, b3, b4⟩ : Rf)
            have BC5 := hide (BC4.out.trans (hk.to_below BC4.out.size (by simp; omega)))
            replace hA := hide (hA.out.kp hk (by simp; omega))
            replace hB := hide hn
            have HS := hide hst
            clear hst hk hn
            refine step_store_w rfl 30 (.tmp 13) (.tmp 76) rfl rfl rfl HS.out ?_
            refine hK.out _ _ ?_ ?_
            · exact ⟨LXd.out _ BC5.out, (XB.out.below BC5.out).cell 0⟩
            clear hK K
            try simp only [Act.put]
            clear hHeld
            have hHeld : (fun w' => (Instr.loadAt 28 (.pointer (some ⟨g, i * 3, none⟩))).run Tryd.prog w' = .ok (.agg #[.int .i64 (p), .int .u64 (q)]) w' ∧ w'.cell? ⟨g0, 0, none⟩ = some (.int .i64 x.id)) wT := ⟨LXd.out _ BC5.out, (XB.out.below BC5.out).cell 0⟩
            refine pickA (v := ?_) 18 (some 14) rfl rfl (by kernel_rfl) (by kernel_rfl) (by kernel_rfl) (by decide) (fun _ _ _ h => h) (by rfl) ?_ (by assumption) ?_
            rotate_left
            · intro w'
              go_simp
              try with_reducible rfl
            try simp only [Act.put]
            refine doneL (by kernel_rfl) ?_ _
            clear hHeld
            show K1 _ _
            go_simp
            exact TAIL gA gB wT (⟨BC5, hA, hB⟩)
          · refine ⟨_, rfl, fun K hK => ?_⟩
            go_simp
            have b0 := gb1 wc (.cells #[.int .i64 0, .int .i64 0, .int .u64 0, .int .i64 0, .int .u64 0] 30)
            have hB := hide (IsB.new wc #[.int .i64 0, .int .i64 0, .int .u64 0, .int .i64 0, .int .u64 0] 30)
            have BC2 := hide (BC1.out.trans (b0.mono BC1.out.size))
            obtain ⟨gB, hgB⟩ : ∃ z, wc.heap.size = z := ⟨_, rfl⟩
            have hbB : WD.heap.size ≤ gB := by rw [← hgB]; exact BC1.out.size
            rw [hgB] at hB ⊢
            clear b0
            generalize wc.alloc (.cells #[.int .i64 0, .int .i64 0, .int .u64 0, .int .i64 0, .int .u64 0] 30) = wB at *
            refine hK.out _ _ ?_ ?_
            · exact ⟨LXd.out _ BC2.out, (XB.out.below BC2.out).cell 0⟩
            clear hK K
            try simp only [Act.put, List.setIfInBounds_toArray, List.set_cons_zero, List.set_cons_succ]
            clear hHeld
            have hHeld : (fun w' => (Instr.loadAt 28 (.pointer (some ⟨g, i * 3, none⟩))).run Tryd.prog w' = .ok (.agg #[.int .i64 (p), .int .u64 (q)]) w' ∧ w'.cell? ⟨g0, 0, none⟩ = some (.int .i64 x.id)) wB := ⟨LXd.out _ BC2.out, (XB.out.below BC2.out).cell 0⟩
            refine oneL (i := 14) (by kernel_rfl) rfl (fun K hK => ?_)
            go_simp
            have b0 := gb1 wB (.cells #[.int .i64 0, .int .i64 0, .int .u64 0, .int .i64 0, .int .u64 0] 30)
            have hA := hide (IsB.new wB #[.int .i64 0, .int .i64 0, .int .u64 0, .int .i64 0, .int .u64 0] 30)
            have BC3 := hide (BC2.out.trans (b0.mono BC2.out.size))
            obtain ⟨gA, hgA⟩ : ∃ z, wB.heap.size = z := ⟨_, rfl⟩
            have hbA : WD.heap.size ≤ gA := by rw [← hgA]; exact BC2.out.size
            have hne : gA ≠ gB := by have := hB.out.lt; omega
            replace hB := hide (hB.out.below b0)
            rw [hgA] at hA ⊢
            clear b0
            generalize wB.alloc (.cells #[.int .i64 0, .int .i64 0, .int .u64 0, .int .i64 0, .int .u64 0] 30) = wA at *
            refine hK.out _ _ ?_ ?_
            · exact ⟨LXd.out _ BC3.out, (XB.out.below BC3.out).cell 0⟩
            clear hK K
            try simp only [Act.put, List.setIfInBounds_toArray, List.set_cons_zero, List.set_cons_succ]
            clear hHeld
            have hHeld : (fun w' => (Instr.loadAt 28 (.pointer (some ⟨g, i * 3, none⟩))).run Tryd.prog w' = .ok (.agg #[.int .i64 (p), .int .u64 (q)]) w' ∧ w'.cell? ⟨g0, 0, none⟩ = some (.int .i64 x.id)) wA := ⟨LXd.out _ BC3.out, (XB.out.below BC3.out).cell 0⟩
            refine oneL (i := 16) (by kernel_rfl) rfl (fun K hK => ?_)
            obtain ⟨wS, hst, hn, hk⟩ := st_ref (x := zr) hA.out (⟨a0, a1, a2, a3, a4⟩ : Rf)
            have BC4 := hide (BC3.out.trans (hk.to_below BC3.out.size (by simp; omega)))
            replace hB := hide (hB.out.kp hk (by simp; omega))
            replace hA := hide hn
            have HS := hide hst
            clear hst hk hn
            refine step_store_w rfl 30 (.tmp 12) (.tmp 75) rfl rfl rfl HS.out ?_
            refine hK.out _ _ ?_ ?_
            · exact ⟨LXd.out _ BC4.out, (XB.out.below BC4.out).cell 0⟩
            clear hK K
            try simp only [Act.put, List.setIfInBounds_toArray]
            clear hHeld
            have hHeld : (fun w' => (Instr.loadAt 28 (.pointer (some ⟨g, i * 3, none⟩))).run Tryd.prog w' = .ok (.agg #[.int .i64 (p), .int .u64 (q)]) w' ∧ w'.cell? ⟨g0, 0, none⟩ = some (.int .i64 x.id)) wS := ⟨LXd.out _ BC4.out, (XB.out.below BC4.out).cell 0⟩
            refine oneL (i := 17) (by kernel_rfl) rfl (fun K hK => ?_)
            obtain ⟨wT, hst, hn, hk⟩ := st_ref (x := zr) hB.out (⟨b0, b1, b2, b3, b4⟩ : Rf)
            have BC5 := hide (BC4.out.trans (hk.to_below BC4.out.size (by simp; omega)))
            replace hA := hide (hA.out.kp hk (by simp; omega))
            replace hB := hide hn
            have HS := hide hst
            clear hst hk hn
            refine step_store_w rfl 30 (.tmp 13) (.tmp 76) rfl rfl rfl HS.out ?_
            refine hK.out _ _ ?_ ?_
            · exact ⟨LXd.out _ BC5.out, (XB.out.below BC5.out).cell 0⟩
            clear hK K
            try simp only [Act.put]
            clear hHeld
            have hHeld : (fun w' => (Instr.loadAt 28 (.pointer (some ⟨g, i * 3, none⟩))).run Tryd.prog w' = .ok (.agg #[.int .i64 (p), .int .u64 (q)]) w' ∧ w'.cell? ⟨g0, 0, none⟩ = some (.int .i64 x.id)) wT := ⟨LXd.out _ BC5.out, (XB.out.below BC5.out).cell 0⟩
            refine pickA (v := ?_) 18 (some 14) rfl rfl (by kernel_rfl) (by kernel_rfl) (by kernel_rfl) (by decide) (fun _ _ _ h => h) (by rfl) ?_ (by assumption) ?_
            rotate_left
            · intro w'
              go_simp
              try with_reducible rfl
            try simp only [Act.put]
            refine doneL (by kernel_rfl) ?_ _
            clear hHeld
            show K1 _ _
            go_simp
            exact TAIL gA gB wT (⟨BC5, hA, hB⟩)
        · refine ⟨_, rfl, fun K hK => ?_⟩
          go_simp
          have b0 := gb1 WD (.cells #[.int .i64 0, .int .i64 0, .int .u64 0, .int .i64 0, .int .u64 0] 30)
          have hA := hide (IsB.new WD #[.int .i64 0, .int .i64 0, .int .u64 0, .int .i64 0, .int .u64 0] 30)
          have BC1 := hide (BC0.out.trans (b0.mono BC0.out.size))
          obtain ⟨gA, hgA⟩ : ∃ z, WD.heap.size = z := ⟨_, rfl⟩
          have hbA : WD.heap.size ≤ gA := by rw [← hgA]; exact BC0.out.size
          rw [hgA] at hA ⊢
          clear b0
          generalize WD.alloc (.cells #[.int .i64 0, .int .i64 0, .int .u64 0, .int .i64 0, .int .u64 0] 30) = wA at *
          refine hK.out _ _ ?_ ?_
          · exact ⟨LXd.out _ BC1.out, (XB.out.below BC1.out).cell 0⟩
          clear hK K
          try simp only [Act.put, List.setIfInBounds_toArray, List.set_cons_zero, List.set_cons_succ]
          clear hHeld
          have hHeld : (fun w' => (Instr.loadAt 28 (.pointer (some ⟨g, i * 3, none⟩))).run Tryd.prog w' = .ok (.agg #[.int .i64 (p), .int .u64 (q)]) w' ∧ w'.cell? ⟨g0, 0, none⟩ = some (.int .i64 x.id)) wA := ⟨LXd.out _ BC1.out, (XB.out.below BC1.out).cell 0⟩
          refine manyL (L := [9, 15]) (by kernel_rfl) (by decide) (fun i hi => ?_)
          simp only [List.mem_cons, List.not_mem_nil, or_false] at hi
          rcases hi with rfl | rfl
          · refine ⟨_, rfl, fun K hK => ?_⟩
            go_simp
            refine (CBl.out wA BC1.out).mono ?_
            rintro e wc ⟨rfl, hb⟩
            have BC2 := hide (BC1.out.trans (hb.mono BC1.out.size))
            replace hA := hide (hA.out.below hb)
            clear hb
            refine hK.out _ _ ?_ ?_
            · exact ⟨LXd.out _ BC2.out, (XB.out.below BC2.out).cell 0⟩
            clear hK K
            try simp only [Act.put, List.setIfInBounds_toArray, List.set_cons_zero, List.set_cons_succ]
            clear hHeld
            have hHeld : (fun w' => (Instr.loadAt 28 (.pointer (some ⟨g, i * 3, none⟩))).run Tryd.prog w' = .ok (.agg #[.int .i64 (p), .int .u64 (q)]) w' ∧ w'.cell? ⟨g0, 0, none⟩ = some (.int .i64 x.id)) wc := ⟨LXd.out _ BC2.out, (XB.out.below BC2.out).cell 0⟩
            refine pickA (v := ?_) 10 (some 64) rfl rfl (by kernel_rfl) (by kernel_rfl) (by kernel_rfl) (by decide) (fun _ _ _ h => h) (by rfl) ?_ (by assumption) ?_
            rotate_left
            · intro w'
              go_simp
              try with_reducible rfl
            try simp only [Act.put, List.setIfInBounds_toArray, List.set_cons_zero, List.set_cons_succ]
            refine pickA (v := ?_) 11 (some 75) rfl rfl (by kernel_rfl) (by kernel_rfl) (by kernel_rfl) (by decide) (fun _ _ _ h => h) (by rfl) ?_ (by assumption) ?_
            rotate_left
            · intro w'
              go_simp
              try with_reducible rfl
            try simp only [Act.put, List.setIfInBounds_toArray, List.set_cons_zero, List.set_cons_succ]
            refine pickA (v := ?_) 12 (some 76) rfl rfl (by kernel_rfl) (by kernel_rfl) (by kernel_rfl) (by decide) (fun _ _ _ h => h) (by rfl) ?_ (by assumption) ?_
            rotate_left
            · intro w'
              go_simp
              try with_reducible rfl
            try simp only [Act.put, List.setIfInBounds_toArray, List.set_cons_zero, List.set_cons_succ]
            refine pickA (v := ?_) 13 (some 77) rfl rfl (by kernel_rfl) (by kernel_rfl) (by kernel_rfl) (by decide) (fun _ _ _ h => h) (by rfl) ?_ (by assumption) ?_
            rotate_left
            · intro w'
              go_simp
              try with_reducible rfl
            try simp only [Act.put, List.setIfInBounds_toArray, List.set_cons_zero, List.set_cons_succ]
            refine oneL (i := 15) (by kernel_rfl) rfl (fun K hK => ?_)
            go_simp
            have b0 := gb1 wc (.cells #[.int .i64 0, .int .i64 0, .int .u64 0, .int .i64 0, .int .u64 0] 30)
            have hB := hide (IsB.new wc #[.int .i64 0, .int .i64 0, .int .u64 0, .int .i64 0, .int .u64 0] 30)
            have BC3 := hide (BC2.out.trans (b0.mono BC2.out.size))
            obtain ⟨gB, hgB⟩ : ∃ z, wc.heap.size = z := ⟨_, rfl⟩
            have hbB : WD.heap.size ≤ gB := by rw [← hgB]; exact BC2.out.size
            have hne : gA ≠ gB := by have := hA.out.lt; omega
            replace hA := hide (hA.out.below b0)
            rw [hgB] at hB ⊢
            clear b0
            generalize wc.alloc (.cells #[.int .i64 0, .int .i64 0, .int .u64 0, .int .i64 0, .int .u64 0] 30) = wB at *
            refine hK.out _ _ ?_ ?_
            · exact ⟨LXd.out _ BC3.out, (XB.out.below BC3.out).cell 0⟩
            clear hK K
            try simp only [Act.put, List.setIfInBounds_toArray, List.set_cons_zero, List.set_cons_succ]
            clear hHeld
            have hHeld : (fun w' => (Instr.loadAt 28 (.pointer (some ⟨g, i * 3, none⟩))).run Tryd.prog w' = .ok (.agg #[.int .i64 (p), .int .u64 (q)]) w' ∧ w'.cell? ⟨g0, 0, none⟩ = some (.int .i64 x.id)) wB := ⟨LXd.out _ BC3.out, (XB.out.below BC3.out).cell 0⟩
            refine oneL (i := 16) (by kernel_rfl) rfl (fun K hK => ?_)
            obtain ⟨wS, hst, hn, hk⟩ := st_ref (x := zr) hA.out (⟨a0, a1, a2, a3, a4⟩ : Rf)
            have BC4 := hide (BC3.out.trans (hk.to_below BC3.out.size (by simp; omega)))
            replace hB := hide (hB.out.kp hk (by simp; omega))
            replace hA := hide hn
            have HS := hide hst
            clear hst hk hn
            refine step_store_w rfl 30 (.tmp 12) (.tmp 75) rfl rfl rfl HS.out ?_
            refine hK.out _ _ ?_ ?_
            · exact ⟨LXd.out _ BC4.out, (XB.out.below BC4.out).cell 0⟩
            clear hK K
            try simp only [Act.put, List.setIfInBounds_toArray]
            clear hHeld
            have hHeld : (fun w' => (Instr.loadAt 28 (.pointer (some ⟨g, i * 3, none⟩))).run Tryd.prog w' = .ok (.agg #[.int .i64 (p), .int .u64 (q)]) w' ∧ w'.cell? ⟨g0, 0, none⟩ = some (.int .i64 x.id)) wS := ⟨LXd.out _ BC4.out, (XB.out.below BC4.out).cell 0⟩
            refine oneL (i := 17) (by kernel_rfl) rfl (fun K hK => ?_)
            obtain ⟨wT, hst, hn, hk⟩ := st_ref (x := zr) hB.out (⟨b0, b1, b2, b3, b4⟩ : Rf)
            have BC5 := hide (BC4.out.trans (hk.to_below BC4.out.size (by simp; omega)))
            replace hA := hide (hA.out.kp hk (by simp; omega))
            replace hB := hide hn
            have HS := hide hst
            clear hst hk hn
            refine step_store_w rfl 30 (.tmp 13) (.tmp 76) rfl rfl rfl HS.out ?_
            refine hK.out _ _ ?_ ?_
            · exact ⟨LXd.out _ BC5.out, (XB.out.below BC5.out).cell 0⟩
            clear hK K
            try simp only [Act.put]
            clear hHeld
            have hHeld : (fun w' => (Instr.loadAt 28 (.pointer (some ⟨g, i * 3, none⟩))).run Tryd.prog w' = .ok (.agg #[.int .i64 (p), .int .u64 (q)]) w' ∧ w'.cell? ⟨g0, 0, none⟩ = some (.int .i64 x.id)) wT := ⟨LXd.out _ BC5.out, (XB.out.below BC5.out).cell 0⟩
            refine pickA (v := ?_) 18 (some 14) rfl rfl (by kernel_rfl) (by kernel_rfl) (by kernel_rfl) (by decide) (fun _ _ _ h => h) (by rfl) ?_ (by assumption) ?_
            rotate_left
            · intro w'
              go_simp
              try with_reducible rfl
            try simp only [Act.put]
            refine doneL (by kernel_rfl) ?_ _
            clear hHeld
            show K1 _ _
            go_simp
            exact TAIL gA gB wT (⟨BC5, hA, hB⟩)
          · refine ⟨_, rfl, fun K hK => ?_⟩
            go_simp
            have b0 := gb1 wA (.cells #[.int .i64 0, .int .i64 0, .int .u64 0, .int .i64 0, .int .u64 0] 30)
            have hB := hide (IsB.new wA #[.int .i64 0, .int .i64 0, .int .u64 0, .int .i64 0, .int .u64 0] 30)
            have BC2 := hide (BC1.out.trans (b0.mono BC1.out.size))
            obtain ⟨gB, hgB⟩ : ∃ z, wA.heap.size = z := ⟨_, rfl⟩
            have hbB : WD.heap.size ≤ gB := by rw [← hgB]; exact BC1.out.size
            have hne : gA ≠ gB := by have := hA.out.lt; omega
            replace hA := hide (hA.out.below b0)
            rw [hgB] at hB ⊢
            clear b0
            generalize wA.alloc (.cells #[.int .i64 0, .int .i64 0, .int .u64 0, .int .i64 0, .int .u64 0] 30) = wB at *
            refine hK.out _ _ ?_ ?_
            · exact ⟨LXd.out _ BC2.out, (XB.out.below BC2.out).cell 0⟩
            clear hK K
            try simp only [Act.put, List.setIfInBounds_toArray, List.set_cons_zero, List.set_cons_succ]
            clear hHeld
            have hHeld : (fun w' => (Instr.loadAt 28 (.pointer (some ⟨g, i * 3, none⟩))).run Tryd.prog w' = .ok (.agg #[.int .i64 (p), .int .u64 (q)]) w' ∧ w'.cell? ⟨g0, 0, none⟩ = some (.int .i64 x.id)) wB := ⟨LXd.out _ BC2.out, (XB.out.below BC2.out).cell 0⟩
            refine oneL (i := 9) (by kernel_rfl) rfl (fun K hK => ?_)
            go_simp
            refine (CBl.out wB BC2.out).mono ?_
            rintro e wc ⟨rfl, hb⟩
            have BC3 := hide (BC2.out.trans (hb.mono BC2.out.size))
            replace hA := hide (hA.out.below hb)
            replace hB := hide (hB.out.below hb)
            clear hb
            refine hK.out _ _ ?_ ?_
            · exact ⟨LXd.out _ BC3.out, (XB.out.below BC3.out).cell 0⟩
            clear hK K
            try simp only [Act.put, List.setIfInBounds_toArray, List.set_cons_zero, List.set_cons_succ]
            clear hHeld
            have hHeld : (fun w' => (Instr.loadAt 28 (.pointer (some ⟨g, i * 3, none⟩))).run Tryd.prog w' = .ok (.agg #[.int .i64 (p), .int .u64 (q)]) w' ∧ w'.cell? ⟨g0, 0, none⟩ = some (.int .i64 x.id)) wc := ⟨LXd.out _ BC3.out, (XB.out.below BC3.out).cell 0⟩
            refine pickA (v := ?_) 10 (some 64) rfl rfl (by kernel_rfl) (by kernel_rfl) (by kernel_rfl) (by decide) (fun _ _ _ h => h) (by rfl) ?_ (by assumption) ?_
            rotate_left
            · intro w'
              go_simp
              try with_reducible rfl
            try simp only [Act.put, List.setIfInBounds_toArray, List.set_cons_zero, List.set_cons_succ]
            refine pickA (v := ?_) 11 (some 75) rfl rfl (by kernel_rfl) (by kernel_rfl) (by kernel_rfl) (by decide) (fun _ _ _ h => h) (by rfl) ?_ (by assumption) ?_
            rotate_left
            · intro w'
              go_simp
              try with_reducible rfl
            try simp only [Act.put, List.setIfInBounds_toArray, List.set_cons_zero, List.set_cons_succ]
            refine pickA (v := ?_) 12 (some 76) rfl rfl (by kernel_rfl) (by kernel_rfl) (by kernel_rfl) (by decide) (fun _ _ _ h => h) (by rfl) ?_ (by assumption) ?_
            rotate_left
            · intro w'
              go_simp
              try with_reducible rfl
            try simp only [Act.put, List.setIfInBounds_toArray, List.set_cons_zero, List.set_cons_succ]
            refine pickA (v := ?_) 13 (some 77) rfl rfl (by kernel_rfl) (by kernel_rfl) (by kernel_rfl) (by decide) (fun _ _ _ h => h) (by rfl) ?_ (by assumption) ?_
            rotate_left
            · intro w'
              go_simp
              try with_reducible rfl
            try simp only [Act.put, List.setIfInBounds_toArray, List.set_cons_zero, List.set_cons_succ]
            refine oneL (i := 16) (by kernel_rfl) rfl (fun K hK => ?_)
            obtain ⟨wS, hst, hn, hk⟩ := st_ref (x := zr) hA.out (⟨a0, a1, a2, a3, a4⟩ : Rf)
            have BC4 := hide (BC3.out.trans (hk.to_below BC3.out.size (by simp; omega)))
            replace hB := hide (hB.out.kp hk (by simp; omega))
            replace hA := hide hn
            have HS := hide hst
            clear hst hk hn
            refine step_store_w rfl 30 (.tmp 12) (.tmp 75) rfl rfl rfl HS.out ?_
            refine hK.out _ _ ?_ ?_
            · exact ⟨LXd.out _ BC4.out, (XB.out.below BC4.out).cell 0⟩
            clear hK K
            try simp only [Act.put, List.setIfInBounds_toArray]
            clear hHeld
            have hHeld : (fun w' => (Instr.loadAt 28 (.pointer (some ⟨g, i * 3, none⟩))).run Tryd.prog w' = .ok (.agg #[.int .i64 (p), .int .u64 (q)]) w' ∧ w'.cell? ⟨g0, 0, none⟩ = some (.int .i64 x.id)) wS := ⟨LXd.out _ BC4.out, (XB.out.below BC4.out).cell 0⟩
            refine oneL (i := 17) (by kernel_rfl) rfl (fun K hK => ?_)
            obtain ⟨wT, hst, hn, hk⟩ := st_ref (x := zr) hB.out (⟨b0, b1, b2, b3, b4⟩ : Rf)
            have BC5 := hide (BC4.out.trans (hk.to_below BC4.out.size (by simp; omega)))
            replace hA := hide (hA.out.kp hk (by simp; omega))
            replace hB := hide hn
            have HS := hide hst
            clear hst hk hn
            refine step_store_w rfl 30 (.tmp 13) (.tmp 76) rfl rfl rfl HS.out ?_
            refine hK.out _ _ ?_ ?_
            · exact ⟨LXd.out _ BC5.out, (XB.out.below BC5.out).cell 0⟩
            clear hK K
            try simp only [Act.put]
            clear hHeld
            have hHeld : (fun w' => (Instr.loadAt 28 (.pointer (some ⟨g, i * 3, none⟩))).run Tryd.prog w' = .ok (.agg #[.int .i64 (p), .int .u64 (q)]) w' ∧ w'.cell? ⟨g0, 0, none⟩ = some (.int .i64 x.id)) wT := ⟨LXd.out _ BC5.out, (XB.out.below BC5.out).cell 0⟩
            refine pickA (v := ?_) 18 (some 14) rfl rfl (by kernel_rfl) (by kernel_rfl) (by kernel_rfl) (by decide) (fun _ _ _ h => h) (by rfl) ?_ (by assumption) ?_
            rotate_left
            · intro w'
              go_simp
              try with_reducible rfl
            try simp only [Act.put]
            refine doneL (by kernel_rfl) ?_ _
            clear hHeld
            show K1 _ _
            go_simp
            exact TAIL gA gB wT (⟨BC5, hA, hB⟩)
        · refine ⟨_, rfl, fun K hK => ?_⟩
          go_simp
          have b0 := gb1 WD (.cells #[.int .i64 0, .int .i64 0, .int .u64 0, .int .i64 0, .int .u64 0] 30)
          have hB := hide (IsB.new WD #[.int .i64 0, .int .i64 0, .int .u64 0, .int .i64 0, .int .u64 0] 30)
          have BC1 := hide (BC0.out.trans (b0.mono BC0.out.size))
          obtain ⟨gB, hgB⟩ : ∃ z, WD.heap.size = z := ⟨_, rfl⟩
          have hbB : WD.heap.size ≤ gB := by rw [← hgB]; exact BC0.out.size
          rw [hgB] at hB ⊢
          clear b0
          generalize WD.alloc (.cells #[.int .i64 0, .int .i64 0, .int .u64 0, .int .i64 0, .int .u64 0] 30) = wB at *
          refine hK.out _ _ ?_ ?_
          · exact ⟨LXd.out _ BC1.out, (XB.out.below BC1.out).cell 0⟩
          clear hK K
          try simp only [Act.put, List.setIfInBounds_toArray, List.set_cons_zero, List.set_cons_succ]
          clear hHeld
          have hHeld : (fun w' => (Instr.loadAt 28 (.pointer (some ⟨g, i * 3, none⟩))).run Tryd.prog w' = .ok (.agg #[.int .i64 (p), .int .u64 (q)]) w' ∧ w'.cell? ⟨g0, 0, none⟩ = some (.int .i64 x.id)) wB := ⟨LXd.out _ BC1.out, (XB.out.below BC1.out).cell 0⟩
          refine manyL (L := [9, 14]) (by kernel_rfl) (by decide) (fun i hi => ?_)
          simp only [List.mem_cons, List.not_mem_nil, or_false] at hi
          rcases hi with rfl | rfl
          · refine ⟨_, rfl, fun K hK => ?_⟩
            go_simp
            refine (CBl.out wB BC1.out).mono ?_
            rintro e wc ⟨rfl, hb⟩
            have BC2 := hide (BC1.out.trans (hb.mono BC1.out.size))
            replace hB := hide (hB.out.below hb)
            clear hb
            refine hK.out _ _ ?_ ?_
            · exact ⟨LXd.out _ BC2.out, (XB.out.below BC2.out).cell 0⟩
            clear hK K
            try simp only [Act.put, List.setIfInBounds_toArray, List.set_cons_zero, List.set_cons_succ]
            clear hHeld
            have hHeld : (fun w' => (Instr.loadAt 28 (.pointer (some ⟨g, i * 3, none⟩))).run Tryd.prog w' = .ok (.agg #[.int .i64 (p), .int .u64 (q)]) w' ∧ w'.cell? ⟨g0, 0, none⟩ = some (.int .i64 x.id)) wc := ⟨LXd.out _ BC2.out, (XB.out.below BC2.out).cell 0⟩
            refine pickA (v := ?_) 10 (some 64) rfl rfl (by kernel_rfl) (by kernel_rfl) (by kernel_rfl) (by decide) (fun _ _ _ h => h) (by rfl) ?_ (by assumption) ?_
            rotate_left
            · intro w'
              go_simp
              try with_reducible rfl
            try simp only [Act.put, List.setIfInBounds_toArray, List.set_cons_zero, List.set_cons_succ]
            refine pickA (v := ?_) 11 (some 75) rfl rfl (by kernel_rfl) (by kernel_rfl) (by kernel_rfl) (by decide) (fun _ _ _ h => h) (by rfl) ?_ (by assumption) ?_
            rotate_left
            · intro w'
              go_simp
              try with_reducible rfl
            try simp only [Act.put, List.setIfInBounds_toArray, List.set_cons_zero, List.set_cons_succ]
            refine pickA (v := ?_) 12 (some 76) rfl rfl (by kernel_rfl) (by kernel_rfl) (by kernel_rfl) (by decide) (fun _ _ _ h => h) (by rfl) ?_ (by assumption) ?_
            rotate_left
            · intro w'
              go_simp
              try with_reducible rfl
            try simp only [Act.put, List.setIfInBounds_toArray, List.set_cons_zero, List.set_cons_succ]
            refine pickA (v := ?_) 13 (some 77) rfl rfl (by kernel_rfl) (by kernel_rfl) (by kernel_rfl) (by decide) (fun _ _ _ h => h) (by rfl) ?_ (by assumption) ?_
            rotate_left
            · intro w'
              go_simp
              try with_reducible rfl
            try simp only [Act.put, List.setIfInBounds_toArray, List.set_cons_zero, List.set_cons_succ]
            refine oneL (i := 14) (by kernel_rfl) rfl (fun K hK => ?_)
            go_simp
            have b0 := gb1 wc (.cells #[.int .i64 0, .int .i64 0, .int .u64 0, .int .i64 0, .int .u64 0] 30)
            have hA := hide (IsB.new wc #[.int .i64 0, .int .i64 0, .int .u64 0, .int .i64 0, .int .u64 0] 30)
            have BC3 := hide (BC2.out.trans (b0.mono BC2.out.size))
            obtain ⟨gA, hgA⟩ : ∃ z, wc.heap.size = z := ⟨_, rfl⟩
            have hbA : WD.heap.size ≤ gA := by rw [← hgA]; exact BC2.out.size
            have hne : gA ≠ gB := by have := hB.out.lt; omega
            replace hB := hide (hB.out.below b0)
            rw [hgA] at hA ⊢
            clear b0
            generalize wc.alloc (.cells #[.int .i64 0, .int .i64 0, .int .u64 0, .int .i64 0, .int .u64 0] 30) = wA at *
            refine hK.out _ _ ?_ ?_
            · exact ⟨LXd.out _ BC3.out, (XB.out.below BC3.out).cell 0⟩
            clear hK K
            try simp only [Act.put, List.setIfInBounds_toArray, List.set_cons_zero, List.set_cons_succ]
            clear hHeld
            have hHeld : (fun w' => (Instr.loadAt 28 (.pointer (some ⟨g, i * 3, none⟩))).run Tryd.prog w' = .ok (.agg #[.int .i64 (p), .int .u64 (q)]) w' ∧ w'.cell? ⟨g0, 0, none⟩ = some (.int .i64 x.id)) wA := ⟨LXd.out _ BC3.out, (XB.out.below BC3.out).cell 0⟩
            refine oneL (i := 16) (by kernel_rfl) rfl (fun K hK => ?_)
            obtain ⟨wS, hst, hn, hk⟩ := st_ref (x := zr) hA.out (⟨a0, a1, a2, a3, a4⟩ : Rf)
            have BC4 := hide (BC3.out.trans (hk.to_below BC3.out.size (by simp; omega)))
            replace hB := hide (hB.out.kp hk (by simp; omega))
            replace hA := hide hn
            have HS := hide hst
            clear hst hk hn
            refine step_store_w rfl 30 (.tmp 12) (.tmp 75) rfl rfl rfl HS.out ?_
            refine hK.out _ _ ?_ ?_
            · exact ⟨LXd.out _ BC4.out, (XB.out.below BC4.out).cell 0⟩
            clear hK K
            try simp only [Act.put, List.setIfInBounds_toArray]
            clear hHeld
            have hHeld : (fun w' => (Instr.loadAt 28 (.pointer (some ⟨g, i * 3, none⟩))).run Tryd.prog w' = .ok (.agg #[.int .i64 (p), .int .u64 (q)]) w' ∧ w'.cell? ⟨g0, 0, none⟩ = some (.int .i64 x.id)) wS := ⟨LXd.out _ BC4.out, (XB.out.below BC4.out).cell 0⟩
            refine oneL (i := 17) (by kernel_rfl) rfl (fun K hK => ?_)
            obtain ⟨wT, hst, hn, hk⟩ := st_ref (x := zr) hB.out (⟨b0, b1, b2, b3, b4⟩ : Rf)
            have BC5 := hide (BC4.out.trans (hk.to_below BC4.out.size (by simp; omega)))
            replace hA := hide (hA.out.kp hk (by simp; omega))
            replace hB := hide hn
            have HS := hide hst
            clear hst hk hn
            refine step_store_w rfl 30 (.tmp 13) (.tmp 76) rfl rfl rfl HS.out ?_
            refine hK.out _ _ ?_ ?_
            · exact ⟨LXd.out _ BC5.out, (XB.out.below BC5.out).cell 0⟩
            clear hK K
            try simp only [Act.put]
            clear hHeld
            have hHeld : (fun w' => (Instr.loadAt 28 (.pointer (some ⟨g, i * 3, none⟩))).run Tryd.prog w' = .ok (.agg #[.int .i64 (p), .int .u64 (q)]) w' ∧ w'.cell? ⟨g0, 0, none⟩ = some (.int .i64 x.id)) wT := ⟨LXd.out _ BC5.out, (XB.out.below BC5.out).cell 0⟩
            refine pickA (v := ?_) 18 (some 14) rfl rfl (by kernel_rfl) (by kernel_rfl) (by kernel_rfl) (by decide) (fun _ _ _ h => h) (by rfl) ?_ (by assumption) ?_
            rotate_left
            · intro w'
              go_simp
              try with_reducible rfl
            try simp only [Act.put]
            refine doneL (by kernel_rfl) ?_ _
            clear hHeld
            show K1 _ _
            go_simp
            exact TAIL gA gB wT (⟨BC5, hA, hB⟩)
          · refine ⟨_, rfl, fun K hK => ?_⟩
            go_simp
            have b0 := gb1 wB (.cells #[.int .i64 0, .int .i64 0, .int .u64 0, .int .i64 0, .int .u64 0] 30)
            have hA := hide (IsB.new wB #[.int .i64 0, .int .i64 0, .int .u64 0, .int .i64 0, .int .u64 0] 30)
            have BC2 := hide (BC1.out.trans (b0.mono BC1.out.size))
            obtain ⟨gA, hgA⟩ : ∃ z, wB.heap.size = z := ⟨_, rfl⟩
            have hbA : WD.heap.size ≤ gA := by rw [← hgA]; exact BC1.out.size
            have hne : gA ≠ gB := by have := hB.out.lt; omega
            replace hB := hide (hB.out.below b0)
            rw [hgA] at hA ⊢
            clear b0
            generalize wB.alloc (.cells #[.int .i64 0, .int .i64 0, .int .u64 0, .int .i64 0, .int .u64 0] 30) = wA at *
            refine hK.out _ _ ?_ ?_
            · exact ⟨LXd.out _ BC2.out, (XB.out.below BC2.out).cell 0⟩
            clear hK K
            try simp only [Act.put, List.setIfInBounds_toArray, List.set_cons_zero, List.set_cons_succ]
            clear hHeld
            have hHeld : (fun w' => (Instr.loadAt 28 (.pointer (some ⟨g, i * 3, none⟩))).run Tryd.prog w' = .ok (.agg #[.int .i64 (p), .int .u64 (q)]) w' ∧ w'.cell? ⟨g0, 0, none⟩ = some (.int .i64 x.id)) wA := ⟨LXd.out _ BC2.out, (XB.out.below BC2.out).cell 0⟩
            refine oneL (i := 9) (by kernel_rfl) rfl (fun K hK => ?_)
            go_simp
            refine (CBl.out wA BC2.out).mono ?_
            rintro e wc ⟨rfl, hb⟩
            have BC3 := hide (BC2.out.trans (hb.mono BC2.out.size))
            replace hA := hide (hA.out.below hb)
            replace hB := hide (hB.out.below hb)
            clear hb
            refine hK.out _ _ ?_ ?_
            · exact ⟨LXd.out _ BC3.out, (XB.out.below BC3.out).cell 0⟩
            clear hK K
            try simp only [Act.put, List.setIfInBounds_toArray, List.set_cons_zero, List.set_cons_succ]
            clear hHeld
            have hHeld : (fun w' => (Instr.loadAt 28 (.pointer (some ⟨g, i * 3, none⟩))).run Tryd.prog w' = .ok (.agg #[.int .i64 (p), .int .u64 (q)]) w' ∧ w'.cell? ⟨g0, 0, none⟩ = some (.int .i64 x.id)) wc := ⟨LXd.out _ BC3.out, (XB.out.below BC3.out).cell 0⟩
            refine pickA (v := ?_) 10 (some 64) rfl rfl (by kernel_rfl) (by kernel_rfl) (by kernel_rfl) (by decide) (fun _ _ _ h => h) (by rfl) ?_ (by assumption) ?_
            rotate_left
            · intro w'
              go_simp
              try with_reducible rfl
            try simp only [Act.put, List.setIfInBounds_toArray, List.set_cons_zero, List.set_cons_succ]
            refine pickA (v := ?_) 11 (some 75) rfl rfl (by kernel_rfl) (by kernel_rfl) (by kernel_rfl) (by decide) (fun _ _ _ h => h) (by rfl) ?_ (by assumption) ?_
            rotate_left
            · intro w'
              go_simp
              try with_reducible rfl
            try simp only [Act.put, List.setIfInBounds_toArray, List.set_cons_zero, List.set_cons_succ]
            refine pickA (v := ?_) 12 (some 76) rfl rfl (by kernel_rfl) (by kernel_rfl) (by kernel_rfl) (by decide) (fun _ _ _ h => h) (by rfl) ?_ (by assumption) ?_
            rotate_left
            · intro w'
              go_simp
              try with_reducible rfl
            try simp only [Act.put, List.setIfInBounds_toArray, List.set_cons_zero, List.set_cons_succ]
            refine pickA (v := ?_) 13 (some 77) rfl rfl (by kernel_rfl) (by kernel_rfl) (by kernel_rfl) (by decide) (fun _ _ _ h => h) (by rfl) ?_ (by assumption) ?_
            rotate_left
            · intro w'
              go_simp
              try with_reducible rfl
            try simp only [Act.put, List.setIfInBounds_toArray, List.set_cons_zero, List.set_cons_succ]
            refine oneL (i := 16) (by kernel_rfl) rfl (fun K hK => ?_)
            obtain ⟨wS, hst, hn, hk⟩ := st_ref (x := zr) hA.out (⟨a0, a1, a2, a3, a4⟩ : Rf)
            have BC4 := hide (BC3.out.trans (hk.to_below BC3.out.size (by simp; omega)))
            replace hB := hide (hB.out.kp hk (by simp; omega))
            replace hA := hide hn
            have HS := hide hst
            clear hst hk hn
            refine step_store_w rfl 30 (.tmp 12) (.tmp 75) rfl rfl rfl HS.out ?_
            refine hK.out _ _ ?_ ?_
            · exact ⟨LXd.out _ BC4.out, (XB.out.below BC4.out).cell 0⟩
            clear hK K
            try simp only [Act.put, List.setIfInBounds_toArray]
            clear hHeld
            have hHeld : (fun w' => (Instr.loadAt 28 (.pointer (some ⟨g, i * 3, none⟩))).run Tryd.prog w' = .ok (.agg #[.int .i64 (p), .int .u64 (q)]) w' ∧ w'.cell? ⟨g0, 0, none⟩ = some (.int .i64 x.id)) wS := ⟨LXd.out _ BC4.out, (XB.out.below BC4.out).cell 0⟩
            refine oneL (i := 17) (by kernel_rfl) rfl (fun K hK => ?_)
            obtain ⟨wT, hst, hn, hk⟩ := st_ref (x := zr) hB.out (⟨b0, b1, b2, b3, b4⟩ : Rf)
            have BC5 := hide (BC4.out.trans (hk.to_below BC4.out.size (by simp; omega)))
            replace hA := hide (hA.out.kp hk (by simp; omega))
            replace hB := hide hn
            have HS := hide hst
            clear hst hk hn
            refine step_store_w rfl 30 (.tmp 13) (.tmp 76) rfl rfl rfl HS.out ?_
            refine hK.out _ _ ?_ ?_
            · exact ⟨LXd.out _ BC5.out, (XB.out.below BC5.out).cell 0⟩
            clear hK K
            try simp only [Act.put]
            clear hHeld
            have hHeld : (fun w' => (Instr.loadAt 28 (.pointer (some ⟨g, i * 3, none⟩))).run Tryd.prog w' = .ok (.agg #[.int .i64 (p), .int .u64 (q)]) w' ∧ w'.cell? ⟨g0, 0, none⟩ = some (.int .i64 x.id)) wT := ⟨LXd.out _ BC5.out, (XB.out.below BC5.out).cell 0⟩
            refine pickA (v := ?_) 18 (some 14) rfl rfl (by kernel_rfl) (by kernel_rfl) (by kernel_rfl) (by decide) (fun _ _ _ h => h) (by rfl) ?_ (by assumption) ?_
            rotate_left
            · intro w'
              go_simp
              try with_reducible rfl
            try simp only [Act.put]
            refine doneL (by kernel_rfl) ?_ _
            clear hHeld
            show K1 _ _
            go_simp
            exact TAIL gA gB wT (⟨BC5, hA, hB⟩)
      case tail =>
        intro gA gB w8 F8
        obtain ⟨BW8, hA, hB⟩ := F8
        replace LS := hide (LS.out.below BW8.out)
        replace LM := hide (LM.out.below BW8.out)
        replace XB := hide (XB.out.below BW8.out)
        replace HR := hide (HR.out.below BW8.out)
        replace LR := hide (LR.out.below BW8.out)
        replace RO := hide (RO.out.below BW8.out)
        replace B := hide (B.out.trans (BW8.out.mono B.out.size))
        replace BW0 := hide (BW0.out.trans (BW8.out.mono BW0.out.size))
        have Xa := hA
        have Xb := hB
        clear hA hB BW8 LXd CBl BC0 hWD
        refine hK1 _ _ ?_
        clear hK1 K1
        go_wp2_with fail
        go_loopw [15] (fun v wq => ∃ k : Nat, k ≤ rn ∧ v = .int .i64 (k : Int) ∧ Hid (RSl wq (.slice va2 n vc2) l) ∧ Hid (RSl wq (.slice sa (n + 1) sc) (l ++ [x])) ∧ Hid (IsB wq g0 #[.int .i64 x.id, .int .i64 x.rk, .int .u64 x.kn, .int .i64 x.ln, .int .u64 x.bt] 30) ∧ Hid (Ranks wq) ∧ Hid (LsRow wq (.slice (some ⟨g, 0, none⟩) an lc) (LA ++ LB) As) ∧ Hid (RSl wq (.slice roa rn roc) (rowL h (flt p (p, q) (LA ++ LB)))) ∧ Hid (IsB wq gA #[.int .i64 a0, .int .i64 a1, .int .u64 a2, .int .i64 a3, .int .u64 a4] 30) ∧ Hid (IsB wq gB #[.int .i64 b0, .int .i64 b1, .int .u64 b2, .int .i64 b3, .int .u64 b4] 30) ∧ Hid (Below wr.heap.size wr wq) ∧ Hid (Below w.heap.size w wq)) (fun v _ => rn - (intOf v).toNat)
        case atStart => exact ⟨0, by omega, rfl, LS.out, LM.out, XB.out, HR.out, LR.out, RO.out, Xa.out, Xb.out, BW0.out, B.out⟩
        case round =>
          clear LS LM XB HR LR RO Xa Xb BW0 B
          obtain ⟨k, hk, rfl, LS, LM, XB, HR, LR, RO, Xa, Xb, BW0, B⟩ := hrel
          by_cases hkt : k < rn
          rotate_left
          · obtain rfl : k = rn := by omega
            have d2 : decide ((k : Int) < (k : Int)) = false := by simp
            go_wp2_with fail
            exact ⟨⟨i + 1, by omega, by simp, LS.out, LM.out, XB.out, HR.out, LR.out, B.out⟩, by simp [intOf]; omega⟩
          have d2 : decide ((k : Int) < (rn : Int)) = true := decide_eq_true (by omega)
          have k1 : (k : Int) < rn := by omega
          have k0' : (0 : Int) ≤ k := by omega
          have hkR : k < (rowL h (flt p (p, q) (LA ++ LB))).length := by rw [hrn.out]; exact hkt
          obtain ⟨rg, ro, rc, ev, -, -⟩ := RO.out.form (by omega)
          injection ev with ev el ec
          clear el
          subst ev ec
          obtain ⟨z, hz⟩ : ∃ z, (rowL h (flt p (p, q) (LA ++ LB)))[k] = z := ⟨_, rfl⟩
          obtain ⟨nf, nr⟩ := near (u := (p, q)) M.out M2.out HU.out
          obtain ⟨e1, e2, e3⟩ := nr z (by rw [← hz]; exact List.getElem_mem hkR)
          clear nr
          rw [hBX.out] at nf e3
          simp only [] at nf e3
          have LZ := hz
          obtain ⟨⟨s0, s1, s2, s3, s4⟩, ⟨t0, t1, t2, t3, t4⟩, fs, hBS⟩ : ∃ a b f, besE h (p, q) z.id (LA ++ LB) = (a, b, f) := ⟨_, _, _, rfl⟩
          rw [hBS] at e1 e3
          simp only [] at e1 e3
          subst e1
          obtain ⟨⟨y0, y1, y2, y3, y4⟩, ⟨v0, v1, v2, v3, v4⟩, fv, hBV⟩ : ∃ a b f, besE h (p, q) z.id (LA ++ x :: LB) = (a, b, f) := ⟨_, _, _, rfl⟩
          rw [hBV] at e2 e3
          simp only [] at e2 e3
          subst e2
          replace nf := hide nf
          replace e3 := hide e3
          have CS := fun W (hW : RSl W (.slice va2 n vc2) l) => beside_ok h p q z.id HQ.out (.slice va2 n vc2) l (by have := hl3.out; have := hn.out; omega) hbt3.out hg.out _ hpm.out hsm.out W hW
          rw [hBS] at CS
          replace CS := hide CS
          have CV := fun W (hW : RSl W (.slice sa (n + 1) sc) (l ++ [x])) => beside_ok h p q z.id HQ.out (.slice sa (n + 1) sc) (l ++ [x]) (by have := hl3.out; have := hn.out; simp; omega) hbtm.out hg2.out _ hpm2.out hsm2.out W hW
          rw [hBV] at CV
          replace CV := hide CV
          clear hBS hBV LZ
          go_wp2_with fail
          rename_i K1 hK1
          have dr := (Below.refl wr.heap.size wr).drew
          obtain ⟨WD, hWD⟩ : ∃ W, wr.drew = W := ⟨_, rfl⟩
          rw [hWD] at dr
          replace LS := hide (LS.out.below dr)
          replace LM := hide (LM.out.below dr)
          replace XB := hide (XB.out.below dr)
          replace HR := hide (HR.out.below dr)
          replace LR := hide (LR.out.below dr)
          replace RO := hide (RO.out.below dr)
          replace Xa := hide (Xa.out.below dr)
          replace Xb := hide (Xb.out.below dr)
          replace B := hide (B.out.trans (dr.mono B.out.size))
          replace BW0 := hide (BW0.out.trans (dr.mono BW0.out.size))
          clear dr
          have LXd : Hid (∀ w', Below WD.heap.size WD w' → (Instr.loadAt 28 (.pointer (some ⟨g, i * 3, none⟩))).run Tryd.prog w' = .ok (.agg #[.int .i64 (p), .int .u64 (q)]) w') := fun w' hb => LX.out _ (BW0.out.trans (hb.mono BW0.out.size))
          have ZI : Hid (∀ w', Below WD.heap.size WD w' → w'.cell? ⟨rg, ro + k * 5, none⟩ = some (.int .i64 z.id)) := fun w' hb => by rw [← hz]; exact (RO.out.below hb).cid k hkR
          have CBl := hide (fun W' (hb : Below WD.heap.size WD W') => CS.out W' (LS.out.below hb))
          have BC0 : Hid (Below WD.heap.size WD WD) := Below.refl _ _
          refine cutT (K := K1) (F := (fun gA gB W => Hid (Below WD.heap.size WD W) ∧ Hid (IsB W gA #[.int .i64 s0, .int .i64 s1, .int .u64 s2, .int .i64 s3, .int .u64 s4] 30) ∧ Hid (IsB W gB #[.int .i64 t0, .int .i64 t1, .int .u64 t2, .int .i64 t3, .int .u64 t4] 30))) ?T16 ?tail16 (fun TAIL => ?main16)
          case main16 =>
            refine regionL 22 (fun w' => (Instr.loadAt 28 (.pointer (some ⟨g, i * 3, none⟩))).run Tryd.prog w' = .ok (.agg #[.int .i64 (p), .int .u64 (q)]) w' ∧ w'.cell? ⟨rg, ro + k * 5, none⟩ = some (.int .i64 z.id)) mixed (by rw [hWD]; exact ⟨LXd.out _ BC0.out, ZI.out _ BC0.out⟩) (fun hHeld => ?_)
            rw [hWD] at hHeld ⊢
            refine pickA (v := ?_) 0 (some 85) rfl rfl (by kernel_rfl) (by kernel_rfl) (by kernel_rfl) (by decide) (fun _ _ _ h => h) (by rfl) ?_ (by assumption) ?_
            rotate_left
            · intro w'
              go_simp
              try with_reducible rfl
            try simp only [Act.put, List.setIfInBounds_toArray, List.set_cons_zero, List.set_cons_succ]
            refine pickA (v := ?_) 1 (some 86) rfl rfl (by kernel_rfl) (by kernel_rfl) (by kernel_rfl) (by decide) (fun _ _ _ h => h) (by rfl) ?_ (by assumption) ?_
            rotate_left
            · intro w'
              go_simp
              try with_reducible rfl
            try simp only [Act.put, List.setIfInBounds_toArray, List.set_cons_zero, List.set_cons_succ]
            refine pickA (v := ?_) 2 (some 87) rfl rfl (by kernel_rfl) (by kernel_rfl) (by kernel_rfl) (by decide) (fun _ _ _ h => h) (by rfl) ?_ (by assumption) ?_
            rotate_left
            · intro w'
              go_simp
              try with_reducible rfl
            try simp only [Act.put, List.setIfInBounds_toArray, List.set_cons_zero, List.set_cons_succ]
            refine pickA (v := ?_) 3 (some 88) rfl rfl (by kernel_rfl) (by kernel_rfl) (by kernel_rfl) (by decide) (fun _ _ _ h => h) (by rfl) ?_ (by assumption) ?_
            rotate_left
            · intro w'
              go_simp
              try with_reducible rfl
            try simp only [Act.put, List.setIfInBounds_toArray, List.set_cons_zero, List.set_cons_succ]
            refine pickA (v := ?_) 4 (some 89) rfl rfl (by kernel_rfl) (by kernel_rfl) (by kernel_rfl) (by decide) (fun _ _ _ h => h) (by rfl) ?_ (by assumption) ?_
            rotate_left
            · intro w'
              go_simp
              try with_reducible rfl
            try simp only [Act.put, List.setIfInBounds_toArray, List.set_cons_zero, List.set_cons_succ]
            refine pickL (v := (.agg #[.int .i64 (p), .int .u64 (q)])) 5 (some 90) rfl rfl (by kernel_rfl) (by kernel_rfl) (by kernel_rfl) (by decide) (by kernel_rfl) (by kernel_rfl) (fun _ _ _ h => h) (by rfl) ?_ (by assumption) ?_
            · intro w' hSw
              obtain ⟨q0, q1⟩ := hSw
              exact exec_load rfl rfl q0
            try simp only [Act.put, List.setIfInBounds_toArray, List.set_cons_zero, List.set_cons_succ]
            refine pickA (v := ?_) 6 (some 91) rfl rfl (by kernel_rfl) (by kernel_rfl) (by kernel_rfl) (by decide) (fun _ _ _ h => h) (by rfl) ?_ (by assumption) ?_
            rotate_left
            · intro w'
              go_simp
              try with_reducible rfl
            try simp only [Act.put, List.setIfInBounds_toArray, List.set_cons_zero, List.set_cons_succ]
            refine pickA (v := ?_) 7 (some 92) rfl rfl (by kernel_rfl) (by kernel_rfl) (by kernel_rfl) (by decide) (fun _ _ _ h => h) (by rfl) ?_ (by assumption) ?_
            rotate_left
            · intro w'
              go_simp
              try with_reducible rfl
            try simp only [Act.put, List.setIfInBounds_toArray, List.set_cons_zero, List.set_cons_succ]
            refine pickA (v := ?_) 8 (some 93) rfl rfl (by kernel_rfl) (by kernel_rfl) (by kernel_rfl) (by decide) (fun _ _ _ h => h) (by rfl) ?_ (by assumption) ?_
            rotate_left
            · intro w'
              go_simp
              try with_reducible rfl
            try simp only [Act.put, List.setIfInBounds_toArray, List.set_cons_zero, List.set_cons_succ]
            refine pickA (v := ?_) 9 (some 94) rfl rfl (by kernel_rfl) (by kernel_rfl) (by kernel_rfl) (by decide) (fun _ _ _ h => h) (by rfl) ?_ (by assumption) ?_
            rotate_left
            · intro w'
              go_simp
              try with_reducible rfl
            try simp only [Act.put, List.setIfInBounds_toArray, List.set_cons_zero, List.set_cons_succ]
            refine pickL (v := .int .i64 z.id) 10 (some 95) rfl rfl (by kernel_rfl) (by kernel_rfl) (by kernel_rfl) (by decide) (by kernel_rfl) (by kernel_rfl) (fun _ _ _ h => h) (by rfl) ?_ (by assumption) ?_
            · intro w' hSw
              obtain ⟨q0, q1⟩ := hSw
              go_simp
              try rfl
            try simp only [Act.put, List.setIfInBounds_toArray, List.set_cons_zero, List.set_cons_succ]
            refine pickA (v := ?_) 11 (some 96) rfl rfl (by kernel_rfl) (by kernel_rfl) (by kernel_rfl) (by decide) (fun _ _ _ h => h) (by rfl) ?_ (by assumption) ?_
            rotate_left
            · intro w'
              go_simp
              try with_reducible rfl
            try simp only [Act.put, List.setIfInBounds_toArray, List.set_cons_zero, List.set_cons_succ]
            refine manyL (L := [12, 17, 18]) (by kernel_rfl) (by decide) (fun i hi => ?_)
            simp only [List.mem_cons, List.not_mem_nil, or_false] at hi
            rcases hi with rfl | rfl | rfl
            · refine ⟨_, rfl, fun K hK => ?_⟩
              go_simp
              refine (CBl.out WD BC0.out).mono ?_
              rintro e wc ⟨rfl, hb⟩
              have BC1 := hide (BC0.out.trans (hb.mono BC0.out.size))
              clear hb
              refine hK.out _ _ ?_ ?_
              · exact ⟨LXd.out _ BC1.out, ZI.out _ BC1.out⟩
              clear hK K
              try simp only [Act.put, List.setIfInBounds_toArray, List.set_cons_zero, List.set_cons_succ]
              clear hHeld
              have hHeld : (fun w' => (Instr.loadAt 28 (.pointer (some ⟨g, i * 3, none⟩))).run Tryd.prog w' = .ok (.agg #[.int .i64 (p), .int .u64 (q)]) w' ∧ w'.cell? ⟨rg, ro + k * 5, none⟩ = some (.int .i64 z.id)) wc := ⟨LXd.out _ BC1.out, ZI.out _ BC1.out⟩
              refine pickA (v := ?_) 13 (some 84) rfl rfl (by kernel_rfl) (by kernel_rfl) (by kernel_rfl) (by decide) (fun _ _ _ h => h) (by rfl) ?_ (by assumption) ?_
              rotate_left
              · intro w'
                go_simp
                try with_reducible rfl
              try simp only [Act.put, List.setIfInBounds_toArray, List.set_cons_zero, List.set_cons_succ]
              refine pickA (v := ?_) 14 (some 98) rfl rfl (by kernel_rfl) (by kernel_rfl) (by kernel_rfl) (by decide) (fun _ _ _ h => h) (by rfl) ?_ (by assumption) ?_
              rotate_left
              · intro w'
                go_simp
                try with_reducible rfl
              try simp only [Act.put, List.setIfInBounds_toArray, List.set_cons_zero, List.set_cons_succ]
              refine pickA (v := ?_) 15 (some 99) rfl rfl (by kernel_rfl) (by kernel_rfl) (by kernel_rfl) (by decide) (fun _ _ _ h => h) (by rfl) ?_ (by assumption) ?_
              rotate_left
              · intro w'
                go_simp
                try with_reducible rfl
              try simp only [Act.put, List.setIfInBounds_toArray, List.set_cons_zero, List.set_cons_succ]
              refine pickA (v := ?_) 16 (some 100) rfl rfl (by kernel_rfl) (by kernel_rfl) (by kernel_rfl) (by decide) (fun _ _ _ h => h) (by rfl) ?_ (by assumption) ?_
              rotate_left
              · intro w'
                go_simp
                try with_reducible rfl
              try simp only [Act.put, List.setIfInBounds_toArray, List.set_cons_zero, List.set_cons_succ]
              refine manyL (L := [17, 18]) (by kernel_rfl) (by decide) (fun i hi => ?_)
              simp only [List.mem_cons, List.not_mem_nil, or_false] at hi
              rcases hi with rfl | rfl
              · refine ⟨_, rfl, fun K hK => ?_⟩
                go_simp
                have b0 := gb1 wc (.cells #[.int .i64 0, .int .i64 0, .int .u64 0, .int .i64 0, .int .u64 0] 30)
                have hA := hide (IsB.new wc #[.int .i64 0, .int .i64 0, .int .u64 0, .int .i64 0, .int .u64 0] 30)
                have BC2 := hide (BC1.out.trans (b0.mono BC1.out.size))
                obtain ⟨gA, hgA⟩ : ∃ z, wc.heap.size = z := ⟨_, rfl⟩
                have hbA : WD.heap.size ≤ gA := by rw [← hgA]; exact BC1.out.size
                rw [hgA] at hA ⊢
                clear b0
                generalize wc.alloc (.cells #[.int .i64 0, .int .i64 0, .int .u64 0, .int .i64 0, .int .u64 0] 30) = wA at *
                refine hK.out _ _ ?_ ?_
                · exact ⟨LXd.out _ BC2.out, ZI.out _ BC2.out⟩
                clear hK K
                try simp only [Act.put, List.setIfInBounds_toArray, List.set_cons_zero, List.set_cons_succ]
                clear hHeld
                have hHeld : (fun w' => (Instr.loadAt 28 (.pointer (some ⟨g, i * 3, none⟩))).run Tryd.prog w' = .ok (.agg #[.int .i64 (p), .int .u64 (q)]) w' ∧ w'.cell? ⟨rg, ro + k * 5, none⟩ = some (.int .i64 z.id)) wA := ⟨LXd.out _ BC2.out, ZI.out _ BC2.out⟩
                refine oneL (i := 18) (by kernel_rfl) rfl (fun K hK => ?_)
                go_simp
                have b0 := gb1 wA (.cells #[.int .i64 0, .int .i64 0, .int .u64 0, .int .i64 0, .int .u64 0] 30)
                have hB := hide (IsB.new wA #[.int .i64 0, .int .i64 0, .int .u64 0, .int .i64 0, .int .u64 0] 30)
                have BC3 := hide (BC2.out.trans (b0.mono BC2.out.size))
                obtain ⟨gB, hgB⟩ : ∃ z, wA.heap.size = z := ⟨_, rfl⟩
                have hbB : WD.heap.size ≤ gB := by rw [← hgB]; exact BC2.out.size
                have hne : gA ≠ gB := by have := hA.out.lt; omega
                replace hA := hide (hA.out.below b0)
                rw [hgB] at hB ⊢
                clear b0
                generalize wA.alloc (.cells #[.int .i64 0, .int .i64 0, .int .u64 0, .int .i64 0, .int .u64 0] 30) = wB at *
                refine hK.out _ _ ?_ ?_
                · exact ⟨LXd.out _ BC3.out, ZI.out _ BC3.out⟩
                clear hK K
                try simp only [Act.put, List.setIfInBounds_toArray, List.set_cons_zero, List.set_cons_succ]
                clear hHeld
                have hHeld : (fun w' => (Instr.loadAt 28 (.pointer (some ⟨g, i * 3, none⟩))).run Tryd.prog w' = .ok (.agg #[.int .i64 (p), .int .u64 (q)]) w' ∧ w'.cell? ⟨rg, ro + k * 5, none⟩ = some (.int .i64 z.id)) wB := ⟨LXd.out _ BC3.out, ZI.out _ BC3.out⟩
                refine oneL (i := 19) (by kernel_rfl) rfl (fun K hK => ?_)
                obtain ⟨wS, hst, hn, hk⟩ := st_ref (x := zr) hA.out (⟨s0, s1, s2, s3, s4⟩ : Rf)
                have BC4 := hide (BC3.out.trans (hk.to_below BC3.out.size (by simp; omega)))
                replace hB := hide (hB.out.kp hk (by simp; omega))
                replace hA := hide hn
                have HS := hide hst
                clear hst hk hn
                refine step_store_w rfl 30 (.tmp 16) (.tmp 98) rfl rfl rfl HS.out ?_
                refine hK.out _ _ ?_ ?_
                · exact ⟨LXd.out _ BC4.out, ZI.out _ BC4.out⟩
                clear hK K
                try simp only [Act.put, List.setIfInBounds_toArray]
                clear hHeld
                have hHeld : (fun w' => (Instr.loadAt 28 (.pointer (some ⟨g, i * 3, none⟩))).run Tryd.prog w' = .ok (.agg #[.int .i64 (p), .int .u64 (q)]) w' ∧ w'.cell? ⟨rg, ro + k * 5, none⟩ = some (.int .i64 z.id)) wS := ⟨LXd.out _ BC4.out, ZI.out _ BC4.out⟩
                refine oneL (i := 20) (by kernel_rfl) rfl (fun K hK => ?_)
                obtain ⟨wT, hst, hn, hk⟩ := st_ref (x := zr) hB.out (⟨t0, t1, t2, t3, t4⟩ : Rf)
                have BC5 := hide (BC4.out.trans (hk.to_below BC4.out.size (by simp; omega)))
                replace hA := hide (hA.out.kp hk (by simp; omega))
                replace hB := hide hn
                have HS := hide hst
                clear hst hk hn
                refine step_store_w rfl 30 (.tmp 17) (.tmp 99) rfl rfl rfl HS.out ?_
                refine hK.out _ _ ?_ ?_
                · exact ⟨LXd.out _ BC5.out, ZI.out _ BC5.out⟩
                clear hK K
                try simp only [Act.put]
                clear hHeld
                have hHeld : (fun w' => (Instr.loadAt 28 (.pointer (some ⟨g, i * 3, none⟩))).run Tryd.prog w' = .ok (.agg #[.int .i64 (p), .int .u64 (q)]) w' ∧ w'.cell? ⟨rg, ro + k * 5, none⟩ = some (.int .i64 z.id)) wT := ⟨LXd.out _ BC5.out, ZI.out _ BC5.out⟩
                refine pickA (v := ?_) 21 (some 18) rfl rfl (by kernel_rfl) (by kernel_rfl) (by kernel_rfl) (by decide) (fun _ _ _ h => h) (by rfl) ?_ (by assumption) ?_
                rotate_left
                · intro w'
                  go_simp
                  try with_reducible rfl
                try simp only [Act.put]
                refine doneL (by kernel_rfl) ?_ _
                clear hHeld
                show K1 _ _
                go_simp
                exact TAIL gA gB wT (⟨BC5, hA, hB⟩)
              · refine ⟨_, rfl, fun K hK => ?_⟩
                go_simp
                have b0 := gb1 wc (.cells #[.int .i64 0, .int .i64 0, .int .u64 0, .int .i64 0, .int .u64 0] 30)
                have hB := hide (IsB.new wc #[.int .i64 0, .int .i64 0, .int .u64 0, .int .i64 0, .int .u64 0] 30)
                have BC2 := hide (BC1.out.trans (b0.mono BC1.out.size))
                obtain ⟨gB, hgB⟩ : ∃ z, wc.heap.size = z := ⟨_, rfl⟩
                have hbB : WD.heap.size ≤ gB := by rw [← hgB]; exact BC1.out.size
                rw [hgB] at hB ⊢
                clear b0
                generalize wc.alloc (.cells #[.int .i64 0, .int .i64 0, .int .u64 0, .int .i64 0, .int .u64 0] 30) = wB at *
                refine hK.out _ _ ?_ ?_
                · exact ⟨LXd.out _ BC2.out, ZI.out _ BC2.out⟩
                clear hK K
                try simp only [Act.put, List.setIfInBounds_toArray, List.set_cons_zero, List.set_cons_succ]
                clear hHeld
                have hHeld : (fun w' => (Instr.loadAt 28 (.pointer (some ⟨g, i * 3, none⟩))).run Tryd.prog w' = .ok (.agg #[.int .i64 (p), .int .u64 (q)]) w' ∧ w'.cell? ⟨rg, ro + k * 5, none⟩ = some (.int .i64 z.id)) wB := ⟨LXd.out _ BC2.out, ZI.out _ BC2.out⟩
                refine oneL (i := 17) (by kernel_rfl) rfl (fun K hK => ?_)
                go_simp
                have b0 := gb1 wB (.cells #[.int .i64 0, .int .i64 0, .int .u64 0, .int .i64 0, .int .u64 0] 30)
                have hA := hide (IsB.new wB #[.int .i64 0, .int .i64 0, .int .u64 0, .int .i64 0, .int .u64 0] 30)
                have BC3 := hide (BC2.out.trans (b0.mono BC2.out.size))
                obtain ⟨gA, hgA⟩ : ∃ z, wB.heap.size = z := ⟨_, rfl⟩
                have hbA : WD.heap.size ≤ gA := by rw [← hgA]; exact BC2.out.size
                have hne : gA ≠ gB := by have := hB.out.lt; omega
                replace hB := hide (hB.out.below b0)
                rw [hgA] at hA ⊢
                clear b0
                generalize wB.alloc (.cells #[.int .i64 0, .int .i64 0, .int .u64 0, .int .i64 0, .int .u64 0] 30) = wA at *
                refine hK.out _ _ ?_ ?_
                · exact ⟨LXd.out _ BC3.out, ZI.out _ BC3.out⟩
                clear hK K
                try simp only [Act.put, List.setIfInBounds_toArray, List.set_cons_zero, List.set_cons_succ]
                clear hHeld
                have hHeld : (fun w' => (Instr.loadAt 28 (.pointer (some ⟨g, i * 3, none⟩))).run Tryd.prog w' = .ok (.agg #[.int .i64 (p), .int .u64 (q)]) w' ∧ w'.cell? ⟨rg, ro + k * 5, none⟩ = some (.int .i64 z.id)) wA := ⟨LXd.out _ BC3.out, ZI.out _ BC3.out⟩
                refine oneL (i := 19) (by kernel_rfl) rfl (fun K hK => ?_)
                obtain ⟨wS, hst, hn, hk⟩ := st_ref (x := zr) hA.out (⟨s0, s1, s2, s3, s4⟩ : Rf)
                have BC4 := hide (BC3.out.trans (hk.to_below BC3.out.size (by simp; omega)))
                replace hB := hide (hB.out.kp hk (by simp; omega))
                replace hA := hide hn
                have HS := hide hst
                clear hst hk hn
                refine step_store_w rfl 30 (.tmp 16) (.tmp 98) rfl rfl rfl HS.out ?_
                refine hK.out _ _ ?_ ?_
                · exact ⟨LXd.out _ BC4.out, ZI.out _ BC4.out⟩
                clear hK K
                try simp only [Act.put, List.setIfInBounds_toArray]
                clear hHeld
                have hHeld : (fun w' => (Instr.loadAt 28 (.pointer (some ⟨g, i * 3, none⟩))).run Tryd.prog w' = .ok (.agg #[.int .i64 (p), .int .u64 (q)]) w' ∧ w'.cell? ⟨rg, ro + k * 5, none⟩ = some (.int .i64 z.id)) wS := ⟨LXd.out _ BC4.out, ZI.out _ BC4.out⟩
                refine oneL (i := 20) (by kernel_rfl) rfl (fun K hK => ?_)
                obtain ⟨wT, hst, hn, hk⟩ := st_ref (x := zr) hB.out (⟨t0, t1, t2, t3, t4⟩ : Rf)
                have BC5 := hide (BC4.out.trans (hk.to_below BC4.out.size (by simp; omega)))
                replace hA := hide (hA.out.kp hk (by simp; omega))
                replace hB := hide hn
                have HS := hide hst
                clear hst hk hn
                refine step_store_w rfl 30 (.tmp 17) (.tmp 99) rfl rfl rfl HS.out ?_
                refine hK.out _ _ ?_ ?_
                · exact ⟨LXd.out _ BC5.out, ZI.out _ BC5.out⟩
                clear hK K
                try simp only [Act.put]
                clear hHeld
                have hHeld : (fun w' => (Instr.loadAt 28 (.pointer (some ⟨g, i * 3, none⟩))).run Tryd.prog w' = .ok (.agg #[.int .i64 (p), .int .u64 (q)]) w' ∧ w'.cell? ⟨rg, ro + k * 5, none⟩ = some (.int .i64 z.id)) wT := ⟨LXd.out _ BC5.out, ZI.out _ BC5.out⟩
                refine pickA (v := ?_) 21 (some 18) rfl rfl (by kernel_rfl) (by kernel_rfl) (by kernel_rfl) (by decide) (fun _ _ _ h => h) (by rfl) ?_ (by assumption) ?_
                rotate_left
                · intro w'
                  go_simp
                  try with_reducible rfl
                try simp only [Act.put]
                refine doneL (by kernel_rfl) ?_ _
                clear hHeld
                show K1 _ _
                go_simp
                exact TAIL gA gB wT (⟨BC5, hA, hB⟩)
            · refine ⟨_, rfl, fun K hK => ?_⟩
              go_simp
              have b0 := gb1 WD (.cells #[.int .i64 0, .int .i64 0, .int .u64 0, .int .i64 0, .int .u64 0] 30)
              have hA := hide (IsB.new WD #[.int .i64 0, .int .i64 0, .int .u64 0, .int .i64 0, .int .u64 0] 30)
              have BC1 := hide (BC0.out.trans (b0.mono BC0.out.size))
              obtain ⟨gA, hgA⟩ : ∃ z, WD.heap.size = z := ⟨_, rfl⟩
              have hbA : WD.heap.size ≤ gA := by rw [← hgA]; exact BC0.out.size
              rw [hgA] at hA ⊢
              clear b0
              generalize WD.alloc (.cells #[.int .i64 0, .int .i64 0, .int .u64 0, .int .i64 0, .int .u64 0] 30) = wA at *
              refine hK.out _ _ ?_ ?_
              · exact ⟨LXd.out _ BC1.out, ZI.out _ BC1.out⟩
              clear hK K
              try simp only [Act.put, List.setIfInBounds_toArray, List.set_cons_zero, List.set_cons_succ]
              clear hHeld
              have hHeld : (fun w' => (Instr.loadAt 28 (.pointer (some ⟨g, i * 3, none⟩))).run Tryd.prog w' = .ok (.agg #[.int .i64 (p), .int .u64 (q)]) w' ∧ w'.cell? ⟨rg, ro + k * 5, none⟩ = some (.int .i64 z.id)) wA := ⟨LXd.out _ BC1.out, ZI.out _ BC1.out⟩
              refine manyL (L := [12, 18]) (by kernel_rfl) (by decide) (fun i hi => ?_)
              simp only [List.mem_cons, List.not_mem_nil, or_false] at hi
              rcases hi with rfl | rfl
              · refine ⟨_, rfl, fun K hK => ?_⟩
                go_simp
                refine (CBl.out wA BC1.out).mono ?_
                rintro e wc ⟨rfl, hb⟩
                have BC2 := hide (BC1.out.trans (hb.mono BC1.out.size))
                replace hA := hide (hA.out.below hb)
                clear hb
                refine hK.out _ _ ?_ ?_
                · exact ⟨LXd.out _ BC2.out, ZI.out _ BC2.out⟩
                clear hK K
                try simp only [Act.put, List.setIfInBounds_toArray, List.set_cons_zero, List.set_cons_succ]
                clear hHeld
                have hHeld : (fun w' => (Instr.loadAt 28 (.pointer (some ⟨g, i * 3, none⟩))).run Tryd.prog w' = .ok (.agg #[.int .i64 (p), .int .u64 (q)]) w' ∧ w'.cell? ⟨rg, ro + k * 5, none⟩ = some (.int .i64 z.id)) wc := ⟨LXd.out _ BC2.out, ZI.out _ BC2.out⟩
                refine pickA (v := ?_) 13 (some 84) rfl rfl (by kernel_rfl) (by kernel_rfl) (by kernel_rfl) (by decide) (fun _ _ _ h => h) (by rfl) ?_ (by assumption) ?_
                rotate_left
                · intro w'
                  go_simp
                  try with_reducible rfl
                try simp only [Act.put, List.setIfInBounds_toArray, List.set_cons_zero, List.set_cons_succ]
                refine pickA (v := ?_) 14 (some 98) rfl rfl (by kernel_rfl) (by kernel_rfl) (by kernel_rfl) (by decide) (fun _ _ _ h => h) (by rfl) ?_ (by assumption) ?_
                rotate_left
                · intro w'
                  go_simp
                  try with_reducible rfl
                try simp only [Act.put, List.setIfInBounds_toArray, List.set_cons_zero, List.set_cons_succ]
                refine pickA (v := ?_) 15 (some 99) rfl rfl (by kernel_rfl) (by kernel_rfl) (by kernel_rfl) (by decide) (fun _ _ _ h => h) (by rfl) ?_ (by assumption) ?_
                rotate_left
                · intro w'
                  go_simp
                  try with_reducible rfl
                try simp only [Act.put, List.setIfInBounds_toArray, List.set_cons_zero, List.set_cons_succ]
                refine pickA (v := ?_) 16 (some 100) rfl rfl (by kernel_rfl) (by kernel_rfl) (by kernel_rfl) (by decide) (fun _ _ _ h => h) (by rfl) ?_ (by assumption) ?_
                rotate_left
                · intro w'
                  go_simp
                  try with_reducible rfl
                try simp only [Act.put, List.setIfInBounds_toArray, List.set_cons_zero, List.set_cons_succ]
                refine oneL (i := 18) (by kernel_rfl) rfl (fun K hK => ?_)
                go_simp
                have b0 := gb1 wc (.cells #[.int .i64 0, .int .i64 0, .int .u64 0, .int .i64 0, .int .u64 0] 30)
                have hB := hide (IsB.new wc #[.int .i64 0, .int .i64 0, .int .u64 0, .int .i64 0, .int .u64 0] 30)
                have BC3 := hide (BC2.out.trans (b0.mono BC2.out.size))
                obtain ⟨gB, hgB⟩ : ∃ z, wc.heap.size = z := ⟨_, rfl⟩
                have hbB : WD.heap.size ≤ gB := by rw [← hgB]; exact BC2.out.size
                have hne : gA ≠ gB := by have := hA.out.lt; omega
                replace hA := hide (hA.out.below b0)
                rw [hgB] at hB ⊢
                clear b0
                generalize wc.alloc (.cells #[.int .i64 0, .int .i64 0, .int .u64 0, .int .i64 0, .int .u64 0] 30) = wB at *
                refine hK.out _ _ ?_ ?_
                · exact ⟨LXd.out _ BC3.out, ZI.out _ BC3.out⟩
                clear hK K
                try simp only [Act.put, List.setIfInBounds_toArray, List.set_cons_zero, List.set_cons_succ]
                clear hHeld
                have hHeld : (fun w' => (Instr.loadAt 28 (.pointer (some ⟨g, i * 3, none⟩))).run Tryd.prog w' = .ok (.agg #[.int .i64 (p), .int .u64 (q)]) w' ∧ w'.cell? ⟨rg, ro + k * 5, none⟩ = some (.int .i64 z.id)) wB := ⟨LXd.out _ BC3.out, ZI.out _ BC3.out⟩
                refine oneL (i := 19) (by kernel_rfl) rfl (fun K hK => ?_)
                obtain ⟨wS, hst, hn, hk⟩ := st_ref (x := zr) hA.out (⟨s0, s1, s2, s3, s4⟩ : Rf)
                have BC4 := hide (BC3.out.trans (hk.to_below BC3.out.size (by simp; omega)))
                replace hB := hide (hB.out.kp hk (by simp; omega))
                replace hA := hide hn
                have HS := hide hst
                clear hst hk hn
                refine step_store_w rfl 30 (.tmp 16) (.tmp 98) rfl rfl rfl HS.out ?_
                refine hK.out _ _ ?_ ?_
                · exact ⟨LXd.out _ BC4.out, ZI.out _ BC4.out⟩
                clear hK K
                try simp only [Act.put, List.setIfInBounds_toArray]
                clear hHeld
                have hHeld : (fun w' => (Instr.loadAt 28 (.pointer (some ⟨g, i * 3, none⟩))).run Tryd.prog w' = .ok (.agg #[.int .i64 (p), .int .u64 (q)]) w' ∧ w'.cell? ⟨rg, ro + k * 5, none⟩ = some (.int .i64 z.id)) wS := ⟨LXd.out _ BC4.out, ZI.out _ BC4.out⟩
                refine oneL (i := 20) (by kernel_rfl) rfl (fun K hK => ?_)
                obtain ⟨wT, hst, hn, hk⟩ := st_ref (x := zr) hB.out (⟨t0, t1, t2, t3, t4⟩ : Rf)
                have BC5 := hide (BC4.out.trans (hk.to_below BC4.out.size (by simp; omega)))
                replace hA := hide (hA.out.kp hk (by simp; omega))
                replace hB := hide hn
                have HS := hide hst
                clear hst hk hn
                refine step_store_w rfl 30 (.tmp 17) (.tmp 99) rfl rfl rfl HS.out ?_
                refine hK.out _ _ ?_ ?_
                · exact ⟨LXd.out _ BC5.out, ZI.out _ BC5.out⟩
                clear hK K
                try simp only [Act.put]
                clear hHeld
                have hHeld : (fun w' => (Instr.loadAt 28 (.pointer (some ⟨g, i * 3, none⟩))).run Tryd.prog w' = .ok (.agg #[.int .i64 (p), .int .u64 (q)]) w' ∧ w'.cell? ⟨rg, ro + k * 5, none⟩ = some (.int .i64 z.id)) wT := ⟨LXd.out _ BC5.out, ZI.out _ BC5.out⟩
                refine pickA (v := ?_) 21 (some 18) rfl rfl (by kernel_rfl) (by kernel_rfl) (by kernel_rfl) (by decide) (fun _ _ _ h => h) (by rfl) ?_ (by assumption) ?_
                rotate_left
                · intro w'
                  go_simp
                  try with_reducible rfl
                try simp only [Act.put]
                refine doneL (by kernel_rfl) ?_ _
                clear hHeld
                show K1 _ _
                go_simp
                exact TAIL gA gB wT (⟨BC5, hA, hB⟩)
              · refine ⟨_, rfl, fun K hK => ?_⟩
                go_simp
                have b0 := gb1 wA (.cells #[.int .i64 0, .int .i64 0, .int .u64 0, .int .i64 0, .int .u64 0] 30)
                have hB := hide (IsB.new wA #[.int .i64 0, .int .i64 0, .int .u64 0, .int .i64 0, .int .u64 0] 30)
                have BC2 := hide (BC1.out.trans (b0.mono BC1.out.size))
                obtain ⟨gB, hgB⟩ : ∃ z, wA.heap.size = z := ⟨_, rfl⟩
                have hbB : WD.heap.size ≤ gB := by rw [← hgB]; exact BC1.out.size
                have hne : gA ≠ gB := by have := hA.out.lt; omega
                replace hA := hide (hA.out.below b0)
                rw [hgB] at hB ⊢
                clear b0
                generalize wA.alloc (.cells #[.int .i64 0, .int .i64 0, .int .u64 0, .int .i64 0, .int .u64 0] 30) = wB at *
                refine hK.out _ _ ?_ ?_
                · exact ⟨LXd.out _ BC2.out, ZI.out _ BC2.out⟩
                clear hK K
                try simp only [Act.put, List.setIfInBounds_toArray, List.set_cons_zero, List.set_cons_succ]
                clear hHeld
                have hHeld : (fun w' => (Instr.loadAt 28 (.pointer (some ⟨g, i * 3, none⟩))).run Tryd.prog w' = .ok (.agg #[.int .i64 (p), .int .u64 (q)]) w' ∧ w'.cell? ⟨rg, ro + k * 5, none⟩ = some (.int .i64 z.id)) wB := ⟨LXd.out _ BC2.out, ZI.out _ BC2.out⟩
                refine oneL (i := 12) (by kernel_rfl) rfl (fun K hK => ?_)
                go_simp
                refine (CBl.out wB BC2.out).mono ?_
                rintro e wc ⟨rfl, hb⟩
                have BC3 := hide (BC2.out.trans (hb.mono BC2.out.size))
                replace hA := hide (hA.out.below hb)
                replace hB := hide (hB.out.below hb)
                clear hb
                refine hK.out _ _ ?_ ?_
                · exact ⟨LXd.out _ BC3.out, ZI.out _ BC3.out⟩
                clear hK K
                try simp only [Act.put, List.setIfInBounds_toArray, List.set_cons_zero, List.set_cons_succ]
                clear hHeld
                have hHeld : (fun w' => (Instr.loadAt 28 (.pointer (some ⟨g, i * 3, none⟩))).run Tryd.prog w' = .ok (.agg #[.int .i64 (p), .int .u64 (q)]) w' ∧ w'.cell? ⟨rg, ro + k * 5, none⟩ = some (.int .i64 z.id)) wc := ⟨LXd.out _ BC3.out, ZI.out _ BC3.out⟩
                refine pickA (v := ?_) 13 (some 84) rfl rfl (by kernel_rfl) (by kernel_rfl) (by kernel_rfl) (by decide) (fun _ _ _ h => h) (by rfl) ?_ (by assumption) ?_
                rotate_left
                · intro w'
                  go_simp
                  try with_reducible rfl
                try simp only [Act.put, List.setIfInBounds_toArray, List.set_cons_zero, List.set_cons_succ]
                refine pickA (v := ?_) 14 (some 98) rfl rfl (by kernel_rfl) (by kernel_rfl) (by kernel_rfl) (by decide) (fun _ _ _ h => h) (by rfl) ?_ (by assumption) ?_
                rotate_left
                · intro w'
                  go_simp
                  try with_reducible rfl
                try simp only [Act.put, List.setIfInBounds_toArray, List.set_cons_zero, List.set_cons_succ]
                refine pickA (v := ?_) 15 (some 99) rfl rfl (by kernel_rfl) (by kernel_rfl) (by kernel_rfl) (by decide) (fun _ _ _ h => h) (by rfl) ?_ (by assumption) ?_
                rotate_left
                · intro w'
                  go_simp
                  try with_reducible rfl
                try simp only [Act.put, List.setIfInBounds_toArray, List.set_cons_zero, List.set_cons_succ]
                refine pickA (v := ?_) 16 (some 100) rfl rfl (by kernel_rfl) (by kernel_rfl) (by kernel_rfl) (by decide) (fun _ _ _ h => h) (by rfl) ?_ (by assumption) ?_
                rotate_left
                · intro w'
                  go_simp
                  try with_reducible rfl
                try simp only [Act.put, List.setIfInBounds_toArray, List.set_cons_zero, List.set_cons_succ]
                refine oneL (i := 19) (by kernel_rfl) rfl (fun K hK => ?_)
                obtain ⟨wS, hst, hn, hk⟩ := st_ref (x := zr) hA.out (⟨s0, s1, s2, s3, s4⟩ : Rf)
                have BC4 := hide (BC3.out.trans (hk.to_below BC3.out.size (by simp; omega)))
                replace hB := hide (hB.out.kp hk (by simp; omega))
                replace hA := hide hn
                have HS := hide hst
                clear hst hk hn
                refine step_store_w rfl 30 (.tmp 16) (.tmp 98) rfl rfl rfl HS.out ?_
                refine hK.out _ _ ?_ ?_
                · exact ⟨LXd.out _ BC4.out, ZI.out _ BC4.out⟩
                clear hK K
                try simp only [Act.put, List.setIfInBounds_toArray]
                clear hHeld
                have hHeld : (fun w' => (Instr.loadAt 28 (.pointer (some ⟨g, i * 3, none⟩))).run Tryd.prog w' = .ok (.agg #[.int .i64 (p), .int .u64 (q)]) w' ∧ w'.cell? ⟨rg, ro + k * 5, none⟩ = some (.int .i64 z.id)) wS := ⟨LXd.out _ BC4.out, ZI.out _ BC4.out⟩
                refine oneL (i := 20) (by kernel_rfl) rfl (fun K hK => ?_)
                obtain ⟨wT, hst, hn, hk⟩ := st_ref (x := zr) hB.out (⟨t0, t1, t2, t3, t4⟩ : Rf)
                have BC5 := hide (BC4.out.trans (hk.to_below BC4.out.size (by simp; omega)))
                replace hA := hide (hA.out.kp hk (by simp; omega))
                replace hB := hide hn
                have HS := hide hst
                clear hst hk hn
                refine step_store_w rfl 30 (.tmp 17) (.tmp 99) rfl rfl rfl HS.out ?_
                refine hK.out _ _ ?_ ?_
                · exact ⟨LXd.out _ BC5.out, ZI.out _ BC5.out⟩
                clear hK K
                try simp only [Act.put]
                clear hHeld
                have hHeld : (fun w' => (Instr.loadAt 28 (.pointer (some ⟨g, i * 3, none⟩))).run Tryd.prog w' = .ok (.agg #[.int .i64 (p), .int .u64 (q)]) w' ∧ w'.cell? ⟨rg, ro + k * 5, none⟩ = some (.int .i64 z.id)) wT := ⟨LXd.out _ BC5.out, ZI.out _ BC5.out⟩
                refine pickA (v := ?_) 21 (some 18) rfl rfl (by kernel_rfl) (by kernel_rfl) (by kernel_rfl) (by decide) (fun _ _ _ h => h) (by rfl) ?_ (by assumption) ?_
                rotate_left
                · intro w'
                  go_simp
                  try with_reducible rfl
                try simp only [Act.put]
                refine doneL (by kernel_rfl) ?_ _
                clear hHeld
                show K1 _ _
                go_simp
                exact TAIL gA gB wT (⟨BC5, hA, hB⟩)
            · refine ⟨_, rfl, fun K hK => ?_⟩
              go_simp
              have b0 := gb1 WD (.cells #[.int .i64 0, .int .i64 0, .int .u64 0, .int .i64 0, .int .u64 0] 30)
              have hB := hide (IsB.new WD #[.int .i64 0, .int .i64 0, .int .u64 0, .int .i64 0, .int .u64 0] 30)
              have BC1 := hide (BC0.out.trans (b0.mono BC0.out.size))
              obtain ⟨gB, hgB⟩ : ∃ z, WD.heap.size = z := ⟨_, rfl⟩
              have hbB : WD.heap.size ≤ gB := by rw [← hgB]; exact BC0.out.size
              rw [hgB] at hB ⊢
              clear b0
              generalize WD.alloc (.cells #[.int .i64 0, .int .i64 0, .int .u64 0, .int .i64 0, .int .u64 0] 30) = wB at *
              refine hK.out _ _ ?_ ?_
              · exact ⟨LXd.out _ BC1.out, ZI.out _ BC1.out⟩
              clear hK K
              try simp only [Act.put, List.setIfInBounds_toArray, List.set_cons_zero, List.set_cons_succ]
              clear hHeld
              have hHeld : (fun w' => (Instr.loadAt 28 (.pointer (some ⟨g, i * 3, none⟩))).run Tryd.prog w' = .ok (.agg #[.int .i64 (p), .int .u64 (q)]) w' ∧ w'.cell? ⟨rg, ro + k * 5, none⟩ = some (.int .i64 z.id)) wB := ⟨LXd.out _ BC1.out, ZI.out _ BC1.out⟩
              refine manyL (L := [12, 17]) (by kernel_rfl) (by decide) (fun i hi => ?_)
              simp only [List.mem_cons, List.not_mem_nil, or_false] at hi
              rcases hi with rfl | rfl
              · refine ⟨_, rfl, fun K hK => ?_⟩
                go_simp
                refine (CBl.out wB BC1.out).mono ?_
                rintro e wc ⟨rfl, hb⟩
                have BC2 := hide (BC1.out.trans (hb.mono BC1.out.size))
                replace hB := hide (hB.out.below hb)
                clear hb
                refine hK.out _ _ ?_ ?_
                · exact ⟨LXd.out _ BC2.out, ZI.out _ BC2.out⟩
                clear hK K
                try simp only [Act.put, List.setIfInBounds_toArray, List.set_cons_zero, List.set_cons_succ]
                clear hHeld
                have hHeld : (fun w' => (Instr.loadAt 28 (.pointer (some ⟨g, i * 3, none⟩))).run Tryd.prog w' = .ok (.agg #[.int .i64 (p), .int .u64 (q)]) w' ∧ w'.cell? ⟨rg, ro + k * 5, none⟩ = some (.int .i64 z.id)) wc := ⟨LXd.out _ BC2.out, ZI.out _ BC2.out⟩
                refine pickA (v := ?_) 13 (some 84) rfl rfl (by kernel_rfl) (by kernel_rfl) (by kernel_rfl) (by decide) (fun _ _ _ h => h) (by rfl) ?_ (by assumption) ?_
                rotate_left
                · intro w'
                  go_simp
                  try with_reducible rfl
                try simp only [Act.put, List.setIfInBounds_toArray, List.set_cons_zero, List.set_cons_succ]
                refine pickA (v := ?_) 14 (some 98) rfl rfl (by kernel_rfl) (by kernel_rfl) (by kernel_rfl) (by decide) (fun _ _ _ h => h) (by rfl) ?_ (by assumption) ?_
                rotate_left
                · intro w'
                  go_simp
                  try with_reducible rfl
                try simp only [Act.put, List.setIfInBounds_toArray, List.set_cons_zero, List.set_cons_succ]
                refine pickA (v := ?_) 15 (some 99) rfl rfl (by kernel_rfl) (by kernel_rfl) (by kernel_rfl) (by decide) (fun _ _ _ h => h) (by rfl) ?_ (by assumption) ?_
                rotate_left
                · intro w'
                  go_simp
                  try with_reducible rfl
                try simp only [Act.put, List.setIfInBounds_toArray, List.set_cons_zero, List.set_cons_succ]
                refine pickA (v := ?_) 16 (some 100) rfl rfl (by kernel_rfl) (by kernel_rfl) (by kernel_rfl) (by decide) (fun _ _ _ h => h) (by rfl) ?_ (by assumption) ?_
                rotate_left
                · intro w'
                  go_simp
                  try with_reducible rfl
                try simp only [Act.put, List.setIfInBounds_toArray, List.set_cons_zero, List.set_cons_succ]
                refine oneL (i := 17) (by kernel_rfl) rfl (fun K hK => ?_)
                go_simp
                have b0 := gb1 wc (.cells #[.int .i64 0, .int .i64 0, .int .u64 0, .int .i64 0, .int .u64 0] 30)
                have hA := hide (IsB.new wc #[.int .i64 0, .int .i64 0, .int .u64 0, .int .i64 0, .int .u64 0] 30)
                have BC3 := hide (BC2.out.trans (b0.mono BC2.out.size))
                obtain ⟨gA, hgA⟩ : ∃ z, wc.heap.size = z := ⟨_, rfl⟩
                have hbA : WD.heap.size ≤ gA := by rw [← hgA]; exact BC2.out.size
                have hne : gA ≠ gB := by have := hB.out.lt; omega
                replace hB := hide (hB.out.below b0)
                rw [hgA] at hA ⊢
                clear b0
                generalize wc.alloc (.cells #[.int .i64 0, .int .i64 0, .int .u64 0, .int .i64 0, .int .u64 0] 30) = wA at *
                refine hK.out _ _ ?_ ?_
                · exact ⟨LXd.out _ BC3.out, ZI.out _ BC3.out⟩
                clear hK K
                try simp only [Act.put, List.setIfInBounds_toArray, List.set_cons_zero, List.set_cons_succ]
                clear hHeld
                have hHeld : (fun w' => (Instr.loadAt 28 (.pointer (some ⟨g, i * 3, none⟩))).run Tryd.prog w' = .ok (.agg #[.int .i64 (p), .int .u64 (q)]) w' ∧ w'.cell? ⟨rg, ro + k * 5, none⟩ = some (.int .i64 z.id)) wA := ⟨LXd.out _ BC3.out, ZI.out _ BC3.out⟩
                refine oneL (i := 19) (by kernel_rfl) rfl (fun K hK => ?_)
                obtain ⟨wS, hst, hn, hk⟩ := st_ref (x := zr) hA.out (⟨s0, s1, s2, s3, s4⟩ : Rf)
                have BC4 := hide (BC3.out.trans (hk.to_below BC3.out.size (by simp; omega)))
                replace hB := hide (hB.out.kp hk (by simp; omega))
                replace hA := hide hn
                have HS := hide hst
                clear hst hk hn
                refine step_store_w rfl 30 (.tmp 16) (.tmp 98) rfl rfl rfl HS.out ?_
                refine hK.out _ _ ?_ ?_
                · exact ⟨LXd.out _ BC4.out, ZI.out _ BC4.out⟩
                clear hK K
                try simp only [Act.put, List.setIfInBounds_toArray]
                clear hHeld
                have hHeld : (fun w' => (Instr.loadAt 28 (.pointer (some ⟨g, i * 3, none⟩))).run Tryd.prog w' = .ok (.agg #[.int .i64 (p), .int .u64 (q)]) w' ∧ w'.cell? ⟨rg, ro + k * 5, none⟩ = some (.int .i64 z.id)) wS := ⟨LXd.out _ BC4.out, ZI.out _ BC4.out⟩
                refine oneL (i := 20) (by kernel_rfl) rfl (fun K hK => ?_)
                obtain ⟨wT, hst, hn, hk⟩ := st_ref (x := zr) hB.out (⟨t0, t1, t2, t3, t4⟩ : Rf)
                have BC5 := hide (BC4.out.trans (hk.to_below BC4.out.size (by simp; omega)))
                replace hA := hide (hA.out.kp hk (by simp; omega))
                replace hB := hide hn
                have HS := hide hst
                clear hst hk hn
                refine step_store_w rfl 30 (.tmp 17) (.tmp 99) rfl rfl rfl HS.out ?_
                refine hK.out _ _ ?_ ?_
                · exact ⟨LXd.out _ BC5.out, ZI.out _ BC5.out⟩
                clear hK K
                try simp only [Act.put]
                clear hHeld
                have hHeld : (fun w' => (Instr.loadAt 28 (.pointer (some ⟨g, i * 3, none⟩))).run Tryd.prog w' = .ok (.agg #[.int .i64 (p), .int .u64 (q)]) w' ∧ w'.cell? ⟨rg, ro + k * 5, none⟩ = some (.int .i64 z.id)) wT := ⟨LXd.out _ BC5.out, ZI.out _ BC5.out⟩
                refine pickA (v := ?_) 21 (some 18) rfl rfl (by kernel_rfl) (by kernel_rfl) (by kernel_rfl) (by decide) (fun _ _ _ h => h) (by rfl) ?_ (by assumption) ?_
                rotate_left
                · intro w'
                  go_simp
                  try with_reducible rfl
                try simp only [Act.put]
                refine doneL (by kernel_rfl) ?_ _
                clear hHeld
                show K1 _ _
                go_simp
                exact TAIL gA gB wT (⟨BC5, hA, hB⟩)
              · refine ⟨_, rfl, fun K hK => ?_⟩
                go_simp
                have b0 := gb1 wB (.cells #[.int .i64 0, .int .i64 0, .int .u64 0, .int .i64 0, .int .u64 0] 30)
                have hA := hide (IsB.new wB #[.int .i64 0, .int .i64 0, .int .u64 0, .int .i64 0, .int .u64 0] 30)
                have BC2 := hide (BC1.out.trans (b0.mono BC1.out.size))
                obtain ⟨gA, hgA⟩ : ∃ z, wB.heap.size = z := ⟨_, rfl⟩
                have hbA : WD.heap.size ≤ gA := by rw [← hgA]; exact BC1.out.size
                have hne : gA ≠ gB := by have := hB.out.lt; omega
                replace hB := hide (hB.out.below b0)
                rw [hgA] at hA ⊢
                clear b0
                generalize wB.alloc (.cells #[.int .i64 0, .int .i64 0, .int .u64 0, .int .i64 0, .int .u64 0] 30) = wA at *
                refine hK.out _ _ ?_ ?_
                · exact ⟨LXd.out _ BC2.out, ZI.out _ BC2.out⟩
                clear hK K
                try simp only [Act.put, List.setIfInBounds_toArray, List.set_cons_zero, List.set_cons_succ]
                clear hHeld
                have hHeld : (fun w' => (Instr.loadAt 28 (.pointer (some ⟨g, i * 3, none⟩))).run Tryd.prog w' = .ok (.agg #[.int .i64 (p), .int .u64 (q)]) w' ∧ w'.cell? ⟨rg, ro + k * 5, none⟩ = some (.int .i64 z.id)) wA := ⟨LXd.out _ BC2.out, ZI.out _ BC2.out⟩
                refine oneL (i := 12) (by kernel_rfl) rfl (fun K hK => ?_)
                go_simp
                refine (CBl.out wA BC2.out).mono ?_
                rintro e wc ⟨rfl, hb⟩
                have BC3 := hide (BC2.out.trans (hb.mono BC2.out.size))
                replace hA := hide (hA.out.below hb)
                replace hB := hide (hB.out.below hb)
                clear hb
                refine hK.out _ _ ?_ ?_
                · exact ⟨LXd.out _ BC3.out, ZI.out _ BC3.out⟩
                clear hK K
                try simp only [Act.put, List.setIfInBounds_toArray, List.set_cons_zero, List.set_cons_succ]
                clear hHeld
                have hHeld : (fun w' => (Instr.loadAt 28 (.pointer (some ⟨g, i * 3, none⟩))).run Tryd.prog w' = .ok (.agg #[.int .i64 (p), .int .u64 (q)]) w' ∧ w'.cell? ⟨rg, ro + k * 5, none⟩ = some (.int .i64 z.id)) wc := ⟨LXd.out _ BC3.out, ZI.out _ BC3.out⟩
                refine pickA (v := ?_) 13 (some 84) rfl rfl (by kernel_rfl) (by kernel_rfl) (by kernel_rfl) (by decide) (fun _ _ _ h => h) (by rfl) ?_ (by assumption) ?_
                rotate_left
                · intro w'
                  go_simp
                  try with_reducible rfl
                try simp only [Act.put, List.setIfInBounds_toArray, List.set_cons_zero, List.set_cons_succ]
                refine pickA (v := ?_) 14 (some 98) rfl rfl (by kernel_rfl) (by kernel_rfl) (by kernel_rfl) (by decide) (fun _ _ _ h => h) (by rfl) ?_ (by assumption) ?_
                rotate_left
                · intro w'
                  go_simp
                  try with_reducible rfl
                try simp only [Act.put, List.setIfInBounds_toArray, List.set_cons_zero, List.set_cons_succ]
                refine pickA (v := ?_) 15 (some 99) rfl rfl (by kernel_rfl) (by kernel_rfl) (by kernel_rfl) (by decide) (fun _ _ _ h => h) (by rfl) ?_ (by assumption) ?_
                rotate_left
                · intro w'
                  go_simp
                  try with_reducible rfl
                try simp only [Act.put, List.setIfInBounds_toArray, List.set_cons_zero, List.set_cons_succ]
                refine pickA (v := ?_) 16 (some 100) rfl rfl (by kernel_rfl) (by kernel_rfl) (by kernel_rfl) (by decide) (fun _ _ _ h => h) (by rfl) ?_ (by assumption) ?_
                rotate_left
                · intro w'
                  go_simp
                  try with_reducible rfl
                try simp only [Act.put, List.setIfInBounds_toArray, List.set_cons_zero, List.set_cons_succ]
                refine oneL (i := 19) (by kernel_rfl) rfl (fun K hK => ?_)
                obtain ⟨wS, hst, hn, hk⟩ := st_ref (x := zr) hA.out (⟨s0, s1, s2, s3, s4⟩ : Rf)
                have BC4 := hide (BC3.out.trans (hk.to_below BC3.out.size (by simp; omega)))
                replace hB := hide (hB.out.kp hk (by simp; omega))
                replace hA := hide hn
                have HS := hide hst
                clear hst hk hn
                refine step_store_w rfl 30 (.tmp 16) (.tmp 98) rfl rfl rfl HS.out ?_
                refine hK.out _ _ ?_ ?_
                · exact ⟨LXd.out _ BC4.out, ZI.out _ BC4.out⟩
                clear hK K
                try simp only [Act.put, List.setIfInBounds_toArray]
                clear hHeld
                have hHeld : (fun w' => (Instr.loadAt 28 (.pointer (some ⟨g, i * 3, none⟩))).run Tryd.prog w' = .ok (.agg #[.int .i64 (p), .int .u64 (q)]) w' ∧ w'.cell? ⟨rg, ro + k * 5, none⟩ = some (.int .i64 z.id)) wS := ⟨LXd.out _ BC4.out, ZI.out _ BC4.out⟩
                refine oneL (i := 20) (by kernel_rfl) rfl (fun K hK => ?_)
                obtain ⟨wT, hst, hn, hk⟩ := st_ref (x := zr) hB.out (⟨t0, t1, t2, t3, t4⟩ : Rf)
                have BC5 := hide (BC4.out.trans (hk.to_below BC4.out.size (by simp; omega)))
                replace hA := hide (hA.out.kp hk (by simp; omega))
                replace hB := hide hn
                have HS := hide hst
                clear hst hk hn
                refine step_store_w rfl 30 (.tmp 17) (.tmp 99) rfl rfl rfl HS.out ?_
                refine hK.out _ _ ?_ ?_
                · exact ⟨LXd.out _ BC5.out, ZI.out _ BC5.out⟩
                clear hK K
                try simp only [Act.put]
                clear hHeld
                have hHeld : (fun w' => (Instr.loadAt 28 (.pointer (some ⟨g, i * 3, none⟩))).run Tryd.prog w' = .ok (.agg #[.int .i64 (p), .int .u64 (q)]) w' ∧ w'.cell? ⟨rg, ro + k * 5, none⟩ = some (.int .i64 z.id)) wT := ⟨LXd.out _ BC5.out, ZI.out _ BC5.out⟩
                refine pickA (v := ?_) 21 (some 18) rfl rfl (by kernel_rfl) (by kernel_rfl) (by kernel_rfl) (by decide) (fun _ _ _ h => h) (by rfl) ?_ (by assumption) ?_
                rotate_left
                · intro w'
                  go_simp
                  try with_reducible rfl
                try simp only [Act.put]
                refine doneL (by kernel_rfl) ?_ _
                clear hHeld
                show K1 _ _
                go_simp
                exact TAIL gA gB wT (⟨BC5, hA, hB⟩)
          case tail16 =>
            intro gP gQ w9 F8
            obtain ⟨BW8, hA, hB⟩ := F8
            replace LS := hide (LS.out.below BW8.out)
            replace LM := hide (LM.out.below BW8.out)
            replace XB := hide (XB.out.below BW8.out)
            replace HR := hide (HR.out.below BW8.out)
            replace LR := hide (LR.out.below BW8.out)
            replace RO := hide (RO.out.below BW8.out)
            replace Xa := hide (Xa.out.below BW8.out)
            replace Xb := hide (Xb.out.below BW8.out)
            replace B := hide (B.out.trans (BW8.out.mono B.out.size))
            replace BW0 := hide (BW0.out.trans (BW8.out.mono BW0.out.size))
            have Pa := hA
            have Pb := hB
            clear hA hB BW8 LXd CBl BC0 hWD ZI
            refine hK1 _ _ ?_
            clear hK1 K1
            go_wp2_with fail
            rename_i K1 hK1
            have dr := (Below.refl w9.heap.size w9).drew
            obtain ⟨WD, hWD⟩ : ∃ W, w9.drew = W := ⟨_, rfl⟩
            rw [hWD] at dr
            replace LS := hide (LS.out.below dr)
            replace LM := hide (LM.out.below dr)
            replace XB := hide (XB.out.below dr)
            replace HR := hide (HR.out.below dr)
            replace LR := hide (LR.out.below dr)
            replace RO := hide (RO.out.below dr)
            replace Xa := hide (Xa.out.below dr)
            replace Xb := hide (Xb.out.below dr)
            replace Pa := hide (Pa.out.below dr)
            replace Pb := hide (Pb.out.below dr)
            replace B := hide (B.out.trans (dr.mono B.out.size))
            replace BW0 := hide (BW0.out.trans (dr.mono BW0.out.size))
            clear dr
            have LXd : Hid (∀ w', Below WD.heap.size WD w' → (Instr.loadAt 28 (.pointer (some ⟨g, i * 3, none⟩))).run Tryd.prog w' = .ok (.agg #[.int .i64 (p), .int .u64 (q)]) w') := fun w' hb => LX.out _ (BW0.out.trans (hb.mono BW0.out.size))
            have ZI : Hid (∀ w', Below WD.heap.size WD w' → w'.cell? ⟨rg, ro + k * 5, none⟩ = some (.int .i64 z.id)) := fun w' hb => by rw [← hz]; exact (RO.out.below hb).cid k hkR
            have CBl := hide (fun W' (hb : Below WD.heap.size WD W') => CV.out W' (LM.out.below hb))
            have BC0 : Hid (Below WD.heap.size WD WD) := Below.refl _ _
            refine cutT (K := K1) (F := (fun gA gB W => Hid (Below WD.heap.size WD W) ∧ Hid (IsB W gA #[.int .i64 y0, .int .i64 y1, .int .u64 y2, .int .i64 y3, .int .u64 y4] 30) ∧ Hid (IsB W gB #[.int .i64 v0, .int .i64 v1, .int .u64 v2, .int .i64 v3, .int .u64 v4] 30))) ?T17 ?tail17 (fun TAIL => ?main17)
            case main17 =>
              refine regionL 22 (fun w' => (Instr.loadAt 28 (.pointer (some ⟨g, i * 3, none⟩))).run Tryd.prog w' = .ok (.agg #[.int .i64 (p), .int .u64 (q)]) w' ∧ w'.cell? ⟨rg, ro + k * 5, none⟩ = some (.int .i64 z.id)) mixed (by rw [hWD]; exact ⟨LXd.out _ BC0.out, ZI.out _ BC0.out⟩) (fun hHeld => ?_)
              rw [hWD] at hHeld ⊢
              refine pickA (v := ?_) 0 (some 102) rfl rfl (by kernel_rfl) (by kernel_rfl) (by kernel_rfl) (by decide) (fun _ _ _ h => h) (by rfl) ?_ (by assumption) ?_
              rotate_left
              · intro w'
                go_simp
                try with_reducible rfl
              try simp only [Act.put, List.setIfInBounds_toArray, List.set_cons_zero, List.set_cons_succ]
              refine pickA (v := ?_) 1 (some 103) rfl rfl (by kernel_rfl) (by kernel_rfl) (by kernel_rfl) (by decide) (fun _ _ _ h => h) (by rfl) ?_ (by assumption) ?_
              rotate_left
              · intro w'
                go_simp
                try with_reducible rfl
              try simp only [Act.put, List.setIfInBounds_toArray, List.set_cons_zero, List.set_cons_succ]
              refine pickA (v := ?_) 2 (some 104) rfl rfl (by kernel_rfl) (by kernel_rfl) (by kernel_rfl) (by decide) (fun _ _ _ h => h) (by rfl) ?_ (by assumption) ?_
              rotate_left
              · intro w'
                go_simp
                try with_reducible rfl
              try simp only [Act.put, List.setIfInBounds_toArray, List.set_cons_zero, List.set_cons_succ]
              refine pickA (v := ?_) 3 (some 105) rfl rfl (by kernel_rfl) (by kernel_rfl) (by kernel_rfl) (by decide) (fun _ _ _ h => h) (by rfl) ?_ (by assumption) ?_
              rotate_left
              · intro w'
                go_simp
                try with_reducible rfl
              try simp only [Act.put, List.setIfInBounds_toArray, List.set_cons_zero, List.set_cons_succ]
              refine pickA (v := ?_) 4 (some 106) rfl rfl (by kernel_rfl) (by kernel_rfl) (by kernel_rfl) (by decide) (fun _ _ _ h => h) (by rfl) ?_ (by assumption) ?_
              rotate_left
              · intro w'
                go_simp
                try with_reducible rfl
              try simp only [Act.put, List.setIfInBounds_toArray, List.set_cons_zero, List.set_cons_succ]
              refine pickL (v := (.agg #[.int .i64 (p), .int .u64 (q)])) 5 (some 107) rfl rfl (by kernel_rfl) (by kernel_rfl) (by kernel_rfl) (by decide) (by kernel_rfl) (by kernel_rfl) (fun _ _ _ h => h) (by rfl) ?_ (by assumption) ?_
              · intro w' hSw
                obtain ⟨q0, q1⟩ := hSw
                exact exec_load rfl rfl q0
              try simp only [Act.put, List.setIfInBounds_toArray, List.set_cons_zero, List.set_cons_succ]
              refine pickA (v := ?_) 6 (some 108) rfl rfl (by kernel_rfl) (by kernel_rfl) (by kernel_rfl) (by decide) (fun _ _ _ h => h) (by rfl) ?_ (by assumption) ?_
              rotate_left
              · intro w'
                go_simp
                try with_reducible rfl
              try simp only [Act.put, List.setIfInBounds_toArray, List.set_cons_zero, List.set_cons_succ]
              refine pickA (v := ?_) 7 (some 109) rfl rfl (by kernel_rfl) (by kernel_rfl) (by kernel_rfl) (by decide) (fun _ _ _ h => h) (by rfl) ?_ (by assumption) ?_
              rotate_left
              · intro w'
                go_simp
                try with_reducible rfl
              try simp only [Act.put, List.setIfInBounds_toArray, List.set_cons_zero, List.set_cons_succ]
              refine pickA (v := ?_) 8 (some 110) rfl rfl (by kernel_rfl) (by kernel_rfl) (by kernel_rfl) (by decide) (fun _ _ _ h => h) (by rfl) ?_ (by assumption) ?_
              rotate_left
              · intro w'
                go_simp
                try with_reducible rfl
              try simp only [Act.put, List.setIfInBounds_toArray, List.set_cons_zero, List.set_cons_succ]
              refine pickA (v := ?_) 9 (some 111) rfl rfl (by kernel_rfl) (by kernel_rfl) (by kernel_rfl) (by decide) (fun _ _ _ h => h) (by rfl) ?_ (by assumption) ?_
              rotate_left
              · intro w'
                go_simp
                try with_reducible rfl
              try simp only [Act.put, List.setIfInBounds_toArray, List.set_cons_zero, List.set_cons_succ]
              refine pickL (v := .int .i64 z.id) 10 (some 112) rfl rfl (by kernel_rfl) (by kernel_rfl) (by kernel_rfl) (by decide) (by kernel_rfl) (by kernel_rfl) (fun _ _ _ h => h) (by rfl) ?_ (by assumption) ?_
              · intro w' hSw
                obtain ⟨q0, q1⟩ := hSw
                go_simp
                try rfl
              try simp only [Act.put, List.setIfInBounds_toArray, List.set_cons_zero, List.set_cons_succ]
              refine pickA (v := ?_) 11 (some 113) rfl rfl (by kernel_rfl) (by kernel_rfl) (by kernel_rfl) (by decide) (fun _ _ _ h => h) (by rfl) ?_ (by assumption) ?_
              rotate_left
              · intro w'
                go_simp
                try with_reducible rfl
              try simp only [Act.put, List.setIfInBounds_toArray, List.set_cons_zero, List.set_cons_succ]
              refine manyL (L := [12, 17, 18]) (by kernel_rfl) (by decide) (fun i hi => ?_)
              simp only [List.mem_cons, List.not_mem_nil, or_false] at hi
              rcases hi with rfl | rfl | rfl
              · refine ⟨_, rfl, fun K hK => ?_⟩
                go_simp
                refine (CBl.out WD BC0.out).mono ?_
                rintro e wc ⟨rfl, hb⟩
                have BC1 := hide (BC0.out.trans (hb.mono BC0.out.size))
                clear hb
                refine hK.out _ _ ?_ ?_
                · exact ⟨LXd.out _ BC1.out, ZI.out _ BC1.out⟩
                clear hK K
                try simp only [Act.put, List.setIfInBounds_toArray, List.set_cons_zero, List.set_cons_succ]
                clear hHeld
                have hHeld : (fun w' => (Instr.loadAt 28 (.pointer (some ⟨g, i * 3, none⟩))).run Tryd.prog w' = .ok (.agg #[.int .i64 (p), .int .u64 (q)]) w' ∧ w'.cell? ⟨rg, ro + k * 5, none⟩ = some (.int .i64 z.id)) wc := ⟨LXd.out _ BC1.out, ZI.out _ BC1.out⟩
                refine pickA (v := ?_) 13 (some 101) rfl rfl (by kernel_rfl) (by kernel_rfl) (by kernel_rfl) (by decide) (fun _ _ _ h => h) (by rfl) ?_ (by assumption) ?_
                rotate_left
                · intro w'
                  go_simp
                  try with_reducible rfl
                try simp only [Act.put, List.setIfInBounds_toArray, List.set_cons_zero, List.set_cons_succ]
                refine pickA (v := ?_) 14 (some 115) rfl rfl (by kernel_rfl) (by kernel_rfl) (by kernel_rfl) (by decide) (fun _ _ _ h => h) (by rfl) ?_ (by assumption) ?_
                rotate_left
                · intro w'
                  go_simp
                  try with_reducible rfl
                try simp only [Act.put, List.setIfInBounds_toArray, List.set_cons_zero, List.set_cons_succ]
                refine pickA (v := ?_) 15 (some 116) rfl rfl (by kernel_rfl) (by kernel_rfl) (by kernel_rfl) (by decide) (fun _ _ _ h => h) (by rfl) ?_ (by assumption) ?_
                rotate_left
                · intro w'
                  go_simp
                  try with_reducible rfl
                try simp only [Act.put, List.setIfInBounds_toArray, List.set_cons_zero, List.set_cons_succ]
                refine pickA (v := ?_) 16 (some 117) rfl rfl (by kernel_rfl) (by kernel_rfl) (by kernel_rfl) (by decide) (fun _ _ _ h => h) (by rfl) ?_ (by assumption) ?_
                rotate_left
                · intro w'
                  go_simp
                  try with_reducible rfl
                try simp only [Act.put, List.setIfInBounds_toArray, List.set_cons_zero, List.set_cons_succ]
                refine manyL (L := [17, 18]) (by kernel_rfl) (by decide) (fun i hi => ?_)
                simp only [List.mem_cons, List.not_mem_nil, or_false] at hi
                rcases hi with rfl | rfl
                · refine ⟨_, rfl, fun K hK => ?_⟩
                  go_simp
                  have b0 := gb1 wc (.cells #[.int .i64 0, .int .i64 0, .int .u64 0, .int .i64 0, .int .u64 0] 30)
                  have hA := hide (IsB.new wc #[.int .i64 0, .int .i64 0, .int .u64 0, .int .i64 0, .int .u64 0] 30)
                  have BC2 := hide (BC1.out.trans (b0.mono BC1.out.size))
                  obtain ⟨gA, hgA⟩ : ∃ z, wc.heap.size = z := ⟨_, rfl⟩
                  have hbA : WD.heap.size ≤ gA := by rw [← hgA]; exact BC1.out.size
                  rw [hgA] at hA ⊢
                  clear b0
                  generalize wc.alloc (.cells #[.int .i64 0, .int .i64 0, .int .u64 0, .int .i64 0, .int .u64 0] 30) = wA at *
                  refine hK.out _ _ ?_ ?_
                  · exact ⟨LXd.out _ BC2.out, ZI.out _ BC2.out⟩
                  clear hK K
                  try simp only [Act.put, List.setIfInBounds_toArray, List.set_cons_zero, List.set_cons_succ]
                  clear hHeld
                  have hHeld : (fun w' => (Instr.loadAt 28 (.pointer (some ⟨g, i * 3, none⟩))).run Tryd.prog w' = .ok (.agg #[.int .i64 (p), .int .u64 (q)]) w' ∧ w'.cell? ⟨rg, ro + k * 5, none⟩ = some (.int .i64 z.id)) wA := ⟨LXd.out _ BC2.out, ZI.out _ BC2.out⟩
                  refine oneL (i := 18) (by kernel_rfl) rfl (fun K hK => ?_)
                  go_simp
                  have b0 := gb1 wA (.cells #[.int .i64 0, .int .i64 0, .int .u64 0, .int .i64 0, .int .u64 0] 30)
                  have hB := hide (IsB.new wA #[.int .i64 0, .int .i64 0, .int .u64 0, .int .i64 0, .int .u64 0] 30)
                  have BC3 := hide (BC2.out.trans (b0.mono BC2.out.size))
                  obtain ⟨gB, hgB⟩ : ∃ z, wA.heap.size = z := ⟨_, rfl⟩
                  have hbB : WD.heap.size ≤ gB := by rw [← hgB]; exact BC2.out.size
                  have hne : gA ≠ gB := by have := hA.out.lt; omega
                  replace hA := hide (hA.out.below b0)
                  rw [hgB] at hB ⊢
                  clear b0
                  generalize wA.alloc (.cells #[.int .i64 0, .int .i64 0, .int .u64 0, .int .i64 0, .int .u64 0] 30) = wB at *
                  refine hK.out _ _ ?_ ?_
                  · exact ⟨LXd.out _ BC3.out, ZI.out _ BC3.out⟩
                  clear hK K
                  try simp only [Act.put, List.setIfInBounds_toArray, List.set_cons_zero, List.set_cons_succ]
                  clear hHeld
                  have hHeld : (fun w' => (Instr.loadAt 28 (.pointer (some ⟨g, i * 3, none⟩))).run Tryd.prog w' = .ok (.agg #[.int .i64 (p), .int .u64 (q)]) w' ∧ w'.cell? ⟨rg, ro + k * 5, none⟩ = some (.int .i64 z.id)) wB := ⟨LXd.out _ BC3.out, ZI.out _ BC3.out⟩
                  refine oneL (i := 19) (by kernel_rfl) rfl (fun K hK => ?_)
                  obtain ⟨wS, hst, hn, hk⟩ := st_ref (x := zr) hA.out (⟨y0, y1, y2, y3, y4⟩ : Rf)
                  have BC4 := hide (BC3.out.trans (hk.to_below BC3.out.size (by simp; omega)))
                  replace hB := hide (hB.out.kp hk (by simp; omega))
                  replace hA := hide hn
                  have HS := hide hst
                  clear hst hk hn
                  refine step_store_w rfl 30 (.tmp 19) (.tmp 115) rfl rfl rfl HS.out ?_
                  refine hK.out _ _ ?_ ?_
                  · exact ⟨LXd.out _ BC4.out, ZI.out _ BC4.out⟩
                  clear hK K
                  try simp only [Act.put, List.setIfInBounds_toArray]
                  clear hHeld
                  have hHeld : (fun w' => (Instr.loadAt 28 (.pointer (some ⟨g, i * 3, none⟩))).run Tryd.prog w' = .ok (.agg #[.int .i64 (p), .int .u64 (q)]) w' ∧ w'.cell? ⟨rg, ro + k * 5, none⟩ = some (.int .i64 z.id)) wS := ⟨LXd.out _ BC4.out, ZI.out _ BC4.out⟩
                  refine oneL (i := 20) (by kernel_rfl) rfl (fun K hK => ?_)
                  obtain ⟨wT, hst, hn, hk⟩ := st_ref (x := zr) hB.out (⟨v0, v1, v2, v3, v4⟩ : Rf)
                  have BC5 := hide (BC4.out.trans (hk.to_below BC4.out.size (by simp; omega)))
                  replace hA := hide (hA.out.kp hk (by simp; omega))
                  replace hB := hide hn
                  have HS := hide hst
                  clear hst hk hn
                  refine step_store_w rfl 30 (.tmp 20) (.tmp 116) rfl rfl rfl HS.out ?_
                  refine hK.out _ _ ?_ ?_
                  · exact ⟨LXd.out _ BC5.out, ZI.out _ BC5.out⟩
                  clear hK K
                  try simp only [Act.put]
                  clear hHeld
                  have hHeld : (fun w' => (Instr.loadAt 28 (.pointer (some ⟨g, i * 3, none⟩))).run Tryd.prog w' = .ok (.agg #[.int .i64 (p), .int .u64 (q)]) w' ∧ w'.cell? ⟨rg, ro + k * 5, none⟩ = some (.int .i64 z.id)) wT := ⟨LXd.out _ BC5.out, ZI.out _ BC5.out⟩
                  refine pickA (v := ?_) 21 (some 21) rfl rfl (by kernel_rfl) (by kernel_rfl) (by kernel_rfl) (by decide) (fun _ _ _ h => h) (by rfl) ?_ (by assumption) ?_
                  rotate_left
                  · intro w'
                    go_simp
                    try with_reducible rfl
                  try simp only [Act.put]
                  refine doneL (by kernel_rfl) ?_ _
                  clear hHeld
                  show K1 _ _
                  go_simp
                  exact TAIL gA gB wT (⟨BC5, hA, hB⟩)
                · refine ⟨_, rfl, fun K hK => ?_⟩
                  go_simp
                  have b0 := gb1 wc (.cells #[.int .i64 0, .int .i64 0, .int .u64 0, .int .i64 0, .int .u64 0] 30)
                  have hB := hide (IsB.new wc #[.int .i64 0, .int .i64 0, .int .u64 0, .int .i64 0, .int .u64 0] 30)
                  have BC2 := hide (BC1.out.trans (b0.mono BC1.out.size))
                  obtain ⟨gB, hgB⟩ : ∃ z, wc.heap.size = z := ⟨_, rfl⟩
                  have hbB : WD.heap.size ≤ gB := by rw [← hgB]; exact BC1.out.size
                  rw [hgB] at hB ⊢
                  clear b0
                  generalize wc.alloc (.cells #[.int .i64 0, .int .i64 0, .int .u64 0, .int .i64 0, .int .u64 0] 30) = wB at *
                  refine hK.out _ _ ?_ ?_
                  · exact ⟨LXd.out _ BC2.out, ZI.out _ BC2.out⟩
                  clear hK K
                  try simp only [Act.put, List.setIfInBounds_toArray, List.set_cons_zero, List.set_cons_succ]
                  clear hHeld
                  have hHeld : (fun w' => (Instr.loadAt 28 (.pointer (some ⟨g, i * 3, none⟩))).run Tryd.prog w' = .ok (.agg #[.int .i64 (p), .int .u64 (q)]) w' ∧ w'.cell? ⟨rg, ro + k * 5, none⟩ = some (.int .i64 z.id)) wB := ⟨LXd.out _ BC2.out, ZI.out _ BC2.out⟩
                  refine oneL (i := 17) (by kernel_rfl) rfl (fun K hK => ?_)
                  go_simp
                  have b0 := gb1 wB (.cells #[.int .i64 0, .int .i64 0, .int .u64 0, .int .i64 0, .int .u64 0] 30)
                  have hA := hide (IsB.new wB #[.int .i64 0, .int .i64 0, .int .u64 0, .int .i64 0, .int .u64 0] 30)
                  have BC3 := hide (BC2.out.trans (b0.mono BC2.out.size))
                  obtain ⟨gA, hgA⟩ : ∃ z, wB.heap.size = z := ⟨_, rfl⟩
                  have hbA : WD.heap.size ≤ gA := by rw [← hgA]; exact BC2.out.size
                  have hne : gA ≠ gB := by have := hB.out.lt; omega
                  replace hB := hide (hB.out.below b0)
                  rw [hgA] at hA ⊢
                  clear b0
                  generalize wB.alloc (.cells #[.int .i64 0, .int .i64 0, .int .u64 0, .int .i64 0, .int .u64 0] 30) = wA at *
                  refine hK.out _ _ ?_ ?_
                  · exact ⟨LXd.out _ BC3.out, ZI.out _ BC3.out⟩
                  clear hK K
                  try simp only [Act.put, List.setIfInBounds_toArray, List.set_cons_zero, List.set_cons_succ]
                  clear hHeld
                  have hHeld : (fun w' => (Instr.loadAt 28 (.pointer (some ⟨g, i * 3, none⟩))).run Tryd.prog w' = .ok (.agg #[.int .i64 (p), .int .u64 (q)]) w' ∧ w'.cell? ⟨rg, ro + k * 5, none⟩ = some (.int .i64 z.id)) wA := ⟨LXd.out _ BC3.out, ZI.out _ BC3.out⟩
                  refine oneL (i := 19) (by kernel_rfl) rfl (fun K hK => ?_)
                  obtain ⟨wS, hst, hn, hk⟩ := st_ref (x := zr) hA.out (⟨y0, y1, y2, y3, y4⟩ : Rf)
                  have BC4 := hide (BC3.out.trans (hk.to_below BC3.out.size (by simp; omega)))
                  replace hB := hide (hB.out.kp hk (by simp; omega))
                  replace hA := hide hn
                  have HS := hide hst
                  clear hst hk hn
                  refine step_store_w rfl 30 (.tmp 19) (.tmp 115) rfl rfl rfl HS.out ?_
                  refine hK.out _ _ ?_ ?_
                  · exact ⟨LXd.out _ BC4.out, ZI.out _ BC4.out⟩
                  clear hK K
                  try simp only [Act.put, List.setIfInBounds_toArray]
                  clear hHeld
                  have hHeld : (fun w' => (Instr.loadAt 28 (.pointer (some ⟨g, i * 3, none⟩))).run Tryd.prog w' = .ok (.agg #[.int .i64 (p), .int .u64 (q)]) w' ∧ w'.cell? ⟨rg, ro + k * 5, none⟩ = some (.int .i64 z.id)) wS := ⟨LXd.out _ BC4.out, ZI.out _ BC4.out⟩
                  refine oneL (i := 20) (by kernel_rfl) rfl (fun K hK => ?_)
                  obtain ⟨wT, hst, hn, hk⟩ := st_ref (x := zr) hB.out (⟨v0, v1, v2, v3, v4⟩ : Rf)
                  have BC5 := hide (BC4.out.trans (hk.to_below BC4.out.size (by simp; omega)))
                  replace hA := hide (hA.out.kp hk (by simp; omega))
                  replace hB := hide hn
                  have HS := hide hst
                  clear hst hk hn
                  refine step_store_w rfl 30 (.tmp 20) (.tmp 116) rfl rfl rfl HS.out ?_
                  refine hK.out _ _ ?_ ?_
                  · exact ⟨LXd.out _ BC5.out, ZI.out _ BC5.out⟩
                  clear hK K
                  try simp only [Act.put]
                  clear hHeld
                  have hHeld : (fun w' => (Instr.loadAt 28 (.pointer (some ⟨g, i * 3, none⟩))).run Tryd.prog w' = .ok (.agg #[.int .i64 (p), .int .u64 (q)]) w' ∧ w'.cell? ⟨rg, ro + k * 5, none⟩ = some (.int .i64 z.id)) wT := ⟨LXd.out _ BC5.out, ZI.out _ BC5.out⟩
                  refine pickA (v := ?_) 21 (some 21) rfl rfl (by kernel_rfl) (by kernel_rfl) (by kernel_rfl) (by decide) (fun _ _ _ h => h) (by rfl) ?_ (by assumption) ?_
                  rotate_left
                  · intro w'
                    go_simp
                    try with_reducible rfl
                  try simp only [Act.put]
                  refine doneL (by kernel_rfl) ?_ _
                  clear hHeld
                  show K1 _ _
                  go_simp
                  exact TAIL gA gB wT (⟨BC5, hA, hB⟩)
              · refine ⟨_, rfl, fun K hK => ?_⟩
                go_simp
                have b0 := gb1 WD (.cells #[.int .i64 0, .int .i64 0, .int .u64 0, .int .i64 0, .int .u64 0] 30)
                have hA := hide (IsB.new WD #[.int .i64 0, .int .i64 0, .int .u64 0, .int .i64 0, .int .u64 0] 30)
                have BC1 := hide (BC0.out.trans (b0.mono BC0.out.size))
                obtain ⟨gA, hgA⟩ : ∃ z, WD.heap.size = z := ⟨_, rfl⟩
                have hbA : WD.heap.size ≤ gA := by rw [← hgA]; exact BC0.out.size
                rw [hgA] at hA ⊢
                clear b0
                generalize WD.alloc (.cells #[.int .i64 0, .int .i64 0, .int .u64 0, .int .i64 0, .int .u64 0] 30) = wA at *
                refine hK.out _ _ ?_ ?_
                · exact ⟨LXd.out _ BC1.out, ZI.out _ BC1.out⟩
                clear hK K
                try simp only [Act.put, List.setIfInBounds_toArray, List.set_cons_zero, List.set_cons_succ]
                clear hHeld
                have hHeld : (fun w' => (Instr.loadAt 28 (.pointer (some ⟨g, i * 3, none⟩))).run Tryd.prog w' = .ok (.agg #[.int .i64 (p), .int .u64 (q)]) w' ∧ w'.cell? ⟨rg, ro + k * 5, none⟩ = some (.int .i64 z.id)) wA := ⟨LXd.out _ BC1.out, ZI.out _ BC1.out⟩
                refine manyL (L := [12, 18]) (by kernel_rfl) (by decide) (fun i hi => ?_)
                simp only [List.mem_cons, List.not_mem_nil, or_false] at hi
                rcases hi with rfl | rfl
                · refine ⟨_, rfl, fun K hK => ?_⟩
                  go_simp
                  refine (CBl.out wA BC1.out).mono ?_
                  rintro e wc ⟨rfl, hb⟩
                  have BC2 := hide (BC1.out.trans (hb.mono BC1.out.size))
                  replace hA := hide (hA.out.below hb)
                  clear hb
                  refine hK.out _ _ ?_ ?_
                  · exact ⟨LXd.out _ BC2.out, ZI.out _ BC2.out⟩
                  clear hK K
                  try simp only [Act.put, List.setIfInBounds_toArray, List.set_cons_zero, List.set_cons_succ]
                  clear hHeld
                  have hHeld : (fun w' => (Instr.loadAt 28 (.pointer (some ⟨g, i * 3, none⟩))).run Tryd.prog w' = .ok (.agg #[.int .i64 (p), .int .u64 (q)]) w' ∧ w'.cell? ⟨rg, ro + k * 5, none⟩ = some (.int .i64 z.id)) wc := ⟨LXd.out _ BC2.out, ZI.out _ BC2.out⟩
                  refine pickA (v := ?_) 13 (some 101) rfl rfl (by kernel_rfl) (by kernel_rfl) (by kernel_rfl) (by decide) (fun _ _ _ h => h) (by rfl) ?_ (by assumption) ?_
                  rotate_left
                  · intro w'
                    go_simp
                    try with_reducible rfl
                  try simp only [Act.put, List.setIfInBounds_toArray, List.set_cons_zero, List.set_cons_succ]
                  refine pickA (v := ?_) 14 (some 115) rfl rfl (by kernel_rfl) (by kernel_rfl) (by kernel_rfl) (by decide) (fun _ _ _ h => h) (by rfl) ?_ (by assumption) ?_
                  rotate_left
                  · intro w'
                    go_simp
                    try with_reducible rfl
                  try simp only [Act.put, List.setIfInBounds_toArray, List.set_cons_zero, List.set_cons_succ]
                  refine pickA (v := ?_) 15 (some 116) rfl rfl (by kernel_rfl) (by kernel_rfl) (by kernel_rfl) (by decide) (fun _ _ _ h => h) (by rfl) ?_ (by assumption) ?_
                  rotate_left
                  · intro w'
                    go_simp
                    try with_reducible rfl
                  try simp only [Act.put, List.setIfInBounds_toArray, List.set_cons_zero, List.set_cons_succ]
                  refine pickA (v := ?_) 16 (some 117) rfl rfl (by kernel_rfl) (by kernel_rfl) (by kernel_rfl) (by decide) (fun _ _ _ h => h) (by rfl) ?_ (by assumption) ?_
                  rotate_left
                  · intro w'
                    go_simp
                    try with_reducible rfl
                  try simp only [Act.put, List.setIfInBounds_toArray, List.set_cons_zero, List.set_cons_succ]
                  refine oneL (i := 18) (by kernel_rfl) rfl (fun K hK => ?_)
                  go_simp
                  have b0 := gb1 wc (.cells #[.int .i64 0, .int .i64 0, .int .u64 0, .int .i64 0, .int .u64 0] 30)
                  have hB := hide (IsB.new wc #[.int .i64 0, .int .i64 0, .int .u64 0, .int .i64 0, .int .u64 0] 30)
                  have BC3 := hide (BC2.out.trans (b0.mono BC2.out.size))
                  obtain ⟨gB, hgB⟩ : ∃ z, wc.heap.size = z := ⟨_, rfl⟩
                  have hbB : WD.heap.size ≤ gB := by rw [← hgB]; exact BC2.out.size
                  have hne : gA ≠ gB := by have := hA.out.lt; omega
                  replace hA := hide (hA.out.below b0)
                  rw [hgB] at hB ⊢
                  clear b0
                  generalize wc.alloc (.cells #[.int .i64 0, .int .i64 0, .int .u64 0, .int .i64 0, .int .u64 0] 30) = wB at *
                  refine hK.out _ _ ?_ ?_
                  · exact ⟨LXd.out _ BC3.out, ZI.out _ BC3.out⟩
                  clear hK K
                  try simp only [Act.put, List.setIfInBounds_toArray, List.set_cons_zero, List.set_cons_succ]
                  clear hHeld
                  have hHeld : (fun w' => (Instr.loadAt 28 (.pointer (some ⟨g, i * 3, none⟩))).run Tryd.prog w' = .ok (.agg #[.int .i64 (p), .int .u64 (q)]) w' ∧ w'.cell? ⟨rg, ro + k * 5, none⟩ = some (.int .i64 z.id)) wB := ⟨LXd.out _ BC3.out, ZI.out _ BC3.out⟩
                  refine oneL (i := 19) (by kernel_rfl) rfl (fun K hK => ?_)
                  obtain ⟨wS, hst, hn, hk⟩ := st_ref (x := zr) hA.out (⟨y0, y1, y2, y3, y4⟩ : Rf)
                  have BC4 := hide (BC3.out.trans (hk.to_below BC3.out.size (by simp; omega)))
                  replace hB := hide (hB.out.kp hk (by simp; omega))
                  replace hA := hide hn
                  have HS := hide hst
                  clear hst hk hn
                  refine step_store_w rfl 30 (.tmp 19) (.tmp 115) rfl rfl rfl HS.out ?_
                  refine hK.out _ _ ?_ ?_
                  · exact ⟨LXd.out _ BC4.out, ZI.out _ BC4.out⟩
                  clear hK K
                  try simp only [Act.put, List.setIfInBounds_toArray]
                  clear hHeld
                  have hHeld : (fun w' => (Instr.loadAt 28 (.pointer (some ⟨g, i * 3, none⟩))).run Tryd.prog w' = .ok (.agg #[.int .i64 (p), .int .u64 (q)]) w' ∧ w'.cell? ⟨rg, ro + k * 5, none⟩ = some (.int .i64 z.id)) wS := ⟨LXd.out _ BC4.out, ZI.out _ BC4.out⟩
                  refine oneL (i := 20) (by kernel_rfl) rfl (fun K hK => ?_)
                  obtain ⟨wT, hst, hn, hk⟩ := st_ref (x := zr) hB.out (⟨v0, v1, v2, v3, v4⟩ : Rf)
                  have BC5 := hide (BC4.out.trans (hk.to_below BC4.out.size (by simp; omega)))
                  replace hA := hide (hA.out.kp hk (by simp; omega))
                  replace hB := hide hn
                  have HS := hide hst
                  clear hst hk hn
                  refine step_store_w rfl 30 (.tmp 20) (.tmp 116) rfl rfl rfl HS.out ?_
                  refine hK.out _ _ ?_ ?_
                  · exact ⟨LXd.out _ BC5.out, ZI.out _ BC5.out⟩
                  clear hK K
                  try simp only [Act.put]
                  clear hHeld
                  have hHeld : (fun w' => (Instr.loadAt 28 (.pointer (some ⟨g, i * 3, none⟩))).run Tryd.prog w' = .ok (.agg #[.int .i64 (p), .int .u64 (q)]) w' ∧ w'.cell? ⟨rg, ro + k * 5, none⟩ = some (.int .i64 z.id)) wT := ⟨LXd.out _ BC5.out, ZI.out _ BC5.out⟩
                  refine pickA (v := ?_) 21 (some 21) rfl rfl (by kernel_rfl) (by kernel_rfl) (by kernel_rfl) (by decide) (fun _ _ _ h => h) (by rfl) ?_ (by assumption) ?_
                  rotate_left
                  · intro w'
                    go_simp
                    try with_reducible rfl
                  try simp only [Act.put]
                  refine doneL (by kernel_rfl) ?_ _
                  clear hHeld
                  show K1 _ _
                  go_simp
                  exact TAIL gA gB wT (⟨BC5, hA, hB⟩)
                · refine ⟨_, rfl, fun K hK => ?_⟩
                  go_simp
                  have b0 := gb1 wA (.cells #[.int .i64 0, .int .i64 0, .int .u64 0, .int .i64 0, .int .u64 0] 30)
                  have hB := hide (IsB.new wA #[.int .i64 0, .int .i64 0, .int .u64 0, .int .i64 0, .int .u64 0] 30)
                  have BC2 := hide (BC1.out.trans (b0.mono BC1.out.size))
                  obtain ⟨gB, hgB⟩ : ∃ z, wA.heap.size = z := ⟨_, rfl⟩
                  have hbB : WD.heap.size ≤ gB := by rw [← hgB]; exact BC1.out.size
                  have hne : gA ≠ gB := by have := hA.out.lt; omega
                  replace hA := hide (hA.out.below b0)
                  rw [hgB] at hB ⊢
                  clear b0
                  generalize wA.alloc (.cells #[.int .i64 0, .int .i64 0, .int .u64 0, .int .i64 0, .int .u64 0] 30) = wB at *
                  refine hK.out _ _ ?_ ?_
                  · exact ⟨LXd.out _ BC2.out, ZI.out _ BC2.out⟩
                  clear hK K
                  try simp only [Act.put, List.setIfInBounds_toArray, List.set_cons_zero, List.set_cons_succ]
                  clear hHeld
                  have hHeld : (fun w' => (Instr.loadAt 28 (.pointer (some ⟨g, i * 3, none⟩))).run Tryd.prog w' = .ok (.agg #[.int .i64 (p), .int .u64 (q)]) w' ∧ w'.cell? ⟨rg, ro + k * 5, none⟩ = some (.int .i64 z.id)) wB := ⟨LXd.out _ BC2.out, ZI.out _ BC2.out⟩
                  refine oneL (i := 12) (by kernel_rfl) rfl (fun K hK => ?_)
                  go_simp
                  refine (CBl.out wB BC2.out).mono ?_
                  rintro e wc ⟨rfl, hb⟩
                  have BC3 := hide (BC2.out.trans (hb.mono BC2.out.size))
                  replace hA := hide (hA.out.below hb)
                  replace hB := hide (hB.out.below hb)
                  clear hb
                  refine hK.out _ _ ?_ ?_
                  · exact ⟨LXd.out _ BC3.out, ZI.out _ BC3.out⟩
                  clear hK K
                  try simp only [Act.put, List.setIfInBounds_toArray, List.set_cons_zero, List.set_cons_succ]
                  clear hHeld
                  have hHeld : (fun w' => (Instr.loadAt 28 (.pointer (some ⟨g, i * 3, none⟩))).run Tryd.prog w' = .ok (.agg #[.int .i64 (p), .int .u64 (q)]) w' ∧ w'.cell? ⟨rg, ro + k * 5, none⟩ = some (.int .i64 z.id)) wc := ⟨LXd.out _ BC3.out, ZI.out _ BC3.out⟩
                  refine pickA (v := ?_) 13 (some 101) rfl rfl (by kernel_rfl) (by kernel_rfl) (by kernel_rfl) (by decide) (fun _ _ _ h => h) (by rfl) ?_ (by assumption) ?_
                  rotate_left
                  · intro w'
                    go_simp
                    try with_reducible rfl
                  try simp only [Act.put, List.setIfInBounds_toArray, List.set_cons_zero, List.set_cons_succ]
                  refine pickA (v := ?_) 14 (some 115) rfl rfl (by kernel_rfl) (by kernel_rfl) (by kernel_rfl) (by decide) (fun _ _ _ h => h) (by rfl) ?_ (by assumption) ?_
                  rotate_left
                  · intro w'
                    go_simp
                    try with_reducible rfl
                  try simp only [Act.put, List.setIfInBounds_toArray, List.set_cons_zero, List.set_cons_succ]
                  refine pickA (v := ?_) 15 (some 116) rfl rfl (by kernel_rfl) (by kernel_rfl) (by kernel_rfl) (by decide) (fun _ _ _ h => h) (by rfl) ?_ (by assumption) ?_
                  rotate_left
                  · intro w'
                    go_simp
                    try with_reducible rfl
                  try simp only [Act.put, List.setIfInBounds_toArray, List.set_cons_zero, List.set_cons_succ]
                  refine pickA (v := ?_) 16 (some 117) rfl rfl (by kernel_rfl) (by kernel_rfl) (by kernel_rfl) (by decide) (fun _ _ _ h => h) (by rfl) ?_ (by assumption) ?_
                  rotate_left
                  · intro w'
                    go_simp
                    try with_reducible rfl
                  try simp only [Act.put, List.setIfInBounds_toArray, List.set_cons_zero, List.set_cons_succ]
                  refine oneL (i := 19) (by kernel_rfl) rfl (fun K hK => ?_)
                  obtain ⟨wS, hst, hn, hk⟩ := st_ref (x := zr) hA.out (⟨y0, y1, y2, y3, y4⟩ : Rf)
                  have BC4 := hide (BC3.out.trans (hk.to_below BC3.out.size (by simp; omega)))
                  replace hB := hide (hB.out.kp hk (by simp; omega))
                  replace hA := hide hn
                  have HS := hide hst
                  clear hst hk hn
                  refine step_store_w rfl 30 (.tmp 19) (.tmp 115) rfl rfl rfl HS.out ?_
                  refine hK.out _ _ ?_ ?_
                  · exact ⟨LXd.out _ BC4.out, ZI.out _ BC4.out⟩
                  clear hK K
                  try simp only [Act.put, List.setIfInBounds_toArray]
                  clear hHeld
                  have hHeld : (fun w' => (Instr.loadAt 28 (.pointer (some ⟨g, i * 3, none⟩))).run Tryd.prog w' = .ok (.agg #[.int .i64 (p), .int .u64 (q)]) w' ∧ w'.cell? ⟨rg, ro + k * 5, none⟩ = some (.int .i64 z.id)) wS := ⟨LXd.out _ BC4.out, ZI.out _ BC4.out⟩
                  refine oneL (i := 20) (by kernel_rfl) rfl (fun K hK => ?_)
                  obtain ⟨wT, hst, hn, hk⟩ := st_ref (x := zr) hB.out (⟨v0, v1, v2, v3, v4⟩ : Rf)
                  have BC5 := hide (BC4.out.trans (hk.to_below BC4.out.size (by simp; omega)))
                  replace hA := hide (hA.out.kp hk (by simp; omega))
                  replace hB := hide hn
                  have HS := hide hst
                  clear hst hk hn
                  refine step_store_w rfl 30 (.tmp 20) (.tmp 116) rfl rfl rfl HS.out ?_
                  refine hK.out _ _ ?_ ?_
                  · exact ⟨LXd.out _ BC5.out, ZI.out _ BC5.out⟩
                  clear hK K
                  try simp only [Act.put]
                  clear hHeld
                  have hHeld : (fun w' => (Instr.loadAt 28 (.pointer (some ⟨g, i * 3, none⟩))).run Tryd.prog w' = .ok (.agg #[.int .i64 (p), .int .u64 (q)]) w' ∧ w'.cell? ⟨rg, ro + k * 5, none⟩ = some (.int .i64 z.id)) wT := ⟨LXd.out _ BC5.out, ZI.out _ BC5.out⟩
                  refine pickA (v := ?_) 21 (some 21) rfl rfl (by kernel_rfl) (by kernel_rfl) (by kernel_rfl) (by decide) (fun _ _ _ h => h) (by rfl) ?_ (by assumption) ?_
                  rotate_left
                  · intro w'
                    go_simp
                    try with_reducible rfl
                  try simp only [Act.put]
                  refine doneL (by kernel_rfl) ?_ _
                  clear hHeld
                  show K1 _ _
                  go_simp
                  exact TAIL gA gB wT (⟨BC5, hA, hB⟩)
              · refine ⟨_, rfl, fun K hK => ?_⟩
                go_simp
                have b0 := gb1 WD (.cells #[.int .i64 0, .int .i64 0, .int .u64 0, .int .i64 0, .int .u64 0] 30)
                have hB := hide (IsB.new WD #[.int .i64 0, .int .i64 0, .int .u64 0, .int .i64 0, .int .u64 0] 30)
                have BC1 := hide (BC0.out.trans (b0.mono BC0.out.size))
                obtain ⟨gB, hgB⟩ : ∃ z, WD.heap.size = z := ⟨_, rfl⟩
                have hbB : WD.heap.size ≤ gB := by rw [← hgB]; exact BC0.out.size
                rw [hgB] at hB ⊢
                clear b0
                generalize WD.alloc (.cells #[.int .i64 0, .int .i64 0, .int .u64 0, .int .i64 0, .int .u64 0] 30) = wB at *
                refine hK.out _ _ ?_ ?_
                · exact ⟨LXd.out _ BC1.out, ZI.out _ BC1.out⟩
                clear hK K
                try simp only [Act.put, List.setIfInBounds_toArray, List.set_cons_zero, List.set_cons_succ]
                clear hHeld
                have hHeld : (fun w' => (Instr.loadAt 28 (.pointer (some ⟨g, i * 3, none⟩))).run Tryd.prog w' = .ok (.agg #[.int .i64 (p), .int .u64 (q)]) w' ∧ w'.cell? ⟨rg, ro + k * 5, none⟩ = some (.int .i64 z.id)) wB := ⟨LXd.out _ BC1.out, ZI.out _ BC1.out⟩
                refine manyL (L := [12, 17]) (by kernel_rfl) (by decide) (fun i hi => ?_)
                simp only [List.mem_cons, List.not_mem_nil, or_false] at hi
                rcases hi with rfl | rfl
                · refine ⟨_, rfl, fun K hK => ?_⟩
                  go_simp
                  refine (CBl.out wB BC1.out).mono ?_
                  rintro e wc ⟨rfl, hb⟩
                  have BC2 := hide (BC1.out.trans (hb.mono BC1.out.size))
                  replace hB := hide (hB.out.below hb)
                  clear hb
                  refine hK.out _ _ ?_ ?_
                  · exact ⟨LXd.out _ BC2.out, ZI.out _ BC2.out⟩
                  clear hK K
                  try simp only [Act.put, List.setIfInBounds_toArray, List.set_cons_zero, List.set_cons_succ]
                  clear hHeld
                  have hHeld : (fun w' => (Instr.loadAt 28 (.pointer (some ⟨g, i * 3, none⟩))).run Tryd.prog w' = .ok (.agg #[.int .i64 (p), .int .u64 (q)]) w' ∧ w'.cell? ⟨rg, ro + k * 5, none⟩ = some (.int .i64 z.id)) wc := ⟨LXd.out _ BC2.out, ZI.out _ BC2.out⟩
                  refine pickA (v := ?_) 13 (some 101) rfl rfl (by kernel_rfl) (by kernel_rfl) (by kernel_rfl) (by decide) (fun _ _ _ h => h) (by rfl) ?_ (by assumption) ?_
                  rotate_left
                  · intro w'
                    go_simp
                    try with_reducible rfl
                  try simp only [Act.put, List.setIfInBounds_toArray, List.set_cons_zero, List.set_cons_succ]
                  refine pickA (v := ?_) 14 (some 115) rfl rfl (by kernel_rfl) (by kernel_rfl) (by kernel_rfl) (by decide) (fun _ _ _ h => h) (by rfl) ?_ (by assumption) ?_
                  rotate_left
                  · intro w'
                    go_simp
                    try with_reducible rfl
                  try simp only [Act.put, List.setIfInBounds_toArray, List.set_cons_zero, List.set_cons_succ]
                  refine pickA (v := ?_) 15 (some 116) rfl rfl (by kernel_rfl) (by kernel_rfl) (by kernel_rfl) (by decide) (fun _ _ _ h => h) (by rfl) ?_ (by assumption) ?_
                  rotate_left
                  · intro w'
                    go_simp
                    try with_reducible rfl
                  try simp only [Act.put, List.setIfInBounds_toArray, List.set_cons_zero, List.set_cons_succ]
                  refine pickA (v := ?_) 16 (some 117) rfl rfl (by kernel_rfl) (by kernel_rfl) (by kernel_rfl) (by decide) (fun _ _ _ h => h) (by rfl) ?_ (by assumption) ?_
                  rotate_left
                  · intro w'
                    go_simp
                    try with_reducible rfl
                  try simp only [Act.put, List.setIfInBounds_toArray, List.set_cons_zero, List.set_cons_succ]
                  refine oneL (i := 17) (by kernel_rfl) rfl (fun K hK => ?_)
                  go_simp
                  have b0 := gb1 wc (.cells #[.int .i64 0, .int .i64 0, .int .u64 0, .int .i64 0, .int .u64 0] 30)
                  have hA := hide (IsB.new wc #[.int .i64 0, .int .i64 0, .int .u64 0, .int .i64 0, .int .u64 0] 30)
                  have BC3 := hide (BC2.out.trans (b0.mono BC2.out.size))
                  obtain ⟨gA, hgA⟩ : ∃ z, wc.heap.size = z := ⟨_, rfl⟩
                  have hbA : WD.heap.size ≤ gA := by rw [← hgA]; exact BC2.out.size
                  have hne : gA ≠ gB := by have := hB.out.lt; omega
                  replace hB := hide (hB.out.below b0)
                  rw [hgA] at hA ⊢
                  clear b0
                  generalize wc.alloc (.cells #[.int .i64 0, .int .i64 0, .int .u64 0, .int .i64 0, .int .u64 0] 30) = wA at *
                  refine hK.out _ _ ?_ ?_
                  · exact ⟨LXd.out _ BC3.out, ZI.out _ BC3.out⟩
                  clear hK K
                  try simp only [Act.put, List.setIfInBounds_toArray, List.set_cons_zero, List.set_cons_succ]
                  clear hHeld
                  have hHeld : (fun w' => (Instr.loadAt 28 (.pointer (some ⟨g, i * 3, none⟩))).run Tryd.prog w' = .ok (.agg #[.int .i64 (p), .int .u64 (q)]) w' ∧ w'.cell? ⟨rg, ro + k * 5, none⟩ = some (.int .i64 z.id)) wA := ⟨LXd.out _ BC3.out, ZI.out _ BC3.out⟩
                  refine oneL (i := 19) (by kernel_rfl) rfl (fun K hK => ?_)
                  obtain ⟨wS, hst, hn, hk⟩ := st_ref (x := zr) hA.out (⟨y0, y1, y2, y3, y4⟩ : Rf)
                  have BC4 := hide (BC3.out.trans (hk.to_below BC3.out.size (by simp; omega)))
                  replace hB := hide (hB.out.kp hk (by simp; omega))
                  replace hA := hide hn
                  have HS := hide hst
                  clear hst hk hn
                  refine step_store_w rfl 30 (.tmp 19) (.tmp 115) rfl rfl rfl HS.out ?_
                  refine hK.out _ _ ?_ ?_
                  · exact ⟨LXd.out _ BC4.out, ZI.out _ BC4.out⟩
                  clear hK K
                  try simp only [Act.put, List.setIfInBounds_toArray]
                  clear hHeld
                  have hHeld : (fun w' => (Instr.loadAt 28 (.pointer (some ⟨g, i * 3, none⟩))).run Tryd.prog w' = .ok (.agg #[.int .i64 (p), .int .u64 (q)]) w' ∧ w'.cell? ⟨rg, ro + k * 5, none⟩ = some (.int .i64 z.id)) wS := ⟨LXd.out _ BC4.out, ZI.out _ BC4.out⟩
                  refine oneL (i := 20) (by kernel_rfl) rfl (fun K hK => ?_)
                  obtain ⟨wT, hst, hn, hk⟩ := st_ref (x := zr) hB.out (⟨v0, v1, v2, v3, v4⟩ : Rf)
                  have BC5 := hide (BC4.out.trans (hk.to_below BC4.out.size (by simp; omega)))
                  replace hA := hide (hA.out.kp hk (by simp; omega))
                  replace hB := hide hn
                  have HS := hide hst
                  clear hst hk hn
                  refine step_store_w rfl 30 (.tmp 20) (.tmp 116) rfl rfl rfl HS.out ?_
                  refine hK.out _ _ ?_ ?_
                  · exact ⟨LXd.out _ BC5.out, ZI.out _ BC5.out⟩
                  clear hK K
                  try simp only [Act.put]
                  clear hHeld
                  have hHeld : (fun w' => (Instr.loadAt 28 (.pointer (some ⟨g, i * 3, none⟩))).run Tryd.prog w' = .ok (.agg #[.int .i64 (p), .int .u64 (q)]) w' ∧ w'.cell? ⟨rg, ro + k * 5, none⟩ = some (.int .i64 z.id)) wT := ⟨LXd.out _ BC5.out, ZI.out _ BC5.out⟩
                  refine pickA (v := ?_) 21 (some 21) rfl rfl (by kernel_rfl) (by kernel_rfl) (by kernel_rfl) (by decide) (fun _ _ _ h => h) (by rfl) ?_ (by assumption) ?_
                  rotate_left
                  · intro w'
                    go_simp
                    try with_reducible rfl
                  try simp only [Act.put]
                  refine doneL (by kernel_rfl) ?_ _
                  clear hHeld
                  show K1 _ _
                  go_simp
                  exact TAIL gA gB wT (⟨BC5, hA, hB⟩)
                · refine ⟨_, rfl, fun K hK => ?_⟩
                  go_simp
                  have b0 := gb1 wB (.cells #[.int .i64 0, .int .i64 0, .int .u64 0, .int .i64 0, .int .u64 0] 30)
                  have hA := hide (IsB.new wB #[.int .i64 0, .int .i64 0, .int .u64 0, .int .i64 0, .int .u64 0] 30)
                  have BC2 := hide (BC1.out.trans (b0.mono BC1.out.size))
                  obtain ⟨gA, hgA⟩ : ∃ z, wB.heap.size = z := ⟨_, rfl⟩
                  have hbA : WD.heap.size ≤ gA := by rw [← hgA]; exact BC1.out.size
                  have hne : gA ≠ gB := by have := hB.out.lt; omega
                  replace hB := hide (hB.out.below b0)
                  rw [hgA] at hA ⊢
                  clear b0
                  generalize wB.alloc (.cells #[.int .i64 0, .int .i64 0, .int .u64 0, .int .i64 0, .int .u64 0] 30) = wA at *
                  refine hK.out _ _ ?_ ?_
                  · exact ⟨LXd.out _ BC2.out, ZI.out _ BC2.out⟩
                  clear hK K
                  try simp only [Act.put, List.setIfInBounds_toArray, List.set_cons_zero, List.set_cons_succ]
                  clear hHeld
                  have hHeld : (fun w' => (Instr.loadAt 28 (.pointer (some ⟨g, i * 3, none⟩))).run Tryd.prog w' = .ok (.agg #[.int .i64 (p), .int .u64 (q)]) w' ∧ w'.cell? ⟨rg, ro + k * 5, none⟩ = some (.int .i64 z.id)) wA := ⟨LXd.out _ BC2.out, ZI.out _ BC2.out⟩
                  refine oneL (i := 12) (by kernel_rfl) rfl (fun K hK => ?_)
                  go_simp
                  refine (CBl.out wA BC2.out).mono ?_
                  rintro e wc ⟨rfl, hb⟩
                  have BC3 := hide (BC2.out.trans (hb.mono BC2.out.size))
                  replace hA := hide (hA.out.below hb)
                  replace hB := hide (hB.out.below hb)
                  clear hb
                  refine hK.out _ _ ?_ ?_
                  · exact ⟨LXd.out _ BC3.out, ZI.out _ BC3.out⟩
                  clear hK K
                  try simp only [Act.put, List.setIfInBounds_toArray, List.set_cons_zero, List.set_cons_succ]
                  clear hHeld
                  have hHeld : (fun w' => (Instr.loadAt 28 (.pointer (some ⟨g, i * 3, none⟩))).run Tryd.prog w' = .ok (.agg #[.int .i64 (p), .int .u64 (q)]) w' ∧ w'.cell? ⟨rg, ro + k * 5, none⟩ = some (.int .i64 z.id)) wc := ⟨LXd.out _ BC3.out, ZI.out _ BC3.out⟩
                  refine pickA (v := ?_) 13 (some 101) rfl rfl (by kernel_rfl) (by kernel_rfl) (by kernel_rfl) (by decide) (fun _ _ _ h => h) (by rfl) ?_ (by assumption) ?_
                  rotate_left
                  · intro w'
                    go_simp
                    try with_reducible rfl
                  try simp only [Act.put, List.setIfInBounds_toArray, List.set_cons_zero, List.set_cons_succ]
                  refine pickA (v := ?_) 14 (some 115) rfl rfl (by kernel_rfl) (by kernel_rfl) (by kernel_rfl) (by decide) (fun _ _ _ h => h) (by rfl) ?_ (by assumption) ?_
                  rotate_left
                  · intro w'
                    go_simp
                    try with_reducible rfl
                  try simp only [Act.put, List.setIfInBounds_toArray, List.set_cons_zero, List.set_cons_succ]
                  refine pickA (v := ?_) 15 (some 116) rfl rfl (by kernel_rfl) (by kernel_rfl) (by kernel_rfl) (by decide) (fun _ _ _ h => h) (by rfl) ?_ (by assumption) ?_
                  rotate_left
                  · intro w'
                    go_simp
                    try with_reducible rfl
                  try simp only [Act.put, List.setIfInBounds_toArray, List.set_cons_zero, List.set_cons_succ]
                  refine pickA (v := ?_) 16 (some 117) rfl rfl (by kernel_rfl) (by kernel_rfl) (by kernel_rfl) (by decide) (fun _ _ _ h => h) (by rfl) ?_ (by assumption) ?_
                  rotate_left
                  · intro w'
                    go_simp
                    try with_reducible rfl
                  try simp only [Act.put, List.setIfInBounds_toArray, List.set_cons_zero, List.set_cons_succ]
                  refine oneL (i := 19) (by kernel_rfl) rfl (fun K hK => ?_)
                  obtain ⟨wS, hst, hn, hk⟩ := st_ref (x := zr) hA.out (⟨y0, y1, y2, y3, y4⟩ : Rf)
                  have BC4 := hide (BC3.out.trans (hk.to_below BC3.out.size (by simp; omega)))
                  replace hB := hide (hB.out.kp hk (by simp; omega))
                  replace hA := hide hn
                  have HS := hide hst
                  clear hst hk hn
                  refine step_store_w rfl 30 (.tmp 19) (.tmp 115) rfl rfl rfl HS.out ?_
                  refine hK.out _ _ ?_ ?_
                  · exact ⟨LXd.out _ BC4.out, ZI.out _ BC4.out⟩
                  clear hK K
                  try simp only [Act.put, List.setIfInBounds_toArray]
                  clear hHeld
                  have hHeld : (fun w' => (Instr.loadAt 28 (.pointer (some ⟨g, i * 3, none⟩))).run Tryd.prog w' = .ok (.agg #[.int .i64 (p), .int .u64 (q)]) w' ∧ w'.cell? ⟨rg, ro + k * 5, none⟩ = some (.int .i64 z.id)) wS := ⟨LXd.out _ BC4.out, ZI.out _ BC4.out⟩
                  refine oneL (i := 20) (by kernel_rfl) rfl (fun K hK => ?_)
                  obtain ⟨wT, hst, hn, hk⟩ := st_ref (x := zr) hB.out (⟨v0, v1, v2, v3, v4⟩ : Rf)
                  have BC5 := hide (BC4.out.trans (hk.to_below BC4.out.size (by simp; omega)))
                  replace hA := hide (hA.out.kp hk (by simp; omega))
                  replace hB := hide hn
                  have HS := hide hst
                  clear hst hk hn
                  refine step_store_w rfl 30 (.tmp 20) (.tmp 116) rfl rfl rfl HS.out ?_
                  refine hK.out _ _ ?_ ?_
                  · exact ⟨LXd.out _ BC5.out, ZI.out _ BC5.out⟩
                  clear hK K
                  try simp only [Act.put]
                  clear hHeld
                  have hHeld : (fun w' => (Instr.loadAt 28 (.pointer (some ⟨g, i * 3, none⟩))).run Tryd.prog w' = .ok (.agg #[.int .i64 (p), .int .u64 (q)]) w' ∧ w'.cell? ⟨rg, ro + k * 5, none⟩ = some (.int .i64 z.id)) wT := ⟨LXd.out _ BC5.out, ZI.out _ BC5.out⟩
                  refine pickA (v := ?_) 21 (some 21) rfl rfl (by kernel_rfl) (by kernel_rfl) (by kernel_rfl) (by decide) (fun _ _ _ h => h) (by rfl) ?_ (by assumption) ?_
                  rotate_left
                  · intro w'
                    go_simp
                    try with_reducible rfl
                  try simp only [Act.put]
                  refine doneL (by kernel_rfl) ?_ _
                  clear hHeld
                  show K1 _ _
                  go_simp
                  exact TAIL gA gB wT (⟨BC5, hA, hB⟩)
            case tail17 =>
              intro gU gV w10 F8
              obtain ⟨BW8, hA, hB⟩ := F8
              replace LS := hide (LS.out.below BW8.out)
              replace LM := hide (LM.out.below BW8.out)
              replace XB := hide (XB.out.below BW8.out)
              replace HR := hide (HR.out.below BW8.out)
              replace LR := hide (LR.out.below BW8.out)
              replace RO := hide (RO.out.below BW8.out)
              replace Xa := hide (Xa.out.below BW8.out)
              replace Xb := hide (Xb.out.below BW8.out)
              replace Pa := hide (Pa.out.below BW8.out)
              replace Pb := hide (Pb.out.below BW8.out)
              replace B := hide (B.out.trans (BW8.out.mono B.out.size))
              replace BW0 := hide (BW0.out.trans (BW8.out.mono BW0.out.size))
              have Ua := hA
              have Ub := hB
              clear hA hB BW8 LXd CBl BC0 hWD ZI
              refine hK1 _ _ ?_
              clear hK1 K1
              go_wp2_with fail
              have dr := (Below.refl w10.heap.size w10).drew
              obtain ⟨WD, hWD⟩ : ∃ W, w10.drew = W := ⟨_, rfl⟩
              rw [hWD] at dr
              replace LS := hide (LS.out.below dr)
              replace LM := hide (LM.out.below dr)
              replace XB := hide (XB.out.below dr)
              replace HR := hide (HR.out.below dr)
              replace LR := hide (LR.out.below dr)
              replace RO := hide (RO.out.below dr)
              replace Xa := hide (Xa.out.below dr)
              replace Xb := hide (Xb.out.below dr)
              replace Pa := hide (Pa.out.below dr)
              replace Pb := hide (Pb.out.below dr)
              replace Ua := hide (Ua.out.below dr)
              replace Ub := hide (Ub.out.below dr)
              replace B := hide (B.out.trans (dr.mono B.out.size))
              replace BW0 := hide (BW0.out.trans (dr.mono BW0.out.size))
              clear dr
              have LZ : Hid ((Instr.loadAt 30 (.pointer (some ⟨rg, ro + k * 5, none⟩))).run Tryd.prog WD = .ok (.agg #[.int .i64 z.id, .int .i64 z.rk, .int .u64 z.kn, .int .i64 z.ln, .int .u64 z.bt]) WD) := by rw [← hz]; exact RO.out.ldr k hkR
              by_cases hfx : fx = 0
              · subst hfx
                by_cases hz1 : z = (⟨a0, a1, a2, a3, a4⟩ : Rf)
                · have hza : Hid (decide (z = (⟨a0, a1, a2, a3, a4⟩ : Rf)) = true) := decide_eq_true hz1
                  clear hz1
                  refine regionL 19 (fun w' => IsB w' gA #[.int .i64 a0, .int .i64 a1, .int .u64 a2, .int .i64 a3, .int .u64 a4] 30 ∧ IsB w' gB #[.int .i64 b0, .int .i64 b1, .int .u64 b2, .int .i64 b3, .int .u64 b4] 30 ∧ (Instr.loadAt 30 (.pointer (some ⟨rg, ro + k * 5, none⟩))).run Tryd.prog w' = .ok (.agg #[.int .i64 z.id, .int .i64 z.rk, .int .u64 z.kn, .int .i64 z.ln, .int .u64 z.bt]) w') mixed (by rw [hWD]; exact ⟨Xa.out, Xb.out, LZ.out⟩) (fun hHeld => ?_)
                  rw [hWD] at hHeld ⊢
                  refine pickA (v := ?_) 0 (some 118) rfl rfl (by kernel_rfl) (by kernel_rfl) (by kernel_rfl) (by decide) (fun _ _ _ h => h) (by rfl) ?_ (by assumption) ?_
                  rotate_left
                  · intro w'
                    go_simp
                    try with_reducible rfl
                  try simp only [Act.put, List.setIfInBounds_toArray, List.set_cons_zero, List.set_cons_succ]
                  refine pickA (v := .bool true) 1 (some 119) rfl rfl (by kernel_rfl) (by kernel_rfl) (by kernel_rfl) (by decide) (fun _ _ _ h => h) (by rfl) ?_ (by assumption) ?_
                  · intro w'
                    go_simp
                    try with_reducible rfl
                  try simp only [Act.put, List.setIfInBounds_toArray, List.set_cons_zero, List.set_cons_succ]
                  refine pickA (v := ?_) 2 (some 120) rfl rfl (by kernel_rfl) (by kernel_rfl) (by kernel_rfl) (by decide) (fun _ _ _ h => h) (by rfl) ?_ (by assumption) ?_
                  rotate_left
                  · intro w'
                    go_simp
                    try with_reducible rfl
                  try simp only [Act.put, List.setIfInBounds_toArray, List.set_cons_zero, List.set_cons_succ]
                  refine pickA (v := ?_) 3 (some 121) rfl rfl (by kernel_rfl) (by kernel_rfl) (by kernel_rfl) (by decide) (fun _ _ _ h => h) (by rfl) ?_ (by assumption) ?_
                  rotate_left
                  · intro w'
                    go_simp
                    try with_reducible rfl
                  try simp only [Act.put, List.setIfInBounds_toArray, List.set_cons_zero, List.set_cons_succ]
                  refine pickA (v := ?_) 4 (some 122) rfl rfl (by kernel_rfl) (by kernel_rfl) (by kernel_rfl) (by decide) (fun _ _ _ h => h) (by rfl) ?_ (by assumption) ?_
                  rotate_left
                  · intro w'
                    go_simp
                    try with_reducible rfl
                  try simp only [Act.put, List.setIfInBounds_toArray, List.set_cons_zero, List.set_cons_succ]
                  refine pickA (v := ?_) 5 (some 123) rfl rfl (by kernel_rfl) (by kernel_rfl) (by kernel_rfl) (by decide) (fun _ _ _ h => h) (by rfl) ?_ (by assumption) ?_
                  rotate_left
                  · intro w'
                    go_simp
                    try with_reducible rfl
                  try simp only [Act.put, List.setIfInBounds_toArray, List.set_cons_zero, List.set_cons_succ]
                  refine pickL (v := .agg #[.int .i64 z.id, .int .i64 z.rk, .int .u64 z.kn, .int .i64 z.ln, .int .u64 z.bt]) 6 (some 124) rfl rfl (by kernel_rfl) (by kernel_rfl) (by kernel_rfl) (by decide) (by kernel_rfl) (by kernel_rfl) (fun _ _ _ h => h) (by rfl) ?_ (by assumption) ?_
                  · intro w' hSw
                    obtain ⟨q0, q1, q2⟩ := hSw
                    exact exec_load rfl rfl q2
                  try simp only [Act.put, List.setIfInBounds_toArray, List.set_cons_zero, List.set_cons_succ]
                  refine pickL (v := .agg #[.int .i64 a0, .int .i64 a1, .int .u64 a2, .int .i64 a3, .int .u64 a4]) 7 (some 125) rfl rfl (by kernel_rfl) (by kernel_rfl) (by kernel_rfl) (by decide) (by kernel_rfl) (by kernel_rfl) (fun _ _ _ h => h) (by rfl) ?_ (by assumption) ?_
                  · intro w' hSw
                    obtain ⟨q0, q1, q2⟩ := hSw
                    exact exec_load rfl rfl (load_ref q0 rfl)
                  try simp only [Act.put, List.setIfInBounds_toArray, List.set_cons_zero, List.set_cons_succ]
                  refine pickA (v := .bool true) 8 (some 126) rfl rfl (by kernel_rfl) (by kernel_rfl) (by kernel_rfl) (by decide) (fun _ _ _ h => h) (by rfl) ?_ (by assumption) ?_
                  · intro w'
                    exact exec_bin rguard rfl rfl rfl ((eqr_w z (⟨a0, a1, a2, a3, a4⟩ : Rf) _).trans (by rw [hza.out]))
                  try simp only [Act.put, List.setIfInBounds_toArray, List.set_cons_zero, List.set_cons_succ]
                  refine pickA (v := ?_) 9 (some 127) rfl rfl (by kernel_rfl) (by kernel_rfl) (by kernel_rfl) (by decide) (fun _ _ _ h => h) (by rfl) ?_ (by assumption) ?_
                  rotate_left
                  · intro w'
                    go_simp
                    try with_reducible rfl
                  try simp only [Act.put, List.setIfInBounds_toArray, List.set_cons_zero, List.set_cons_succ]
                  refine pickN 10 (some 128) rfl rfl (by kernel_rfl) (by kernel_rfl) (by kernel_rfl) (by decide) (fun _ _ _ h => h) (by rfl) (by assumption) ?_
                  try simp only [Act.put, List.setIfInBounds_toArray, List.set_cons_zero, List.set_cons_succ]
                  refine pickN 11 (some 129) rfl rfl (by kernel_rfl) (by kernel_rfl) (by kernel_rfl) (by decide) (fun _ _ _ h => h) (by rfl) (by assumption) ?_
                  try simp only [Act.put, List.setIfInBounds_toArray, List.set_cons_zero, List.set_cons_succ]
                  refine pickN 12 (some 130) rfl rfl (by kernel_rfl) (by kernel_rfl) (by kernel_rfl) (by decide) (fun _ _ _ h => h) (by rfl) (by assumption) ?_
                  try simp only [Act.put, List.setIfInBounds_toArray, List.set_cons_zero, List.set_cons_succ]
                  refine pickN 13 (some 131) rfl rfl (by kernel_rfl) (by kernel_rfl) (by kernel_rfl) (by decide) (fun _ _ _ h => h) (by rfl) (by assumption) ?_
                  try simp only [Act.put, List.setIfInBounds_toArray, List.set_cons_zero, List.set_cons_succ]
                  refine pickN 14 (some 132) rfl rfl (by kernel_rfl) (by kernel_rfl) (by kernel_rfl) (by decide) (fun _ _ _ h => h) (by rfl) (by assumption) ?_
                  try simp only [Act.put, List.setIfInBounds_toArray, List.set_cons_zero, List.set_cons_succ]
                  refine pickN 15 (some 133) rfl rfl (by kernel_rfl) (by kernel_rfl) (by kernel_rfl) (by decide) (fun _ _ _ h => h) (by rfl) (by assumption) ?_
                  try simp only [Act.put, List.setIfInBounds_toArray, List.set_cons_zero, List.set_cons_succ]
                  refine pickA (v := ?_) 16 (some 134) rfl rfl (by kernel_rfl) (by kernel_rfl) (by kernel_rfl) (by decide) (fun _ _ _ h => h) (by rfl) ?_ (by assumption) ?_
                  rotate_left
                  · intro w'
                    go_simp
                    try with_reducible rfl
                  try simp only [Act.put, List.setIfInBounds_toArray, List.set_cons_zero, List.set_cons_succ]
                  refine pickA (v := ?_) 17 (some 135) rfl rfl (by kernel_rfl) (by kernel_rfl) (by kernel_rfl) (by decide) (fun _ _ _ h => h) (by rfl) ?_ (by assumption) ?_
                  rotate_left
                  · intro w'
                    go_simp
                    try with_reducible rfl
                  try simp only [Act.put, List.setIfInBounds_toArray, List.set_cons_zero, List.set_cons_succ]
                  refine pickA (v := ?_) 18 (some 22) rfl rfl (by kernel_rfl) (by kernel_rfl) (by kernel_rfl) (by decide) (fun _ _ _ h => h) (by rfl) ?_ (by assumption) ?_
                  rotate_left
                  · intro w'
                    go_simp
                    try with_reducible rfl
                  try simp only [Act.put, List.setIfInBounds_toArray, List.set_cons_zero, List.set_cons_succ]
                  refine doneL (by kernel_rfl) ?_ _
                  clear hHeld
                  clear LZ hWD
                  have HBG : Hid (bgS x.ln x.bt p q = true) := by
                    show _ = _
                    rw [bgS_prV (hg2.out.2.1.1 x (by simp)) HU.out]
                    simp only [decide_eq_true_eq]
                    exact nf.out.1 rfl
                  go_wp2_with fail
                  have dr := (Below.refl WD.heap.size WD).drew
                  obtain ⟨WE, hWE⟩ : ∃ W, WD.drew = W := ⟨_, rfl⟩
                  rw [hWE] at dr
                  replace LS := hide (LS.out.below dr)
                  replace LM := hide (LM.out.below dr)
                  replace XB := hide (XB.out.below dr)
                  replace HR := hide (HR.out.below dr)
                  replace LR := hide (LR.out.below dr)
                  replace RO := hide (RO.out.below dr)
                  replace Xa := hide (Xa.out.below dr)
                  replace Xb := hide (Xb.out.below dr)
                  replace Pa := hide (Pa.out.below dr)
                  replace Pb := hide (Pb.out.below dr)
                  replace Ua := hide (Ua.out.below dr)
                  replace Ub := hide (Ub.out.below dr)
                  replace B := hide (B.out.trans (dr.mono B.out.size))
                  replace BW0 := hide (BW0.out.trans (dr.mono BW0.out.size))
                  clear dr
                  have LXd := hide (LX.out _ BW0.out)
                  refine regionL 33 (fun w' => IsB w' gP #[.int .i64 s0, .int .i64 s1, .int .u64 s2, .int .i64 s3, .int .u64 s4] 30 ∧ IsB w' gU #[.int .i64 y0, .int .i64 y1, .int .u64 y2, .int .i64 y3, .int .u64 y4] 30 ∧ IsB w' gQ #[.int .i64 t0, .int .i64 t1, .int .u64 t2, .int .i64 t3, .int .u64 t4] 30 ∧ IsB w' gV #[.int .i64 v0, .int .i64 v1, .int .u64 v2, .int .i64 v3, .int .u64 v4] 30 ∧ IsB w' g0 #[.int .i64 x.id, .int .i64 x.rk, .int .u64 x.kn, .int .i64 x.ln, .int .u64 x.bt] 30 ∧ (Instr.loadAt 28 (.pointer (some ⟨g, i * 3, none⟩))).run Tryd.prog w' = .ok (.agg #[.int .i64 (p), .int .u64 (q)]) w') mixed (by rw [hWE]; exact ⟨Pa.out, Ua.out, Pb.out, Ub.out, XB.out, LXd.out⟩) (fun hHeld => ?_)
                  rw [hWE] at hHeld ⊢
                  refine pickA (v := ?_) 0 (some 136) rfl rfl (by kernel_rfl) (by kernel_rfl) (by kernel_rfl) (by decide) (fun _ _ _ h => h) (by rfl) ?_ (by assumption) ?_
                  rotate_left
                  · intro w'
                    go_simp
                    try with_reducible rfl
                  try simp only [Act.put, List.setIfInBounds_toArray, List.set_cons_zero, List.set_cons_succ]
                  refine pickA (v := .bool false) 1 (some 137) rfl rfl (by kernel_rfl) (by kernel_rfl) (by kernel_rfl) (by decide) (fun _ _ _ h => h) (by rfl) ?_ (by assumption) ?_
                  · intro w'
                    go_simp
                    try with_reducible rfl
                  try simp only [Act.put, List.setIfInBounds_toArray, List.set_cons_zero, List.set_cons_succ]
                  refine pickA (v := ?_) 2 (some 138) rfl rfl (by kernel_rfl) (by kernel_rfl) (by kernel_rfl) (by decide) (fun _ _ _ h => h) (by rfl) ?_ (by assumption) ?_
                  rotate_left
                  · intro w'
                    go_simp
                    try with_reducible rfl
                  try simp only [Act.put, List.setIfInBounds_toArray, List.set_cons_zero, List.set_cons_succ]
                  refine pickA (v := ?_) 3 (some 139) rfl rfl (by kernel_rfl) (by kernel_rfl) (by kernel_rfl) (by decide) (fun _ _ _ h => h) (by rfl) ?_ (by assumption) ?_
                  rotate_left
                  · intro w'
                    go_simp
                    try with_reducible rfl
                  try simp only [Act.put, List.setIfInBounds_toArray, List.set_cons_zero, List.set_cons_succ]
                  refine pickA (v := .bool false) 4 (some 140) rfl rfl (by kernel_rfl) (by kernel_rfl) (by kernel_rfl) (by decide) (fun _ _ _ h => h) (by rfl) ?_ (by assumption) ?_
                  · intro w'
                    go_simp
                    try with_reducible rfl
                  try simp only [Act.put, List.setIfInBounds_toArray, List.set_cons_zero, List.set_cons_succ]
                  refine pickA (v := ?_) 5 (some 141) rfl rfl (by kernel_rfl) (by kernel_rfl) (by kernel_rfl) (by decide) (fun _ _ _ h => h) (by rfl) ?_ (by assumption) ?_
                  rotate_left
                  · intro w'
                    go_simp
                    try with_reducible rfl
                  try simp only [Act.put, List.setIfInBounds_toArray, List.set_cons_zero, List.set_cons_succ]
                  refine pickA (v := ?_) 6 (some 142) rfl rfl (by kernel_rfl) (by kernel_rfl) (by kernel_rfl) (by decide) (fun _ _ _ h => h) (by rfl) ?_ (by assumption) ?_
                  rotate_left
                  · intro w'
                    go_simp
                    try with_reducible rfl
                  try simp only [Act.put, List.setIfInBounds_toArray, List.set_cons_zero, List.set_cons_succ]
                  refine pickA (v := ?_) 7 (some 143) rfl rfl (by kernel_rfl) (by kernel_rfl) (by kernel_rfl) (by decide) (fun _ _ _ h => h) (by rfl) ?_ (by assumption) ?_
                  rotate_left
                  · intro w'
                    go_simp
                    try with_reducible rfl
                  try simp only [Act.put, List.setIfInBounds_toArray, List.set_cons_zero, List.set_cons_succ]
                  refine pickA (v := ?_) 8 (some 144) rfl rfl (by kernel_rfl) (by kernel_rfl) (by kernel_rfl) (by decide) (fun _ _ _ h => h) (by rfl) ?_ (by assumption) ?_
                  rotate_left
                  · intro w'
                    go_simp
                    try with_reducible rfl
                  try simp only [Act.put, List.setIfInBounds_toArray, List.set_cons_zero, List.set_cons_succ]
                  refine pickA (v := ?_) 9 (some 145) rfl rfl (by kernel_rfl) (by kernel_rfl) (by kernel_rfl) (by decide) (fun _ _ _ h => h) (by rfl) ?_ (by assumption) ?_
                  rotate_left
                  · intro w'
                    go_simp
                    try with_reducible rfl
                  try simp only [Act.put, List.setIfInBounds_toArray, List.set_cons_zero, List.set_cons_succ]
                  refine pickN 10 (some 146) rfl rfl (by kernel_rfl) (by kernel_rfl) (by kernel_rfl) (by decide) (fun _ _ _ h => h) (by rfl) (by assumption) ?_
                  try simp only [Act.put, List.setIfInBounds_toArray, List.set_cons_zero, List.set_cons_succ]
                  refine pickN 11 (some 147) rfl rfl (by kernel_rfl) (by kernel_rfl) (by kernel_rfl) (by decide) (fun _ _ _ h => h) (by rfl) (by assumption) ?_
                  try simp only [Act.put, List.setIfInBounds_toArray, List.set_cons_zero, List.set_cons_succ]
                  refine pickN 12 (some 148) rfl rfl (by kernel_rfl) (by kernel_rfl) (by kernel_rfl) (by decide) (fun _ _ _ h => h) (by rfl) (by assumption) ?_
                  try simp only [Act.put, List.setIfInBounds_toArray, List.set_cons_zero, List.set_cons_succ]
                  refine pickN 13 (some 149) rfl rfl (by kernel_rfl) (by kernel_rfl) (by kernel_rfl) (by decide) (fun _ _ _ h => h) (by rfl) (by assumption) ?_
                  try simp only [Act.put, List.setIfInBounds_toArray, List.set_cons_zero, List.set_cons_succ]
                  refine pickN 14 (some 150) rfl rfl (by kernel_rfl) (by kernel_rfl) (by kernel_rfl) (by decide) (fun _ _ _ h => h) (by rfl) (by assumption) ?_
                  try simp only [Act.put, List.setIfInBounds_toArray, List.set_cons_zero, List.set_cons_succ]
                  refine pickN 15 (some 151) rfl rfl (by kernel_rfl) (by kernel_rfl) (by kernel_rfl) (by decide) (fun _ _ _ h => h) (by rfl) (by assumption) ?_
                  try simp only [Act.put, List.setIfInBounds_toArray, List.set_cons_zero, List.set_cons_succ]
                  refine pickN 16 (some 152) rfl rfl (by kernel_rfl) (by kernel_rfl) (by kernel_rfl) (by decide) (fun _ _ _ h => h) (by rfl) (by assumption) ?_
                  try simp only [Act.put, List.setIfInBounds_toArray, List.set_cons_zero, List.set_cons_succ]
                  refine pickN 17 (some 153) rfl rfl (by kernel_rfl) (by kernel_rfl) (by kernel_rfl) (by decide) (fun _ _ _ h => h) (by rfl) (by assumption) ?_
                  try simp only [Act.put, List.setIfInBounds_toArray, List.set_cons_zero, List.set_cons_succ]
                  refine pickA (v := ?_) 18 (some 154) rfl rfl (by kernel_rfl) (by kernel_rfl) (by kernel_rfl) (by decide) (fun _ _ _ h => h) (by rfl) ?_ (by assumption) ?_
                  rotate_left
                  · intro w'
                    go_simp
                    try with_reducible rfl
                  try simp only [Act.put, List.setIfInBounds_toArray, List.set_cons_zero, List.set_cons_succ]
                  refine pickA (v := ?_) 19 (some 155) rfl rfl (by kernel_rfl) (by kernel_rfl) (by kernel_rfl) (by decide) (fun _ _ _ h => h) (by rfl) ?_ (by assumption) ?_
                  rotate_left
                  · intro w'
                    go_simp
                    try with_reducible rfl
                  try simp only [Act.put, List.setIfInBounds_toArray, List.set_cons_zero, List.set_cons_succ]
                  refine pickA (v := ?_) 20 (some 156) rfl rfl (by kernel_rfl) (by kernel_rfl) (by kernel_rfl) (by decide) (fun _ _ _ h => h) (by rfl) ?_ (by assumption) ?_
                  rotate_left
                  · intro w'
                    go_simp
                    try with_reducible rfl
                  try simp only [Act.put, List.setIfInBounds_toArray, List.set_cons_zero, List.set_cons_succ]
                  refine pickA (v := ?_) 21 (some 157) rfl rfl (by kernel_rfl) (by kernel_rfl) (by kernel_rfl) (by decide) (fun _ _ _ h => h) (by rfl) ?_ (by assumption) ?_
                  rotate_left
                  · intro w'
                    go_simp
                    try with_reducible rfl
                  try simp only [Act.put, List.setIfInBounds_toArray, List.set_cons_zero, List.set_cons_succ]
                  refine pickA (v := .bool true) 22 (some 158) rfl rfl (by kernel_rfl) (by kernel_rfl) (by kernel_rfl) (by decide) (fun _ _ _ h => h) (by rfl) ?_ (by assumption) ?_
                  · intro w'
                    go_simp
                    try with_reducible rfl
                  try simp only [Act.put, List.setIfInBounds_toArray, List.set_cons_zero, List.set_cons_succ]
                  refine pickA (v := ?_) 23 (some 159) rfl rfl (by kernel_rfl) (by kernel_rfl) (by kernel_rfl) (by decide) (fun _ _ _ h => h) (by rfl) ?_ (by assumption) ?_
                  rotate_left
                  · intro w'
                    go_simp
                    try with_reducible rfl
                  try simp only [Act.put, List.setIfInBounds_toArray, List.set_cons_zero, List.set_cons_succ]
                  refine pickL (v := (.agg #[.int .i64 (x.ln), .int .u64 (x.bt)])) 24 (some 160) rfl rfl (by kernel_rfl) (by kernel_rfl) (by kernel_rfl) (by decide) (by kernel_rfl) (by kernel_rfl) (fun _ _ _ h => h) (by rfl) ?_ (by assumption) ?_
                  · intro w' hSw
                    obtain ⟨q0, q1, q2, q3, q4, q5⟩ := hSw
                    exact exec_load rfl rfl (load_mid (cs := [.int .i64 x.id, .int .i64 x.rk, .int .u64 x.kn, .int .i64 x.ln, .int .u64 x.bt]) q4 3 _ [.int .i64 x.ln, .int .u64 x.bt] _ rfl Tryd.underlying28 rfl (by kernel_rfl))
                  try simp only [Act.put, List.setIfInBounds_toArray, List.set_cons_zero, List.set_cons_succ]
                  refine pickA (v := ?_) 25 (some 161) rfl rfl (by kernel_rfl) (by kernel_rfl) (by kernel_rfl) (by decide) (fun _ _ _ h => h) (by rfl) ?_ (by assumption) ?_
                  rotate_left
                  · intro w'
                    go_simp
                    try with_reducible rfl
                  try simp only [Act.put, List.setIfInBounds_toArray, List.set_cons_zero, List.set_cons_succ]
                  refine pickA (v := ?_) 26 (some 162) rfl rfl (by kernel_rfl) (by kernel_rfl) (by kernel_rfl) (by decide) (fun _ _ _ h => h) (by rfl) ?_ (by assumption) ?_
                  rotate_left
                  · intro w'
                    go_simp
                    try with_reducible rfl
                  try simp only [Act.put, List.setIfInBounds_toArray, List.set_cons_zero, List.set_cons_succ]
                  refine pickA (v := ?_) 27 (some 163) rfl rfl (by kernel_rfl) (by kernel_rfl) (by kernel_rfl) (by decide) (fun _ _ _ h => h) (by rfl) ?_ (by assumption) ?_
                  rotate_left
                  · intro w'
                    go_simp
                    try with_reducible rfl
                  try simp only [Act.put, List.setIfInBounds_toArray, List.set_cons_zero, List.set_cons_succ]
                  refine pickA (v := ?_) 28 (some 164) rfl rfl (by kernel_rfl) (by kernel_rfl) (by kernel_rfl) (by decide) (fun _ _ _ h => h) (by rfl) ?_ (by assumption) ?_
                  rotate_left
                  · intro w'
                    go_simp
                    try with_reducible rfl
                  try simp only [Act.put, List.setIfInBounds_toArray, List.set_cons_zero, List.set_cons_succ]
                  refine pickL (v := (.agg #[.int .i64 (p), .int .u64 (q)])) 29 (some 165) rfl rfl (by kernel_rfl) (by kernel_rfl) (by kernel_rfl) (by decide) (by kernel_rfl) (by kernel_rfl) (fun _ _ _ h => h) (by rfl) ?_ (by assumption) ?_
                  · intro w' hSw
                    obtain ⟨q0, q1, q2, q3, q4, q5⟩ := hSw
                    exact exec_load rfl rfl q5
                  try simp only [Act.put, List.setIfInBounds_toArray, List.set_cons_zero, List.set_cons_succ]
                  refine oneL (i := 30) (by kernel_rfl) rfl (fun K hK => ?_)
                  go_simp
                  refine (rBegins_any x.ln x.bt p q HX.out HQ.out WE).mono ?_
                  rintro e wf ⟨rfl, hbf⟩
                  rw [HBG.out]
                  replace LS := hide (LS.out.below hbf)
                  replace LM := hide (LM.out.below hbf)
                  replace XB := hide (XB.out.below hbf)
                  replace HR := hide (HR.out.below hbf)
                  replace LR := hide (LR.out.below hbf)
                  replace RO := hide (RO.out.below hbf)
                  replace Xa := hide (Xa.out.below hbf)
                  replace Xb := hide (Xb.out.below hbf)
                  replace Pa := hide (Pa.out.below hbf)
                  replace Pb := hide (Pb.out.below hbf)
                  replace Ua := hide (Ua.out.below hbf)
                  replace Ub := hide (Ub.out.below hbf)
                  replace B := hide (B.out.trans (hbf.mono B.out.size))
                  replace BW0 := hide (BW0.out.trans (hbf.mono BW0.out.size))
                  clear hbf
                  refine hK.out _ _ ?_ ?_
                  · exact ⟨Pa.out, Ua.out, Pb.out, Ub.out, XB.out, (LX.out _ BW0.out)⟩
                  clear hK K
                  try simp only [Act.put, List.setIfInBounds_toArray, List.set_cons_zero, List.set_cons_succ]
                  clear hHeld
                  have hHeld : (fun w' => IsB w' gP #[.int .i64 s0, .int .i64 s1, .int .u64 s2, .int .i64 s3, .int .u64 s4] 30 ∧ IsB w' gU #[.int .i64 y0, .int .i64 y1, .int .u64 y2, .int .i64 y3, .int .u64 y4] 30 ∧ IsB w' gQ #[.int .i64 t0, .int .i64 t1, .int .u64 t2, .int .i64 t3, .int .u64 t4] 30 ∧ IsB w' gV #[.int .i64 v0, .int .i64 v1, .int .u64 v2, .int .i64 v3, .int .u64 v4] 30 ∧ IsB w' g0 #[.int .i64 x.id, .int .i64 x.rk, .int .u64 x.kn, .int .i64 x.ln, .int .u64 x.bt] 30 ∧ (Instr.loadAt 28 (.pointer (some ⟨g, i * 3, none⟩))).run Tryd.prog w' = .ok (.agg #[.int .i64 (p), .int .u64 (q)]) w') wf := ⟨Pa.out, Ua.out, Pb.out, Ub.out, XB.out, (LX.out _ BW0.out)⟩
                  refine pickA (v := ?_) 31 (some 167) rfl rfl (by kernel_rfl) (by kernel_rfl) (by kernel_rfl) (by decide) (fun _ _ _ h => h) (by rfl) ?_ (by assumption) ?_
                  rotate_left
                  · intro w'
                    go_simp
                    try with_reducible rfl
                  try simp only [Act.put, List.setIfInBounds_toArray, List.set_cons_zero, List.set_cons_succ]
                  refine pickA (v := ?_) 32 (some 168) rfl rfl (by kernel_rfl) (by kernel_rfl) (by kernel_rfl) (by decide) (fun _ _ _ h => h) (by rfl) ?_ (by assumption) ?_
                  rotate_left
                  · intro w'
                    go_simp
                    try with_reducible rfl
                  try simp only [Act.put, List.setIfInBounds_toArray, List.set_cons_zero, List.set_cons_succ]
                  refine doneL (by kernel_rfl) ?_ _
                  clear hHeld
                  go_wp2
                  exact ⟨⟨k + 1, by omega, by simp, LS.out, LM.out, XB.out, HR.out, LR.out, RO.out, Xa.out, Xb.out, BW0.out, B.out⟩, by simp [intOf]; omega⟩
                have hza : Hid (decide (z = (⟨a0, a1, a2, a3, a4⟩ : Rf)) = false) := decide_eq_false hz1
                by_cases hz2 : z = (⟨b0, b1, b2, b3, b4⟩ : Rf)
                · have hzb : Hid (decide (z = (⟨b0, b1, b2, b3, b4⟩ : Rf)) = true) := decide_eq_true hz2
                  clear hz1 hz2
                  refine regionL 19 (fun w' => IsB w' gA #[.int .i64 a0, .int .i64 a1, .int .u64 a2, .int .i64 a3, .int .u64 a4] 30 ∧ IsB w' gB #[.int .i64 b0, .int .i64 b1, .int .u64 b2, .int .i64 b3, .int .u64 b4] 30 ∧ (Instr.loadAt 30 (.pointer (some ⟨rg, ro + k * 5, none⟩))).run Tryd.prog w' = .ok (.agg #[.int .i64 z.id, .int .i64 z.rk, .int .u64 z.kn, .int .i64 z.ln, .int .u64 z.bt]) w') mixed (by rw [hWD]; exact ⟨Xa.out, Xb.out, LZ.out⟩) (fun hHeld => ?_)
                  rw [hWD] at hHeld ⊢
                  refine pickA (v := ?_) 0 (some 118) rfl rfl (by kernel_rfl) (by kernel_rfl) (by kernel_rfl) (by decide) (fun _ _ _ h => h) (by rfl) ?_ (by assumption) ?_
                  rotate_left
                  · intro w'
                    go_simp
                    try with_reducible rfl
                  try simp only [Act.put, List.setIfInBounds_toArray, List.set_cons_zero, List.set_cons_succ]
                  refine pickA (v := .bool true) 1 (some 119) rfl rfl (by kernel_rfl) (by kernel_rfl) (by kernel_rfl) (by decide) (fun _ _ _ h => h) (by rfl) ?_ (by assumption) ?_
                  · intro w'
                    go_simp
                    try with_reducible rfl
                  try simp only [Act.put, List.setIfInBounds_toArray, List.set_cons_zero, List.set_cons_succ]
                  refine pickA (v := ?_) 2 (some 120) rfl rfl (by kernel_rfl) (by kernel_rfl) (by kernel_rfl) (by decide) (fun _ _ _ h => h) (by rfl) ?_ (by assumption) ?_
                  rotate_left
                  · intro w'
                    go_simp
                    try with_reducible rfl
                  try simp only [Act.put, List.setIfInBounds_toArray, List.set_cons_zero, List.set_cons_succ]
                  refine pickA (v := ?_) 3 (some 121) rfl rfl (by kernel_rfl) (by kernel_rfl) (by kernel_rfl) (by decide) (fun _ _ _ h => h) (by rfl) ?_ (by assumption) ?_
                  rotate_left
                  · intro w'
                    go_simp
                    try with_reducible rfl
                  try simp only [Act.put, List.setIfInBounds_toArray, List.set_cons_zero, List.set_cons_succ]
                  refine pickA (v := ?_) 4 (some 122) rfl rfl (by kernel_rfl) (by kernel_rfl) (by kernel_rfl) (by decide) (fun _ _ _ h => h) (by rfl) ?_ (by assumption) ?_
                  rotate_left
                  · intro w'
                    go_simp
                    try with_reducible rfl
                  try simp only [Act.put, List.setIfInBounds_toArray, List.set_cons_zero, List.set_cons_succ]
                  refine pickA (v := ?_) 5 (some 123) rfl rfl (by kernel_rfl) (by kernel_rfl) (by kernel_rfl) (by decide) (fun _ _ _ h => h) (by rfl) ?_ (by assumption) ?_
                  rotate_left
                  · intro w'
                    go_simp
                    try with_reducible rfl
                  try simp only [Act.put, List.setIfInBounds_toArray, List.set_cons_zero, List.set_cons_succ]
                  refine pickL (v := .agg #[.int .i64 z.id, .int .i64 z.rk, .int .u64 z.kn, .int .i64 z.ln, .int .u64 z.bt]) 6 (some 124) rfl rfl (by kernel_rfl) (by kernel_rfl) (by kernel_rfl) (by decide) (by kernel_rfl) (by kernel_rfl) (fun _ _ _ h => h) (by rfl) ?_ (by assumption) ?_
                  · intro w' hSw
                    obtain ⟨q0, q1, q2⟩ := hSw
                    exact exec_load rfl rfl q2
                  try simp only [Act.put, List.setIfInBounds_toArray, List.set_cons_zero, List.set_cons_succ]
                  refine pickL (v := .agg #[.int .i64 a0, .int .i64 a1, .int .u64 a2, .int .i64 a3, .int .u64 a4]) 7 (some 125) rfl rfl (by kernel_rfl) (by kernel_rfl) (by kernel_rfl) (by decide) (by kernel_rfl) (by kernel_rfl) (fun _ _ _ h => h) (by rfl) ?_ (by assumption) ?_
                  · intro w' hSw
                    obtain ⟨q0, q1, q2⟩ := hSw
                    exact exec_load rfl rfl (load_ref q0 rfl)
                  try simp only [Act.put, List.setIfInBounds_toArray, List.set_cons_zero, List.set_cons_succ]
                  refine pickA (v := .bool false) 8 (some 126) rfl rfl (by kernel_rfl) (by kernel_rfl) (by kernel_rfl) (by decide) (fun _ _ _ h => h) (by rfl) ?_ (by assumption) ?_
                  · intro w'
                    exact exec_bin rguard rfl rfl rfl ((eqr_w z (⟨a0, a1, a2, a3, a4⟩ : Rf) _).trans (by rw [hza.out]))
                  try simp only [Act.put, List.setIfInBounds_toArray, List.set_cons_zero, List.set_cons_succ]
                  refine pickA (v := ?_) 9 (some 127) rfl rfl (by kernel_rfl) (by kernel_rfl) (by kernel_rfl) (by decide) (fun _ _ _ h => h) (by rfl) ?_ (by assumption) ?_
                  rotate_left
                  · intro w'
                    go_simp
                    try with_reducible rfl
                  try simp only [Act.put, List.setIfInBounds_toArray, List.set_cons_zero, List.set_cons_succ]
                  refine pickA (v := ?_) 10 (some 128) rfl rfl (by kernel_rfl) (by kernel_rfl) (by kernel_rfl) (by decide) (fun _ _ _ h => h) (by rfl) ?_ (by assumption) ?_
                  rotate_left
                  · intro w'
                    go_simp
                    try with_reducible rfl
                  try simp only [Act.put, List.setIfInBounds_toArray, List.set_cons_zero, List.set_cons_succ]
                  refine pickA (v := ?_) 11 (some 129) rfl rfl (by kernel_rfl) (by kernel_rfl) (by kernel_rfl) (by decide) (fun _ _ _ h => h) (by rfl) ?_ (by assumption) ?_
                  rotate_left
                  · intro w'
                    go_simp
                    try with_reducible rfl
                  try simp only [Act.put, List.setIfInBounds_toArray, List.set_cons_zero, List.set_cons_succ]
                  refine pickA (v := ?_) 12 (some 130) rfl rfl (by kernel_rfl) (by kernel_rfl) (by kernel_rfl) (by decide) (fun _ _ _ h => h) (by rfl) ?_ (by assumption) ?_
                  rotate_left
                  · intro w'
                    go_simp
                    try with_reducible rfl
                  try simp only [Act.put, List.setIfInBounds_toArray, List.set_cons_zero, List.set_cons_succ]
                  refine pickL (v := .agg #[.int .i64 z.id, .int .i64 z.rk, .int .u64 z.kn, .int .i64 z.ln, .int .u64 z.bt]) 13 (some 131) rfl rfl (by kernel_rfl) (by kernel_rfl) (by kernel_rfl) (by decide) (by kernel_rfl) (by kernel_rfl) (fun _ _ _ h => h) (by rfl) ?_ (by assumption) ?_
                  · intro w' hSw
                    obtain ⟨q0, q1, q2⟩ := hSw
                    exact exec_load rfl rfl q2
                  try simp only [Act.put, List.setIfInBounds_toArray, List.set_cons_zero, List.set_cons_succ]
                  refine pickL (v := .agg #[.int .i64 b0, .int .i64 b1, .int .u64 b2, .int .i64 b3, .int .u64 b4]) 14 (some 132) rfl rfl (by kernel_rfl) (by kernel_rfl) (by kernel_rfl) (by decide) (by kernel_rfl) (by kernel_rfl) (fun _ _ _ h => h) (by rfl) ?_ (by assumption) ?_
                  · intro w' hSw
                    obtain ⟨q0, q1, q2⟩ := hSw
                    exact exec_load rfl rfl (load_ref q1 rfl)
                  try simp only [Act.put, List.setIfInBounds_toArray, List.set_cons_zero, List.set_cons_succ]
                  refine pickA (v := .bool true) 15 (some 133) rfl rfl (by kernel_rfl) (by kernel_rfl) (by kernel_rfl) (by decide) (fun _ _ _ h => h) (by rfl) ?_ (by assumption) ?_
                  · intro w'
                    exact exec_bin rguard rfl rfl rfl ((eqr_w z (⟨b0, b1, b2, b3, b4⟩ : Rf) _).trans (by rw [hzb.out]))
                  try simp only [Act.put, List.setIfInBounds_toArray, List.set_cons_zero, List.set_cons_succ]
                  refine pickA (v := ?_) 16 (some 134) rfl rfl (by kernel_rfl) (by kernel_rfl) (by kernel_rfl) (by decide) (fun _ _ _ h => h) (by rfl) ?_ (by assumption) ?_
                  rotate_left
                  · intro w'
                    go_simp
                    try with_reducible rfl
                  try simp only [Act.put, List.setIfInBounds_toArray, List.set_cons_zero, List.set_cons_succ]
                  refine pickA (v := ?_) 17 (some 135) rfl rfl (by kernel_rfl) (by kernel_rfl) (by kernel_rfl) (by decide) (fun _ _ _ h => h) (by rfl) ?_ (by assumption) ?_
                  rotate_left
                  · intro w'
                    go_simp
                    try with_reducible rfl
                  try simp only [Act.put, List.setIfInBounds_toArray, List.set_cons_zero, List.set_cons_succ]
                  refine pickA (v := ?_) 18 (some 22) rfl rfl (by kernel_rfl) (by kernel_rfl) (by kernel_rfl) (by decide) (fun _ _ _ h => h) (by rfl) ?_ (by assumption) ?_
                  rotate_left
                  · intro w'
                    go_simp
                    try with_reducible rfl
                  try simp only [Act.put, List.setIfInBounds_toArray, List.set_cons_zero, List.set_cons_succ]
                  refine doneL (by kernel_rfl) ?_ _
                  clear hHeld
                  clear LZ hWD
                  have HBG : Hid (bgS x.ln x.bt p q = true) := by
                    show _ = _
                    rw [bgS_prV (hg2.out.2.1.1 x (by simp)) HU.out]
                    simp only [decide_eq_true_eq]
                    exact nf.out.1 rfl
                  go_wp2_with fail
                  have dr := (Below.refl WD.heap.size WD).drew
                  obtain ⟨WE, hWE⟩ : ∃ W, WD.drew = W := ⟨_, rfl⟩
                  rw [hWE] at dr
                  replace LS := hide (LS.out.below dr)
                  replace LM := hide (LM.out.below dr)
                  replace XB := hide (XB.out.below dr)
                  replace HR := hide (HR.out.below dr)
                  replace LR := hide (LR.out.below dr)
                  replace RO := hide (RO.out.below dr)
                  replace Xa := hide (Xa.out.below dr)
                  replace Xb := hide (Xb.out.below dr)
                  replace Pa := hide (Pa.out.below dr)
                  replace Pb := hide (Pb.out.below dr)
                  replace Ua := hide (Ua.out.below dr)
                  replace Ub := hide (Ub.out.below dr)
                  replace B := hide (B.out.trans (dr.mono B.out.size))
                  replace BW0 := hide (BW0.out.trans (dr.mono BW0.out.size))
                  clear dr
                  have LXd := hide (LX.out _ BW0.out)
                  refine regionL 33 (fun w' => IsB w' gP #[.int .i64 s0, .int .i64 s1, .int .u64 s2, .int .i64 s3, .int .u64 s4] 30 ∧ IsB w' gU #[.int .i64 y0, .int .i64 y1, .int .u64 y2, .int .i64 y3, .int .u64 y4] 30 ∧ IsB w' gQ #[.int .i64 t0, .int .i64 t1, .int .u64 t2, .int .i64 t3, .int .u64 t4] 30 ∧ IsB w' gV #[.int .i64 v0, .int .i64 v1, .int .u64 v2, .int .i64 v3, .int .u64 v4] 30 ∧ IsB w' g0 #[.int .i64 x.id, .int .i64 x.rk, .int .u64 x.kn, .int .i64 x.ln, .int .u64 x.bt] 30 ∧ (Instr.loadAt 28 (.pointer (some ⟨g, i * 3, none⟩))).run Tryd.prog w' = .ok (.agg #[.int .i64 (p), .int .u64 (q)]) w') mixed (by rw [hWE]; exact ⟨Pa.out, Ua.out, Pb.out, Ub.out, XB.out, LXd.out⟩) (fun hHeld => ?_)
                  rw [hWE] at hHeld ⊢
                  refine pickA (v := ?_) 0 (some 136) rfl rfl (by kernel_rfl) (by kernel_rfl) (by kernel_rfl) (by decide) (fun _ _ _ h => h) (by rfl) ?_ (by assumption) ?_
                  rotate_left
                  · intro w'
                    go_simp
                    try with_reducible rfl
                  try simp only [Act.put, List.setIfInBounds_toArray, List.set_cons_zero, List.set_cons_succ]
                  refine pickA (v := .bool false) 1 (some 137) rfl rfl (by kernel_rfl) (by kernel_rfl) (by kernel_rfl) (by decide) (fun _ _ _ h => h) (by rfl) ?_ (by assumption) ?_
                  · intro w'
                    go_simp
                    try with_reducible rfl
                  try simp only [Act.put, List.setIfInBounds_toArray, List.set_cons_zero, List.set_cons_succ]
                  refine pickA (v := ?_) 2 (some 138) rfl rfl (by kernel_rfl) (by kernel_rfl) (by kernel_rfl) (by decide) (fun _ _ _ h => h) (by rfl) ?_ (by assumption) ?_
                  rotate_left
                  · intro w'
                    go_simp
                    try with_reducible rfl
                  try simp only [Act.put, List.setIfInBounds_toArray, List.set_cons_zero, List.set_cons_succ]
                  refine pickA (v := ?_) 3 (some 139) rfl rfl (by kernel_rfl) (by kernel_rfl) (by kernel_rfl) (by decide) (fun _ _ _ h => h) (by rfl) ?_ (by assumption) ?_
                  rotate_left
                  · intro w'
                    go_simp
                    try with_reducible rfl
                  try simp only [Act.put, List.setIfInBounds_toArray, List.set_cons_zero, List.set_cons_succ]
                  refine pickA (v := .bool false) 4 (some 140) rfl rfl (by kernel_rfl) (by kernel_rfl) (by kernel_rfl) (by decide) (fun _ _ _ h => h) (by rfl) ?_ (by assumption) ?_
                  · intro w'
                    go_simp
                    try with_reducible rfl
                  try simp only [Act.put, List.setIfInBounds_toArray, List.set_cons_zero, List.set_cons_succ]
                  refine pickA (v := ?_) 5 (some 141) rfl rfl (by kernel_rfl) (by kernel_rfl) (by kernel_rfl) (by decide) (fun _ _ _ h => h) (by rfl) ?_ (by assumption) ?_
                  rotate_left
                  · intro w'
                    go_simp
                    try with_reducible rfl
                  try simp only [Act.put, List.setIfInBounds_toArray, List.set_cons_zero, List.set_cons_succ]
                  refine pickA (v := ?_) 6 (some 142) rfl rfl (by kernel_rfl) (by kernel_rfl) (by kernel_rfl) (by decide) (fun _ _ _ h => h) (by rfl) ?_ (by assumption) ?_
                  rotate_left
                  · intro w'
                    go_simp
                    try with_reducible rfl
                  try simp only [Act.put, List.setIfInBounds_toArray, List.set_cons_zero, List.set_cons_succ]
                  refine pickA (v := ?_) 7 (some 143) rfl rfl (by kernel_rfl) (by kernel_rfl) (by kernel_rfl) (by decide) (fun _ _ _ h => h) (by rfl) ?_ (by assumption) ?_
                  rotate_left
                  · intro w'
                    go_simp
                    try with_reducible rfl
                  try simp only [Act.put, List.setIfInBounds_toArray, List.set_cons_zero, List.set_cons_succ]
                  refine pickA (v := ?_) 8 (some 144) rfl rfl (by kernel_rfl) (by kernel_rfl) (by kernel_rfl) (by decide) (fun _ _ _ h => h) (by rfl) ?_ (by assumption) ?_
                  rotate_left
                  · intro w'
                    go_simp
                    try with_reducible rfl
                  try simp only [Act.put, List.setIfInBounds_toArray, List.set_cons_zero, List.set_cons_succ]
                  refine pickA (v := ?_) 9 (some 145) rfl rfl (by kernel_rfl) (by kernel_rfl) (by kernel_rfl) (by decide) (fun _ _ _ h => h) (by rfl) ?_ (by assumption) ?_
                  rotate_left
                  · intro w'
                    go_simp
                    try with_reducible rfl
                  try simp only [Act.put, List.setIfInBounds_toArray, List.set_cons_zero, List.set_cons_succ]
                  refine pickN 10 (some 146) rfl rfl (by kernel_rfl) (by kernel_rfl) (by kernel_rfl) (by decide) (fun _ _ _ h => h) (by rfl) (by assumption) ?_
                  try simp only [Act.put, List.setIfInBounds_toArray, List.set_cons_zero, List.set_cons_succ]
                  refine pickN 11 (some 147) rfl rfl (by kernel_rfl) (by kernel_rfl) (by kernel_rfl) (by decide) (fun _ _ _ h => h) (by rfl) (by assumption) ?_
                  try simp only [Act.put, List.setIfInBounds_toArray, List.set_cons_zero, List.set_cons_succ]
                  refine pickN 12 (some 148) rfl rfl (by kernel_rfl) (by kernel_rfl) (by kernel_rfl) (by decide) (fun _ _ _ h => h) (by rfl) (by assumption) ?_
                  try simp only [Act.put, List.setIfInBounds_toArray, List.set_cons_zero, List.set_cons_succ]
                  refine pickN 13 (some 149) rfl rfl (by kernel_rfl) (by kernel_rfl) (by kernel_rfl) (by decide) (fun _ _ _ h => h) (by rfl) (by assumption) ?_
                  try simp only [Act.put, List.setIfInBounds_toArray, List.set_cons_zero, List.set_cons_succ]
                  refine pickN 14 (some 150) rfl rfl (by kernel_rfl) (by kernel_rfl) (by kernel_rfl) (by decide) (fun _ _ _ h => h) (by rfl) (by assumption) ?_
                  try simp only [Act.put, List.setIfInBounds_toArray, List.set_cons_zero, List.set_cons_succ]
                  refine pickN 15 (some 151) rfl rfl (by kernel_rfl) (by kernel_rfl) (by kernel_rfl) (by decide) (fun _ _ _ h => h) (by rfl) (by assumption) ?_
                  try simp only [Act.put, List.setIfInBounds_toArray, List.set_cons_zero, List.set_cons_succ]
                  refine pickN 16 (some 152) rfl rfl (by kernel_rfl) (by kernel_rfl) (by kernel_rfl) (by decide) (fun _ _ _ h => h) (by rfl) (by assumption) ?_
                  try simp only [Act.put, List.setIfInBounds_toArray, List.set_cons_zero, List.set_cons_succ]
                  refine pickN 17 (some 153) rfl rfl (by kernel_rfl) (by kernel_rfl) (by kernel_rfl) (by decide) (fun _ _ _ h => h) (by rfl) (by assumption) ?_
                  try simp only [Act.put, List.setIfInBounds_toArray, List.set_cons_zero, List.set_cons_succ]
                  refine pickA (v := ?_) 18 (some 154) rfl rfl (by kernel_rfl) (by kernel_rfl) (by kernel_rfl) (by decide) (fun _ _ _ h => h) (by rfl) ?_ (by assumption) ?_
                  rotate_left
                  · intro w'
                    go_simp
                    try with_reducible rfl
                  try simp only [Act.put, List.setIfInBounds_toArray, List.set_cons_zero, List.set_cons_succ]
                  refine pickA (v := ?_) 19 (some 155) rfl rfl (by kernel_rfl) (by kernel_rfl) (by kernel_rfl) (by decide) (fun _ _ _ h => h) (by rfl) ?_ (by assumption) ?_
                  rotate_left
                  · intro w'
                    go_simp
                    try with_reducible rfl
                  try simp only [Act.put, List.setIfInBounds_toArray, List.set_cons_zero, List.set_cons_succ]
                  refine pickA (v := ?_) 20 (some 156) rfl rfl (by kernel_rfl) (by kernel_rfl) (by kernel_rfl) (by decide) (fun _ _ _ h => h) (by rfl) ?_ (by assumption) ?_
                  rotate_left
                  · intro w'
                    go_simp
                    try with_reducible rfl
                  try simp only [Act.put, List.setIfInBounds_toArray, List.set_cons_zero, List.set_cons_succ]
                  refine pickA (v := ?_) 21 (some 157) rfl rfl (by kernel_rfl) (by kernel_rfl) (by kernel_rfl) (by decide) (fun _ _ _ h => h) (by rfl) ?_ (by assumption) ?_
                  rotate_left
                  · intro w'
                    go_simp
                    try with_reducible rfl
                  try simp only [Act.put, List.setIfInBounds_toArray, List.set_cons_zero, List.set_cons_succ]
                  refine pickA (v := .bool true) 22 (some 158) rfl rfl (by kernel_rfl) (by kernel_rfl) (by kernel_rfl) (by decide) (fun _ _ _ h => h) (by rfl) ?_ (by assumption) ?_
                  · intro w'
                    go_simp
                    try with_reducible rfl
                  try simp only [Act.put, List.setIfInBounds_toArray, List.set_cons_zero, List.set_cons_succ]
                  refine pickA (v := ?_) 23 (some 159) rfl rfl (by kernel_rfl) (by kernel_rfl) (by kernel_rfl) (by decide) (fun _ _ _ h => h) (by rfl) ?_ (by assumption) ?_
                  rotate_left
                  · intro w'
                    go_simp
                    try with_reducible rfl
                  try simp only [Act.put, List.setIfInBounds_toArray, List.set_cons_zero, List.set_cons_succ]
                  refine pickL (v := (.agg #[.int .i64 (x.ln), .int .u64 (x.bt)])) 24 (some 160) rfl rfl (by kernel_rfl) (by kernel_rfl) (by kernel_rfl) (by decide) (by kernel_rfl) (by kernel_rfl) (fun _ _ _ h => h) (by rfl) ?_ (by assumption) ?_
                  · intro w' hSw
                    obtain ⟨q0, q1, q2, q3, q4, q5⟩ := hSw
                    exact exec_load rfl rfl (load_mid (cs := [.int .i64 x.id, .int .i64 x.rk, .int .u64 x.kn, .int .i64 x.ln, .int .u64 x.bt]) q4 3 _ [.int .i64 x.ln, .int .u64 x.bt] _ rfl Tryd.underlying28 rfl (by kernel_rfl))
                  try simp only [Act.put, List.setIfInBounds_toArray, List.set_cons_zero, List.set_cons_succ]
                  refine pickA (v := ?_) 25 (some 161) rfl rfl (by kernel_rfl) (by kernel_rfl) (by kernel_rfl) (by decide) (fun _ _ _ h => h) (by rfl) ?_ (by assumption) ?_
                  rotate_left
                  · intro w'
                    go_simp
                    try with_reducible rfl
                  try simp only [Act.put, List.setIfInBounds_toArray, List.set_cons_zero, List.set_cons_succ]
                  refine pickA (v := ?_) 26 (some 162) rfl rfl (by kernel_rfl) (by kernel_rfl) (by kernel_rfl) (by decide) (fun _ _ _ h => h) (by rfl) ?_ (by assumption) ?_
                  rotate_left
                  · intro w'
                    go_simp
                    try with_reducible rfl
                  try simp only [Act.put, List.setIfInBounds_toArray, List.set_cons_zero, List.set_cons_succ]
                  refine pickA (v := ?_) 27 (some 163) rfl rfl (by kernel_rfl) (by kernel_rfl) (by kernel_rfl) (by decide) (fun _ _ _ h => h) (by rfl) ?_ (by assumption) ?_
                  rotate_left
                  · intro w'
                    go_simp
                    try with_reducible rfl
                  try simp only [Act.put, List.setIfInBounds_toArray, List.set_cons_zero, List.set_cons_succ]
                  refine pickA (v := ?_) 28 (some 164) rfl rfl (by kernel_rfl) (by kernel_rfl) (by kernel_rfl) (by decide) (fun _ _ _ h => h) (by rfl) ?_ (by assumption) ?_
                  rotate_left
                  · intro w'
                    go_simp
                    try with_reducible rfl
                  try simp only [Act.put, List.setIfInBounds_toArray, List.set_cons_zero, List.set_cons_succ]
                  refine pickL (v := (.agg #[.int .i64 (p), .int .u64 (q)])) 29 (some 165) rfl rfl (by kernel_rfl) (by kernel_rfl) (by kernel_rfl) (by decide) (by kernel_rfl) (by kernel_rfl) (fun _ _ _ h => h) (by rfl) ?_ (by assumption) ?_
                  · intro w' hSw
                    obtain ⟨q0, q1, q2, q3, q4, q5⟩ := hSw
                    exact exec_load rfl rfl q5
                  try simp only [Act.put, List.setIfInBounds_toArray, List.set_cons_zero, List.set_cons_succ]
                  refine oneL (i := 30) (by kernel_rfl) rfl (fun K hK => ?_)
                  go_simp
                  refine (rBegins_any x.ln x.bt p q HX.out HQ.out WE).mono ?_
                  rintro e wf ⟨rfl, hbf⟩
                  rw [HBG.out]
                  replace LS := hide (LS.out.below hbf)
                  replace LM := hide (LM.out.below hbf)
                  replace XB := hide (XB.out.below hbf)
                  replace HR := hide (HR.out.below hbf)
                  replace LR := hide (LR.out.below hbf)
                  replace RO := hide (RO.out.below hbf)
                  replace Xa := hide (Xa.out.below hbf)
                  replace Xb := hide (Xb.out.below hbf)
                  replace Pa := hide (Pa.out.below hbf)
                  replace Pb := hide (Pb.out.below hbf)
                  replace Ua := hide (Ua.out.below hbf)
                  replace Ub := hide (Ub.out.below hbf)
                  replace B := hide (B.out.trans (hbf.mono B.out.size))
                  replace BW0 := hide (BW0.out.trans (hbf.mono BW0.out.size))
                  clear hbf
                  refine hK.out _ _ ?_ ?_
                  · exact ⟨Pa.out, Ua.out, Pb.out, Ub.out, XB.out, (LX.out _ BW0.out)⟩
                  clear hK K
                  try simp only [Act.put, List.setIfInBounds_toArray, List.set_cons_zero, List.set_cons_succ]
                  clear hHeld
                  have hHeld : (fun w' => IsB w' gP #[.int .i64 s0, .int .i64 s1, .int .u64 s2, .int .i64 s3, .int .u64 s4] 30 ∧ IsB w' gU #[.int .i64 y0, .int .i64 y1, .int .u64 y2, .int .i64 y3, .int .u64 y4] 30 ∧ IsB w' gQ #[.int .i64 t0, .int .i64 t1, .int .u64 t2, .int .i64 t3, .int .u64 t4] 30 ∧ IsB w' gV #[.int .i64 v0, .int .i64 v1, .int .u64 v2, .int .i64 v3, .int .u64 v4] 30 ∧ IsB w' g0 #[.int .i64 x.id, .int .i64 x.rk, .int .u64 x.kn, .int .i64 x.ln, .int .u64 x.bt] 30 ∧ (Instr.loadAt 28 (.pointer (some ⟨g, i * 3, none⟩))).run Tryd.prog w' = .ok (.agg #[.int .i64 (p), .int .u64 (q)]) w') wf := ⟨Pa.out, Ua.out, Pb.out, Ub.out, XB.out, (LX.out _ BW0.out)⟩
                  refine pickA (v := ?_) 31 (some 167) rfl rfl (by kernel_rfl) (by kernel_rfl) (by kernel_rfl) (by decide) (fun _ _ _ h => h) (by rfl) ?_ (by assumption) ?_
                  rotate_left
                  · intro w'
                    go_simp
                    try with_reducible rfl
                  try simp only [Act.put, List.setIfInBounds_toArray, List.set_cons_zero, List.set_cons_succ]
                  refine pickA (v := ?_) 32 (some 168) rfl rfl (by kernel_rfl) (by kernel_rfl) (by kernel_rfl) (by decide) (fun _ _ _ h => h) (by rfl) ?_ (by assumption) ?_
                  rotate_left
                  · intro w'
                    go_simp
                    try with_reducible rfl
                  try simp only [Act.put, List.setIfInBounds_toArray, List.set_cons_zero, List.set_cons_succ]
                  refine doneL (by kernel_rfl) ?_ _
                  clear hHeld
                  go_wp2
                  exact ⟨⟨k + 1, by omega, by simp, LS.out, LM.out, XB.out, HR.out, LR.out, RO.out, Xa.out, Xb.out, BW0.out, B.out⟩, by simp [intOf]; omega⟩
                have hzb : Hid (decide (z = (⟨b0, b1, b2, b3, b4⟩ : Rf)) = false) := decide_eq_false hz2
                have hnear : Hid (¬((0 : Int) = 0 ∧ (z = (⟨a0, a1, a2, a3, a4⟩ : Rf) ∨ z = (⟨b0, b1, b2, b3, b4⟩ : Rf)))) := fun c => c.2.elim hz1 hz2
                clear hz1 hz2
                refine regionL 19 (fun w' => IsB w' gA #[.int .i64 a0, .int .i64 a1, .int .u64 a2, .int .i64 a3, .int .u64 a4] 30 ∧ IsB w' gB #[.int .i64 b0, .int .i64 b1, .int .u64 b2, .int .i64 b3, .int .u64 b4] 30 ∧ (Instr.loadAt 30 (.pointer (some ⟨rg, ro + k * 5, none⟩))).run Tryd.prog w' = .ok (.agg #[.int .i64 z.id, .int .i64 z.rk, .int .u64 z.kn, .int .i64 z.ln, .int .u64 z.bt]) w') mixed (by rw [hWD]; exact ⟨Xa.out, Xb.out, LZ.out⟩) (fun hHeld => ?_)
                rw [hWD] at hHeld ⊢
                refine pickA (v := ?_) 0 (some 118) rfl rfl (by kernel_rfl) (by kernel_rfl) (by kernel_rfl) (by decide) (fun _ _ _ h => h) (by rfl) ?_ (by assumption) ?_
                rotate_left
                · intro w'
                  go_simp
                  try with_reducible rfl
                try simp only [Act.put, List.setIfInBounds_toArray, List.set_cons_zero, List.set_cons_succ]
                refine pickA (v := .bool true) 1 (some 119) rfl rfl (by kernel_rfl) (by kernel_rfl) (by kernel_rfl) (by decide) (fun _ _ _ h => h) (by rfl) ?_ (by assumption) ?_
                · intro w'
                  go_simp
                  try with_reducible rfl
                try simp only [Act.put, List.setIfInBounds_toArray, List.set_cons_zero, List.set_cons_succ]
                refine pickA (v := ?_) 2 (some 120) rfl rfl (by kernel_rfl) (by kernel_rfl) (by kernel_rfl) (by decide) (fun _ _ _ h => h) (by rfl) ?_ (by assumption) ?_
                rotate_left
                · intro w'
                  go_simp
                  try with_reducible rfl
                try simp only [Act.put, List.setIfInBounds_toArray, List.set_cons_zero, List.set_cons_succ]
                refine pickA (v := ?_) 3 (some 121) rfl rfl (by kernel_rfl) (by kernel_rfl) (by kernel_rfl) (by decide) (fun _ _ _ h => h) (by rfl) ?_ (by assumption) ?_
                rotate_left
                · intro w'
                  go_simp
                  try with_reducible rfl
                try simp only [Act.put, List.setIfInBounds_toArray, List.set_cons_zero, List.set_cons_succ]
                refine pickA (v := ?_) 4 (some 122) rfl rfl (by kernel_rfl) (by kernel_rfl) (by kernel_rfl) (by decide) (fun _ _ _ h => h) (by rfl) ?_ (by assumption) ?_
                rotate_left
                · intro w'
                  go_simp
                  try with_reducible rfl
                try simp only [Act.put, List.setIfInBounds_toArray, List.set_cons_zero, List.set_cons_succ]
                refine pickA (v := ?_) 5 (some 123) rfl rfl (by kernel_rfl) (by kernel_rfl) (by kernel_rfl) (by decide) (fun _ _ _ h => h) (by rfl) ?_ (by assumption) ?_
                rotate_left
                · intro w'
                  go_simp
                  try with_reducible rfl
                try simp only [Act.put, List.setIfInBounds_toArray, List.set_cons_zero, List.set_cons_succ]
                refine pickL (v := .agg #[.int .i64 z.id, .int .i64 z.rk, .int .u64 z.kn, .int .i64 z.ln, .int .u64 z.bt]) 6 (some 124) rfl rfl (by kernel_rfl) (by kernel_rfl) (by kernel_rfl) (by decide) (by kernel_rfl) (by kernel_rfl) (fun _ _ _ h => h) (by rfl) ?_ (by assumption) ?_
                · intro w' hSw
                  obtain ⟨q0, q1, q2⟩ := hSw
                  exact exec_load rfl rfl q2
                try simp only [Act.put, List.setIfInBounds_toArray, List.set_cons_zero, List.set_cons_succ]
                refine pickL (v := .agg #[.int .i64 a0, .int .i64 a1, .int .u64 a2, .int .i64 a3, .int .u64 a4]) 7 (some 125) rfl rfl (by kernel_rfl) (by kernel_rfl) (by kernel_rfl) (by decide) (by kernel_rfl) (by kernel_rfl) (fun _ _ _ h => h) (by rfl) ?_ (by assumption) ?_
                · intro w' hSw
                  obtain ⟨q0, q1, q2⟩ := hSw
                  exact exec_load rfl rfl (load_ref q0 rfl)
                try simp only [Act.put, List.setIfInBounds_toArray, List.set_cons_zero, List.set_cons_succ]
                refine pickA (v := .bool false) 8 (some 126) rfl rfl (by kernel_rfl) (by kernel_rfl) (by kernel_rfl) (by decide) (fun _ _ _ h => h) (by rfl) ?_ (by assumption) ?_
                · intro w'
                  exact exec_bin rguard rfl rfl rfl ((eqr_w z (⟨a0, a1, a2, a3, a4⟩ : Rf) _).trans (by rw [hza.out]))
                try simp only [Act.put, List.setIfInBounds_toArray, List.set_cons_zero, List.set_cons_succ]
                refine pickA (v := ?_) 9 (some 127) rfl rfl (by kernel_rfl) (by kernel_rfl) (by kernel_rfl) (by decide) (fun _ _ _ h => h) (by rfl) ?_ (by assumption) ?_
                rotate_left
                · intro w'
                  go_simp
                  try with_reducible rfl
                try simp only [Act.put, List.setIfInBounds_toArray, List.set_cons_zero, List.set_cons_succ]
                refine pickA (v := ?_) 10 (some 128) rfl rfl (by kernel_rfl) (by kernel_rfl) (by kernel_rfl) (by decide) (fun _ _ _ h => h) (by rfl) ?_ (by assumption) ?_
                rotate_left
                · intro w'
                  go_simp
                  try with_reducible rfl
                try simp only [Act.put, List.setIfInBounds_toArray, List.set_cons_zero, List.set_cons_succ]
                refine pickA (v := ?_) 11 (some 129) rfl rfl (by kernel_rfl) (by kernel_rfl) (by kernel_rfl) (by decide) (fun _ _ _ h => h) (by rfl) ?_ (by assumption) ?_
                rotate_left
                · intro w'
                  go_simp
                  try with_reducible rfl
                try simp only [Act.put, List.setIfInBounds_toArray, List.set_cons_zero, List.set_cons_succ]
                refine pickA (v := ?_) 12 (some 130) rfl rfl (by kernel_rfl) (by kernel_rfl) (by kernel_rfl) (by decide) (fun _ _ _ h => h) (by rfl) ?_ (by assumption) ?_
                rotate_left
                · intro w'
                  go_simp
                  try with_reducible rfl
                try simp only [Act.put, List.setIfInBounds_toArray, List.set_cons_zero, List.set_cons_succ]
                refine pickL (v := .agg #[.int .i64 z.id, .int .i64 z.rk, .int .u64 z.kn, .int .i64 z.ln, .int .u64 z.bt]) 13 (some 131) rfl rfl (by kernel_rfl) (by kernel_rfl) (by kernel_rfl) (by decide) (by kernel_rfl) (by kernel_rfl) (fun _ _ _ h => h) (by rfl) ?_ (by assumption) ?_
                · intro w' hSw
                  obtain ⟨q0, q1, q2⟩ := hSw
                  exact exec_load rfl rfl q2
                try simp only [Act.put, List.setIfInBounds_toArray, List.set_cons_zero, List.set_cons_succ]
                refine pickL (v := .agg #[.int .i64 b0, .int .i64 b1, .int .u64 b2, .int .i64 b3, .int .u64 b4]) 14 (some 132) rfl rfl (by kernel_rfl) (by kernel_rfl) (by kernel_rfl) (by decide) (by kernel_rfl) (by kernel_rfl) (fun _ _ _ h => h) (by rfl) ?_ (by assumption) ?_
                · intro w' hSw
                  obtain ⟨q0, q1, q2⟩ := hSw
                  exact exec_load rfl rfl (load_ref q1 rfl)
                try simp only [Act.put, List.setIfInBounds_toArray, List.set_cons_zero, List.set_cons_succ]
                refine pickA (v := .bool false) 15 (some 133) rfl rfl (by kernel_rfl) (by kernel_rfl) (by kernel_rfl) (by decide) (fun _ _ _ h => h) (by rfl) ?_ (by assumption) ?_
                · intro w'
                  exact exec_bin rguard rfl rfl rfl ((eqr_w z (⟨b0, b1, b2, b3, b4⟩ : Rf) _).trans (by rw [hzb.out]))
                try simp only [Act.put, List.setIfInBounds_toArray, List.set_cons_zero, List.set_cons_succ]
                refine pickA (v := ?_) 16 (some 134) rfl rfl (by kernel_rfl) (by kernel_rfl) (by kernel_rfl) (by decide) (fun _ _ _ h => h) (by rfl) ?_ (by assumption) ?_
                rotate_left
                · intro w'
                  go_simp
                  try with_reducible rfl
                try simp only [Act.put, List.setIfInBounds_toArray, List.set_cons_zero, List.set_cons_succ]
                refine pickA (v := ?_) 17 (some 135) rfl rfl (by kernel_rfl) (by kernel_rfl) (by kernel_rfl) (by decide) (fun _ _ _ h => h) (by rfl) ?_ (by assumption) ?_
                rotate_left
                · intro w'
                  go_simp
                  try with_reducible rfl
                try simp only [Act.put, List.setIfInBounds_toArray, List.set_cons_zero, List.set_cons_succ]
                refine pickA (v := ?_) 18 (some 22) rfl rfl (by kernel_rfl) (by kernel_rfl) (by kernel_rfl) (by decide) (fun _ _ _ h => h) (by rfl) ?_ (by assumption) ?_
                rotate_left
                · intro w'
                  go_simp
                  try with_reducible rfl
                try simp only [Act.put, List.setIfInBounds_toArray, List.set_cons_zero, List.set_cons_succ]
                refine doneL (by kernel_rfl) ?_ _
                clear hHeld
                clear LZ hWD
                have HBG : Hid (bgS x.ln x.bt p q = true) := by
                  show _ = _
                  rw [bgS_prV (hg2.out.2.1.1 x (by simp)) HU.out]
                  simp only [decide_eq_true_eq]
                  exact nf.out.1 rfl
                obtain ⟨he1', he2'⟩ := e3.out hnear.out
                have he1 : Hid (decide ((⟨s0, s1, s2, s3, s4⟩ : Rf) = (⟨y0, y1, y2, y3, y4⟩ : Rf)) = true) := decide_eq_true he1'
                have he2 : Hid (decide ((⟨t0, t1, t2, t3, t4⟩ : Rf) = (⟨v0, v1, v2, v3, v4⟩ : Rf)) = true) := decide_eq_true he2'
                clear he1' he2'
                go_wp2_with fail
                have dr := (Below.refl WD.heap.size WD).drew
                obtain ⟨WE, hWE⟩ : ∃ W, WD.drew = W := ⟨_, rfl⟩
                rw [hWE] at dr
                replace LS := hide (LS.out.below dr)
                replace LM := hide (LM.out.below dr)
                replace XB := hide (XB.out.below dr)
                replace HR := hide (HR.out.below dr)
                replace LR := hide (LR.out.below dr)
                replace RO := hide (RO.out.below dr)
                replace Xa := hide (Xa.out.below dr)
                replace Xb := hide (Xb.out.below dr)
                replace Pa := hide (Pa.out.below dr)
                replace Pb := hide (Pb.out.below dr)
                replace Ua := hide (Ua.out.below dr)
                replace Ub := hide (Ub.out.below dr)
                replace B := hide (B.out.trans (dr.mono B.out.size))
                replace BW0 := hide (BW0.out.trans (dr.mono BW0.out.size))
                clear dr
                have LXd := hide (LX.out _ BW0.out)
                refine regionL 33 (fun w' => IsB w' gP #[.int .i64 s0, .int .i64 s1, .int .u64 s2, .int .i64 s3, .int .u64 s4] 30 ∧ IsB w' gU #[.int .i64 y0, .int .i64 y1, .int .u64 y2, .int .i64 y3, .int .u64 y4] 30 ∧ IsB w' gQ #[.int .i64 t0, .int .i64 t1, .int .u64 t2, .int .i64 t3, .int .u64 t4] 30 ∧ IsB w' gV #[.int .i64 v0, .int .i64 v1, .int .u64 v2, .int .i64 v3, .int .u64 v4] 30 ∧ IsB w' g0 #[.int .i64 x.id, .int .i64 x.rk, .int .u64 x.kn, .int .i64 x.ln, .int .u64 x.bt] 30 ∧ (Instr.loadAt 28 (.pointer (some ⟨g, i * 3, none⟩))).run Tryd.prog w' = .ok (.agg #[.int .i64 (p), .int .u64 (q)]) w') mixed (by rw [hWE]; exact ⟨Pa.out, Ua.out, Pb.out, Ub.out, XB.out, LXd.out⟩) (fun hHeld => ?_)
                rw [hWE] at hHeld ⊢
                refine pickA (v := ?_) 0 (some 136) rfl rfl (by kernel_rfl) (by kernel_rfl) (by kernel_rfl) (by decide) (fun _ _ _ h => h) (by rfl) ?_ (by assumption) ?_
                rotate_left
                · intro w'
                  go_simp
                  try with_reducible rfl
                try simp only [Act.put, List.setIfInBounds_toArray, List.set_cons_zero, List.set_cons_succ]
                refine pickA (v := .bool false) 1 (some 137) rfl rfl (by kernel_rfl) (by kernel_rfl) (by kernel_rfl) (by decide) (fun _ _ _ h => h) (by rfl) ?_ (by assumption) ?_
                · intro w'
                  go_simp
                  try with_reducible rfl
                try simp only [Act.put, List.setIfInBounds_toArray, List.set_cons_zero, List.set_cons_succ]
                refine pickA (v := ?_) 2 (some 138) rfl rfl (by kernel_rfl) (by kernel_rfl) (by kernel_rfl) (by decide) (fun _ _ _ h => h) (by rfl) ?_ (by assumption) ?_
                rotate_left
                · intro w'
                  go_simp
                  try with_reducible rfl
                try simp only [Act.put, List.setIfInBounds_toArray, List.set_cons_zero, List.set_cons_succ]
                refine pickA (v := ?_) 3 (some 139) rfl rfl (by kernel_rfl) (by kernel_rfl) (by kernel_rfl) (by decide) (fun _ _ _ h => h) (by rfl) ?_ (by assumption) ?_
                rotate_left
                · intro w'
                  go_simp
                  try with_reducible rfl
                try simp only [Act.put, List.setIfInBounds_toArray, List.set_cons_zero, List.set_cons_succ]
                refine pickA (v := .bool false) 4 (some 140) rfl rfl (by kernel_rfl) (by kernel_rfl) (by kernel_rfl) (by decide) (fun _ _ _ h => h) (by rfl) ?_ (by assumption) ?_
                · intro w'
                  go_simp
                  try with_reducible rfl
                try simp only [Act.put, List.setIfInBounds_toArray, List.set_cons_zero, List.set_cons_succ]
                refine pickA (v := ?_) 5 (some 141) rfl rfl (by kernel_rfl) (by kernel_rfl) (by kernel_rfl) (by decide) (fun _ _ _ h => h) (by rfl) ?_ (by assumption) ?_
                rotate_left
                · intro w'
                  go_simp
                  try with_reducible rfl
                try simp only [Act.put, List.setIfInBounds_toArray, List.set_cons_zero, List.set_cons_succ]
                refine pickA (v := ?_) 6 (some 142) rfl rfl (by kernel_rfl) (by kernel_rfl) (by kernel_rfl) (by decide) (fun _ _ _ h => h) (by rfl) ?_ (by assumption) ?_
                rotate_left
                · intro w'
                  go_simp
                  try with_reducible rfl
                try simp only [Act.put, List.setIfInBounds_toArray, List.set_cons_zero, List.set_cons_succ]
                refine pickA (v := ?_) 7 (some 143) rfl rfl (by kernel_rfl) (by kernel_rfl) (by kernel_rfl) (by decide) (fun _ _ _ h => h) (by rfl) ?_ (by assumption) ?_
                rotate_left
                · intro w'
                  go_simp
                  try with_reducible rfl
                try simp only [Act.put, List.setIfInBounds_toArray, List.set_cons_zero, List.set_cons_succ]
                refine pickA (v := ?_) 8 (some 144) rfl rfl (by kernel_rfl) (by kernel_rfl) (by kernel_rfl) (by decide) (fun _ _ _ h => h) (by rfl) ?_ (by assumption) ?_
                rotate_left
                · intro w'
                  go_simp
                  try with_reducible rfl
                try simp only [Act.put, List.setIfInBounds_toArray, List.set_cons_zero, List.set_cons_succ]
                refine pickA (v := ?_) 9 (some 145) rfl rfl (by kernel_rfl) (by kernel_rfl) (by kernel_rfl) (by decide) (fun _ _ _ h => h) (by rfl) ?_ (by assumption) ?_
                rotate_left
                · intro w'
                  go_simp
                  try with_reducible rfl
                try simp only [Act.put, List.setIfInBounds_toArray, List.set_cons_zero, List.set_cons_succ]
                refine pickL (v := .agg #[.int .i64 s0, .int .i64 s1, .int .u64 s2, .int .i64 s3, .int .u64 s4]) 10 (some 146) rfl rfl (by kernel_rfl) (by kernel_rfl) (by kernel_rfl) (by decide) (by kernel_rfl) (by kernel_rfl) (fun _ _ _ h => h) (by rfl) ?_ (by assumption) ?_
                · intro w' hSw
                  obtain ⟨q0, q1, q2, q3, q4, q5⟩ := hSw
                  exact exec_load rfl rfl (load_ref q0 rfl)
                try simp only [Act.put, List.setIfInBounds_toArray, List.set_cons_zero, List.set_cons_succ]
                refine pickL (v := .agg #[.int .i64 y0, .int .i64 y1, .int .u64 y2, .int .i64 y3, .int .u64 y4]) 11 (some 147) rfl rfl (by kernel_rfl) (by kernel_rfl) (by kernel_rfl) (by decide) (by kernel_rfl) (by kernel_rfl) (fun _ _ _ h => h) (by rfl) ?_ (by assumption) ?_
                · intro w' hSw
                  obtain ⟨q0, q1, q2, q3, q4, q5⟩ := hSw
                  exact exec_load rfl rfl (load_ref q1 rfl)
                try simp only [Act.put, List.setIfInBounds_toArray, List.set_cons_zero, List.set_cons_succ]
                refine pickA (v := .bool false) 12 (some 148) rfl rfl (by kernel_rfl) (by kernel_rfl) (by kernel_rfl) (by decide) (fun _ _ _ h => h) (by rfl) ?_ (by assumption) ?_
                · intro w'
                  exact exec_bin rguard rfl rfl rfl ((ner_w (⟨s0, s1, s2, s3, s4⟩ : Rf) (⟨y0, y1, y2, y3, y4⟩ : Rf) _).trans (by rw [he1.out]; rfl))
                try simp only [Act.put, List.setIfInBounds_toArray, List.set_cons_zero, List.set_cons_succ]
                refine pickA (v := ?_) 13 (some 149) rfl rfl (by kernel_rfl) (by kernel_rfl) (by kernel_rfl) (by decide) (fun _ _ _ h => h) (by rfl) ?_ (by assumption) ?_
                rotate_left
                · intro w'
                  go_simp
                  try with_reducible rfl
                try simp only [Act.put, List.setIfInBounds_toArray, List.set_cons_zero, List.set_cons_succ]
                refine pickL (v := .agg #[.int .i64 t0, .int .i64 t1, .int .u64 t2, .int .i64 t3, .int .u64 t4]) 14 (some 150) rfl rfl (by kernel_rfl) (by kernel_rfl) (by kernel_rfl) (by decide) (by kernel_rfl) (by kernel_rfl) (fun _ _ _ h => h) (by rfl) ?_ (by assumption) ?_
                · intro w' hSw
                  obtain ⟨q0, q1, q2, q3, q4, q5⟩ := hSw
                  exact exec_load rfl rfl (load_ref q2 rfl)
                try simp only [Act.put, List.setIfInBounds_toArray, List.set_cons_zero, List.set_cons_succ]
                refine pickL (v := .agg #[.int .i64 v0, .int .i64 v1, .int .u64 v2, .int .i64 v3, .int .u64 v4]) 15 (some 151) rfl rfl (by kernel_rfl) (by kernel_rfl) (by kernel_rfl) (by decide) (by kernel_rfl) (by kernel_rfl) (fun _ _ _ h => h) (by rfl) ?_ (by assumption) ?_
                · intro w' hSw
                  obtain ⟨q0, q1, q2, q3, q4, q5⟩ := hSw
                  exact exec_load rfl rfl (load_ref q3 rfl)
                try simp only [Act.put, List.setIfInBounds_toArray, List.set_cons_zero, List.set_cons_succ]
                refine pickA (v := .bool false) 16 (some 152) rfl rfl (by kernel_rfl) (by kernel_rfl) (by kernel_rfl) (by decide) (fun _ _ _ h => h) (by rfl) ?_ (by assumption) ?_
                · intro w'
                  exact exec_bin rguard rfl rfl rfl ((ner_w (⟨t0, t1, t2, t3, t4⟩ : Rf) (⟨v0, v1, v2, v3, v4⟩ : Rf) _).trans (by rw [he2.out]; rfl))
                try simp only [Act.put, List.setIfInBounds_toArray, List.set_cons_zero, List.set_cons_succ]
                refine pickA (v := ?_) 17 (some 153) rfl rfl (by kernel_rfl) (by kernel_rfl) (by kernel_rfl) (by decide) (fun _ _ _ h => h) (by rfl) ?_ (by assumption) ?_
                rotate_left
                · intro w'
                  go_simp
                  try with_reducible rfl
                try simp only [Act.put, List.setIfInBounds_toArray, List.set_cons_zero, List.set_cons_succ]
                refine pickA (v := ?_) 18 (some 154) rfl rfl (by kernel_rfl) (by kernel_rfl) (by kernel_rfl) (by decide) (fun _ _ _ h => h) (by rfl) ?_ (by assumption) ?_
                rotate_left
                · intro w'
                  go_simp
                  try with_reducible rfl
                try simp only [Act.put, List.setIfInBounds_toArray, List.set_cons_zero, List.set_cons_succ]
                refine pickA (v := ?_) 19 (some 155) rfl rfl (by kernel_rfl) (by kernel_rfl) (by kernel_rfl) (by decide) (fun _ _ _ h => h) (by rfl) ?_ (by assumption) ?_
                rotate_left
                · intro w'
                  go_simp
                  try with_reducible rfl
                try simp only [Act.put, List.setIfInBounds_toArray, List.set_cons_zero, List.set_cons_succ]
                refine pickA (v := ?_) 20 (some 156) rfl rfl (by kernel_rfl) (by kernel_rfl) (by kernel_rfl) (by decide) (fun _ _ _ h => h) (by rfl) ?_ (by assumption) ?_
                rotate_left
                · intro w'
                  go_simp
                  try with_reducible rfl
                try simp only [Act.put, List.setIfInBounds_toArray, List.set_cons_zero, List.set_cons_succ]
                refine pickA (v := ?_) 21 (some 157) rfl rfl (by kernel_rfl) (by kernel_rfl) (by kernel_rfl) (by decide) (fun _ _ _ h => h) (by rfl) ?_ (by assumption) ?_
                rotate_left
                · intro w'
                  go_simp
                  try with_reducible rfl
                try simp only [Act.put, List.setIfInBounds_toArray, List.set_cons_zero, List.set_cons_succ]
                refine pickA (v := .bool true) 22 (some 158) rfl rfl (by kernel_rfl) (by kernel_rfl) (by kernel_rfl) (by decide) (fun _ _ _ h => h) (by rfl) ?_ (by assumption) ?_
                · intro w'
                  go_simp
                  try with_reducible rfl
                try simp only [Act.put, List.setIfInBounds_toArray, List.set_cons_zero, List.set_cons_succ]
                refine pickA (v := ?_) 23 (some 159) rfl rfl (by kernel_rfl) (by kernel_rfl) (by kernel_rfl) (by decide) (fun _ _ _ h => h) (by rfl) ?_ (by assumption) ?_
                rotate_left
                · intro w'
                  go_simp
                  try with_reducible rfl
                try simp only [Act.put, List.setIfInBounds_toArray, List.set_cons_zero, List.set_cons_succ]
                refine pickL (v := (.agg #[.int .i64 (x.ln), .int .u64 (x.bt)])) 24 (some 160) rfl rfl (by kernel_rfl) (by kernel_rfl) (by kernel_rfl) (by decide) (by kernel_rfl) (by kernel_rfl) (fun _ _ _ h => h) (by rfl) ?_ (by assumption) ?_
                · intro w' hSw
                  obtain ⟨q0, q1, q2, q3, q4, q5⟩ := hSw
                  exact exec_load rfl rfl (load_mid (cs := [.int .i64 x.id, .int .i64 x.rk, .int .u64 x.kn, .int .i64 x.ln, .int .u64 x.bt]) q4 3 _ [.int .i64 x.ln, .int .u64 x.bt] _ rfl Tryd.underlying28 rfl (by kernel_rfl))
                try simp only [Act.put, List.setIfInBounds_toArray, List.set_cons_zero, List.set_cons_succ]
                refine pickA (v := ?_) 25 (some 161) rfl rfl (by kernel_rfl) (by kernel_rfl) (by kernel_rfl) (by decide) (fun _ _ _ h => h) (by rfl) ?_ (by assumption) ?_
                rotate_left
                · intro w'
                  go_simp
                  try with_reducible rfl
                try simp only [Act.put, List.setIfInBounds_toArray, List.set_cons_zero, List.set_cons_succ]
                refine pickA (v := ?_) 26 (some 162) rfl rfl (by kernel_rfl) (by kernel_rfl) (by kernel_rfl) (by decide) (fun _ _ _ h => h) (by rfl) ?_ (by assumption) ?_
                rotate_left
                · intro w'
                  go_simp
                  try with_reducible rfl
                try simp only [Act.put, List.setIfInBounds_toArray, List.set_cons_zero, List.set_cons_succ]
                refine pickA (v := ?_) 27 (some 163) rfl rfl (by kernel_rfl) (by kernel_rfl) (by kernel_rfl) (by decide) (fun _ _ _ h => h) (by rfl) ?_ (by assumption) ?_
                rotate_left
                · intro w'
                  go_simp
                  try with_reducible rfl
                try simp only [Act.put, List.setIfInBounds_toArray, List.set_cons_zero, List.set_cons_succ]
                refine pickA (v := ?_) 28 (some 164) rfl rfl (by kernel_rfl) (by kernel_rfl) (by kernel_rfl) (by decide) (fun _ _ _ h => h) (by rfl) ?_ (by assumption) ?_
                rotate_left
                · intro w'
                  go_simp
                  try with_reducible rfl
                try simp only [Act.put, List.setIfInBounds_toArray, List.set_cons_zero, List.set_cons_succ]
                refine pickL (v := (.agg #[.int .i64 (p), .int .u64 (q)])) 29 (some 165) rfl rfl (by kernel_rfl) (by kernel_rfl) (by kernel_rfl) (by decide) (by kernel_rfl) (by kernel_rfl) (fun _ _ _ h => h) (by rfl) ?_ (by assumption) ?_
                · intro w' hSw
                  obtain ⟨q0, q1, q2, q3, q4, q5⟩ := hSw
                  exact exec_load rfl rfl q5
                try simp only [Act.put, List.setIfInBounds_toArray, List.set_cons_zero, List.set_cons_succ]
                refine oneL (i := 30) (by kernel_rfl) rfl (fun K hK => ?_)
                go_simp
                refine (rBegins_any x.ln x.bt p q HX.out HQ.out WE).mono ?_
                rintro e wf ⟨rfl, hbf⟩
                rw [HBG.out]
                replace LS := hide (LS.out.below hbf)
                replace LM := hide (LM.out.below hbf)
                replace XB := hide (XB.out.below hbf)
                replace HR := hide (HR.out.below hbf)
                replace LR := hide (LR.out.below hbf)
                replace RO := hide (RO.out.below hbf)
                replace Xa := hide (Xa.out.below hbf)
                replace Xb := hide (Xb.out.below hbf)
                replace Pa := hide (Pa.out.below hbf)
                replace Pb := hide (Pb.out.below hbf)
                replace Ua := hide (Ua.out.below hbf)
                replace Ub := hide (Ub.out.below hbf)
                replace B := hide (B.out.trans (hbf.mono B.out.size))
                replace BW0 := hide (BW0.out.trans (hbf.mono BW0.out.size))
                clear hbf
                refine hK.out _ _ ?_ ?_
                · exact ⟨Pa.out, Ua.out, Pb.out, Ub.out, XB.out, (LX.out _ BW0.out)⟩
                clear hK K
                try simp only [Act.put, List.setIfInBounds_toArray, List.set_cons_zero, List.set_cons_succ]
                clear hHeld
                have hHeld : (fun w' => IsB w' gP #[.int .i64 s0, .int .i64 s1, .int .u64 s2, .int .i64 s3, .int .u64 s4] 30 ∧ IsB w' gU #[.int .i64 y0, .int .i64 y1, .int .u64 y2, .int .i64 y3, .int .u64 y4] 30 ∧ IsB w' gQ #[.int .i64 t0, .int .i64 t1, .int .u64 t2, .int .i64 t3, .int .u64 t4] 30 ∧ IsB w' gV #[.int .i64 v0, .int .i64 v1, .int .u64 v2, .int .i64 v3, .int .u64 v4] 30 ∧ IsB w' g0 #[.int .i64 x.id, .int .i64 x.rk, .int .u64 x.kn, .int .i64 x.ln, .int .u64 x.bt] 30 ∧ (Instr.loadAt 28 (.pointer (some ⟨g, i * 3, none⟩))).run Tryd.prog w' = .ok (.agg #[.int .i64 (p), .int .u64 (q)]) w') wf := ⟨Pa.out, Ua.out, Pb.out, Ub.out, XB.out, (LX.out _ BW0.out)⟩
                refine pickA (v := ?_) 31 (some 167) rfl rfl (by kernel_rfl) (by kernel_rfl) (by kernel_rfl) (by decide) (fun _ _ _ h => h) (by rfl) ?_ (by assumption) ?_
                rotate_left
                · intro w'
                  go_simp
                  try with_reducible rfl
                try simp only [Act.put, List.setIfInBounds_toArray, List.set_cons_zero, List.set_cons_succ]
                refine pickA (v := ?_) 32 (some 168) rfl rfl (by kernel_rfl) (by kernel_rfl) (by kernel_rfl) (by decide) (fun _ _ _ h => h) (by rfl) ?_ (by assumption) ?_
                rotate_left
                · intro w'
                  go_simp
                  try with_reducible rfl
                try simp only [Act.put, List.setIfInBounds_toArray, List.set_cons_zero, List.set_cons_succ]
                refine doneL (by kernel_rfl) ?_ _
                clear hHeld
                go_wp2
                exact ⟨⟨k + 1, by omega, by simp, LS.out, LM.out, XB.out, HR.out, LR.out, RO.out, Xa.out, Xb.out, BW0.out, B.out⟩, by simp [intOf]; omega⟩
              have hd : (fx == 0) = false := by simpa using hfx
              have hnear : Hid (¬(fx = 0 ∧ (z = (⟨a0, a1, a2, a3, a4⟩ : Rf) ∨ z = (⟨b0, b1, b2, b3, b4⟩ : Rf)))) := fun c => hfx c.1
              replace hfx := hide hfx
              refine regionL 19 (fun w' => IsB w' gA #[.int .i64 a0, .int .i64 a1, .int .u64 a2, .int .i64 a3, .int .u64 a4] 30 ∧ IsB w' gB #[.int .i64 b0, .int .i64 b1, .int .u64 b2, .int .i64 b3, .int .u64 b4] 30 ∧ (Instr.loadAt 30 (.pointer (some ⟨rg, ro + k * 5, none⟩))).run Tryd.prog w' = .ok (.agg #[.int .i64 z.id, .int .i64 z.rk, .int .u64 z.kn, .int .i64 z.ln, .int .u64 z.bt]) w') mixed (by rw [hWD]; exact ⟨Xa.out, Xb.out, LZ.out⟩) (fun hHeld => ?_)
              rw [hWD] at hHeld ⊢
              refine pickA (v := ?_) 0 (some 118) rfl rfl (by kernel_rfl) (by kernel_rfl) (by kernel_rfl) (by decide) (fun _ _ _ h => h) (by rfl) ?_ (by assumption) ?_
              rotate_left
              · intro w'
                go_simp
                try with_reducible rfl
              try simp only [Act.put, List.setIfInBounds_toArray, List.set_cons_zero, List.set_cons_succ]
              refine pickA (v := .bool false) 1 (some 119) rfl rfl (by kernel_rfl) (by kernel_rfl) (by kernel_rfl) (by decide) (fun _ _ _ h => h) (by rfl) ?_ (by assumption) ?_
              · intro w'
                go_simp
                try simp only [hd]
                try with_reducible rfl
              try simp only [Act.put, List.setIfInBounds_toArray, List.set_cons_zero, List.set_cons_succ]
              refine pickA (v := ?_) 2 (some 120) rfl rfl (by kernel_rfl) (by kernel_rfl) (by kernel_rfl) (by decide) (fun _ _ _ h => h) (by rfl) ?_ (by assumption) ?_
              rotate_left
              · intro w'
                go_simp
                try with_reducible rfl
              try simp only [Act.put, List.setIfInBounds_toArray, List.set_cons_zero, List.set_cons_succ]
              refine pickN 3 (some 121) rfl rfl (by kernel_rfl) (by kernel_rfl) (by kernel_rfl) (by decide) (fun _ _ _ h => h) (by rfl) (by assumption) ?_
              try simp only [Act.put, List.setIfInBounds_toArray, List.set_cons_zero, List.set_cons_succ]
              refine pickN 4 (some 122) rfl rfl (by kernel_rfl) (by kernel_rfl) (by kernel_rfl) (by decide) (fun _ _ _ h => h) (by rfl) (by assumption) ?_
              try simp only [Act.put, List.setIfInBounds_toArray, List.set_cons_zero, List.set_cons_succ]
              refine pickN 5 (some 123) rfl rfl (by kernel_rfl) (by kernel_rfl) (by kernel_rfl) (by decide) (fun _ _ _ h => h) (by rfl) (by assumption) ?_
              try simp only [Act.put, List.setIfInBounds_toArray, List.set_cons_zero, List.set_cons_succ]
              refine pickN 6 (some 124) rfl rfl (by kernel_rfl) (by kernel_rfl) (by kernel_rfl) (by decide) (fun _ _ _ h => h) (by rfl) (by assumption) ?_
              try simp only [Act.put, List.setIfInBounds_toArray, List.set_cons_zero, List.set_cons_succ]
              refine pickN 7 (some 125) rfl rfl (by kernel_rfl) (by kernel_rfl) (by kernel_rfl) (by decide) (fun _ _ _ h => h) (by rfl) (by assumption) ?_
              try simp only [Act.put, List.setIfInBounds_toArray, List.set_cons_zero, List.set_cons_succ]
              refine pickN 8 (some 126) rfl rfl (by kernel_rfl) (by kernel_rfl) (by kernel_rfl) (by decide) (fun _ _ _ h => h) (by rfl) (by assumption) ?_
              try simp only [Act.put, List.setIfInBounds_toArray, List.set_cons_zero, List.set_cons_succ]
              refine pickN 9 (some 127) rfl rfl (by kernel_rfl) (by kernel_rfl) (by kernel_rfl) (by decide) (fun _ _ _ h => h) (by rfl) (by assumption) ?_
              try simp only [Act.put, List.setIfInBounds_toArray, List.set_cons_zero, List.set_cons_succ]
              refine pickN 10 (some 128) rfl rfl (by kernel_rfl) (by kernel_rfl) (by kernel_rfl) (by decide) (fun _ _ _ h => h) (by rfl) (by assumption) ?_
              try simp only [Act.put, List.setIfInBounds_toArray, List.set_cons_zero, List.set_cons_succ]
              refine pickN 11 (some 129) rfl rfl (by kernel_rfl) (by kernel_rfl) (by kernel_rfl) (by decide) (fun _ _ _ h => h) (by rfl) (by assumption) ?_
              try simp only [Act.put, List.setIfInBounds_toArray, List.set_cons_zero, List.set_cons_succ]
              refine pickN 12 (some 130) rfl rfl (by kernel_rfl) (by kernel_rfl) (by kernel_rfl) (by decide) (fun _ _ _ h => h) (by rfl) (by assumption) ?_
              try simp only [Act.put, List.setIfInBounds_toArray, List.set_cons_zero, List.set_cons_succ]
              refine pickN 13 (some 131) rfl rfl (by kernel_rfl) (by kernel_rfl) (by kernel_rfl) (by decide) (fun _ _ _ h => h) (by rfl) (by assumption) ?_
              try simp only [Act.put, List.setIfInBounds_toArray, List.set_cons_zero, List.set_cons_succ]
              refine pickN 14 (some 132) rfl rfl (by kernel_rfl) (by kernel_rfl) (by kernel_rfl) (by decide) (fun _ _ _ h => h) (by rfl) (by assumption) ?_
              try simp only [Act.put, List.setIfInBounds_toArray, List.set_cons_zero, List.set_cons_succ]
              refine pickN 15 (some 133) rfl rfl (by kernel_rfl) (by kernel_rfl) (by kernel_rfl) (by decide) (fun _ _ _ h => h) (by rfl) (by assumption) ?_
              try simp only [Act.put, List.setIfInBounds_toArray, List.set_cons_zero, List.set_cons_succ]
              refine pickN 16 (some 134) rfl rfl (by kernel_rfl) (by kernel_rfl) (by kernel_rfl) (by decide) (fun _ _ _ h => h) (by rfl) (by assumption) ?_
              try simp only [Act.put, List.setIfInBounds_toArray, List.set_cons_zero, List.set_cons_succ]
              refine pickA (v := ?_) 17 (some 135) rfl rfl (by kernel_rfl) (by kernel_rfl) (by kernel_rfl) (by decide) (fun _ _ _ h => h) (by rfl) ?_ (by assumption) ?_
              rotate_left
              · intro w'
                go_simp
                try with_reducible rfl
              try simp only [Act.put, List.setIfInBounds_toArray, List.set_cons_zero, List.set_cons_succ]
              refine pickA (v := ?_) 18 (some 22) rfl rfl (by kernel_rfl) (by kernel_rfl) (by kernel_rfl) (by decide) (fun _ _ _ h => h) (by rfl) ?_ (by assumption) ?_
              rotate_left
              · intro w'
                go_simp
                try with_reducible rfl
              try simp only [Act.put, List.setIfInBounds_toArray, List.set_cons_zero, List.set_cons_succ]
              refine doneL (by kernel_rfl) ?_ _
              clear hHeld
              clear LZ hWD
              have HBG : Hid (bgS x.ln x.bt p q = false) := by
                show _ = _
                rw [bgS_prV (hg2.out.2.1.1 x (by simp)) HU.out]
                simp only [decide_eq_false_iff_not]
                exact fun c => hfx.out (nf.out.2 c)
              obtain ⟨he1', he2'⟩ := e3.out hnear.out
              have he1 : Hid (decide ((⟨s0, s1, s2, s3, s4⟩ : Rf) = (⟨y0, y1, y2, y3, y4⟩ : Rf)) = true) := decide_eq_true he1'
              have he2 : Hid (decide ((⟨t0, t1, t2, t3, t4⟩ : Rf) = (⟨v0, v1, v2, v3, v4⟩ : Rf)) = true) := decide_eq_true he2'
              clear he1' he2'
              go_wp2_with fail
              have dr := (Below.refl WD.heap.size WD).drew
              obtain ⟨WE, hWE⟩ : ∃ W, WD.drew = W := ⟨_, rfl⟩
              rw [hWE] at dr
              replace LS := hide (LS.out.below dr)
              replace LM := hide (LM.out.below dr)
              replace XB := hide (XB.out.below dr)
              replace HR := hide (HR.out.below dr)
              replace LR := hide (LR.out.below dr)
              replace RO := hide (RO.out.below dr)
              replace Xa := hide (Xa.out.below dr)
              replace Xb := hide (Xb.out.below dr)
              replace Pa := hide (Pa.out.below dr)
              replace Pb := hide (Pb.out.below dr)
              replace Ua := hide (Ua.out.below dr)
              replace Ub := hide (Ub.out.below dr)
              replace B := hide (B.out.trans (dr.mono B.out.size))
              replace BW0 := hide (BW0.out.trans (dr.mono BW0.out.size))
              clear dr
              have LXd := hide (LX.out _ BW0.out)
              refine regionL 33 (fun w' => IsB w' gP #[.int .i64 s0, .int .i64 s1, .int .u64 s2, .int .i64 s3, .int .u64 s4] 30 ∧ IsB w' gU #[.int .i64 y0, .int .i64 y1, .int .u64 y2, .int .i64 y3, .int .u64 y4] 30 ∧ IsB w' gQ #[.int .i64 t0, .int .i64 t1, .int .u64 t2, .int .i64 t3, .int .u64 t4] 30 ∧ IsB w' gV #[.int .i64 v0, .int .i64 v1, .int .u64 v2, .int .i64 v3, .int .u64 v4] 30 ∧ IsB w' g0 #[.int .i64 x.id, .int .i64 x.rk, .int .u64 x.kn, .int .i64 x.ln, .int .u64 x.bt] 30 ∧ (Instr.loadAt 28 (.pointer (some ⟨g, i * 3, none⟩))).run Tryd.prog w' = .ok (.agg #[.int .i64 (p), .int .u64 (q)]) w') mixed (by rw [hWE]; exact ⟨Pa.out, Ua.out, Pb.out, Ub.out, XB.out, LXd.out⟩) (fun hHeld => ?_)
              rw [hWE] at hHeld ⊢
              refine pickA (v := ?_) 0 (some 136) rfl rfl (by kernel_rfl) (by kernel_rfl) (by kernel_rfl) (by decide) (fun _ _ _ h => h) (by rfl) ?_ (by assumption) ?_
              rotate_left
              · intro w'
                go_simp
                try with_reducible rfl
              try simp only [Act.put, List.setIfInBounds_toArray, List.set_cons_zero, List.set_cons_succ]
              refine pickA (v := .bool false) 1 (some 137) rfl rfl (by kernel_rfl) (by kernel_rfl) (by kernel_rfl) (by decide) (fun _ _ _ h => h) (by rfl) ?_ (by assumption) ?_
              · intro w'
                go_simp
                try with_reducible rfl
              try simp only [Act.put, List.setIfInBounds_toArray, List.set_cons_zero, List.set_cons_succ]
              refine pickA (v := ?_) 2 (some 138) rfl rfl (by kernel_rfl) (by kernel_rfl) (by kernel_rfl) (by decide) (fun _ _ _ h => h) (by rfl) ?_ (by assumption) ?_
              rotate_left
              · intro w'
                go_simp
                try with_reducible rfl
              try simp only [Act.put, List.setIfInBounds_toArray, List.set_cons_zero, List.set_cons_succ]
              refine pickA (v := ?_) 3 (some 139) rfl rfl (by kernel_rfl) (by kernel_rfl) (by kernel_rfl) (by decide) (fun _ _ _ h => h) (by rfl) ?_ (by assumption) ?_
              rotate_left
              · intro w'
                go_simp
                try with_reducible rfl
              try simp only [Act.put, List.setIfInBounds_toArray, List.set_cons_zero, List.set_cons_succ]
              refine pickA (v := .bool false) 4 (some 140) rfl rfl (by kernel_rfl) (by kernel_rfl) (by kernel_rfl) (by decide) (fun _ _ _ h => h) (by rfl) ?_ (by assumption) ?_
              · intro w'
                go_simp
                try with_reducible rfl
              try simp only [Act.put, List.setIfInBounds_toArray, List.set_cons_zero, List.set_cons_succ]
              refine pickA (v := ?_) 5 (some 141) rfl rfl (by kernel_rfl) (by kernel_rfl) (by kernel_rfl) (by decide) (fun _ _ _ h => h) (by rfl) ?_ (by assumption) ?_
              rotate_left
              · intro w'
                go_simp
                try with_reducible rfl
              try simp only [Act.put, List.setIfInBounds_toArray, List.set_cons_zero, List.set_cons_succ]
              refine pickA (v := ?_) 6 (some 142) rfl rfl (by kernel_rfl) (by kernel_rfl) (by kernel_rfl) (by decide) (fun _ _ _ h => h) (by rfl) ?_ (by assumption) ?_
              rotate_left
              · intro w'
                go_simp
                try with_reducible rfl
              try simp only [Act.put, List.setIfInBounds_toArray, List.set_cons_zero, List.set_cons_succ]
              refine pickA (v := ?_) 7 (some 143) rfl rfl (by kernel_rfl) (by kernel_rfl) (by kernel_rfl) (by decide) (fun _ _ _ h => h) (by rfl) ?_ (by assumption) ?_
              rotate_left
              · intro w'
                go_simp
                try with_reducible rfl
              try simp only [Act.put, List.setIfInBounds_toArray, List.set_cons_zero, List.set_cons_succ]
              refine pickA (v := ?_) 8 (some 144) rfl rfl (by kernel_rfl) (by kernel_rfl) (by kernel_rfl) (by decide) (fun _ _ _ h => h) (by rfl) ?_ (by assumption) ?_
              rotate_left
              · intro w'
                go_simp
                try with_reducible rfl
              try simp only [Act.put, List.setIfInBounds_toArray, List.set_cons_zero, List.set_cons_succ]
              refine pickA (v := ?_) 9 (some 145) rfl rfl (by kernel_rfl) (by kernel_rfl) (by kernel_rfl) (by decide) (fun _ _ _ h => h) (by rfl) ?_ (by assumption) ?_
              rotate_left
              · intro w'
                go_simp
                try with_reducible rfl
              try simp only [Act.put, List.setIfInBounds_toArray, List.set_cons_zero, List.set_cons_succ]
              refine pickL (v := .agg #[.int .i64 s0, .int .i64 s1, .int .u64 s2, .int .i64 s3, .int .u64 s4]) 10 (some 146) rfl rfl (by kernel_rfl) (by kernel_rfl) (by kernel_rfl) (by decide) (by kernel_rfl) (by kernel_rfl) (fun _ _ _ h => h) (by rfl) ?_ (by assumption) ?_
              · intro w' hSw
                obtain ⟨q0, q1, q2, q3, q4, q5⟩ := hSw
                exact exec_load rfl rfl (load_ref q0 rfl)
              try simp only [Act.put, List.setIfInBounds_toArray, List.set_cons_zero, List.set_cons_succ]
              refine pickL (v := .agg #[.int .i64 y0, .int .i64 y1, .int .u64 y2, .int .i64 y3, .int .u64 y4]) 11 (some 147) rfl rfl (by kernel_rfl) (by kernel_rfl) (by kernel_rfl) (by decide) (by kernel_rfl) (by kernel_rfl) (fun _ _ _ h => h) (by rfl) ?_ (by assumption) ?_
              · intro w' hSw
                obtain ⟨q0, q1, q2, q3, q4, q5⟩ := hSw
                exact exec_load rfl rfl (load_ref q1 rfl)
              try simp only [Act.put, List.setIfInBounds_toArray, List.set_cons_zero, List.set_cons_succ]
              refine pickA (v := .bool false) 12 (some 148) rfl rfl (by kernel_rfl) (by kernel_rfl) (by kernel_rfl) (by decide) (fun _ _ _ h => h) (by rfl) ?_ (by assumption) ?_
              · intro w'
                exact exec_bin rguard rfl rfl rfl ((ner_w (⟨s0, s1, s2, s3, s4⟩ : Rf) (⟨y0, y1, y2, y3, y4⟩ : Rf) _).trans (by rw [he1.out]; rfl))
              try simp only [Act.put, List.setIfInBounds_toArray, List.set_cons_zero, List.set_cons_succ]
              refine pickA (v := ?_) 13 (some 149) rfl rfl (by kernel_rfl) (by kernel_rfl) (by kernel_rfl) (by decide) (fun _ _ _ h => h) (by rfl) ?_ (by assumption) ?_
              rotate_left
              · intro w'
                go_simp
                try with_reducible rfl
              try simp only [Act.put, List.setIfInBounds_toArray, List.set_cons_zero, List.set_cons_succ]
              refine pickL (v := .agg #[.int .i64 t0, .int .i64 t1, .int .u64 t2, .int .i64 t3, .int .u64 t4]) 14 (some 150) rfl rfl (by kernel_rfl) (by kernel_rfl) (by kernel_rfl) (by decide) (by kernel_rfl) (by kernel_rfl) (fun _ _ _ h => h) (by rfl) ?_ (by assumption) ?_
              · intro w' hSw
                obtain ⟨q0, q1, q2, q3, q4, q5⟩ := hSw
                exact exec_load rfl rfl (load_ref q2 rfl)
              try simp only [Act.put, List.setIfInBounds_toArray, List.set_cons_zero, List.set_cons_succ]
              refine pickL (v := .agg #[.int .i64 v0, .int .i64 v1, .int .u64 v2, .int .i64 v3, .int .u64 v4]) 15 (some 151) rfl rfl (by kernel_rfl) (by kernel_rfl) (by kernel_rfl) (by decide) (by kernel_rfl) (by kernel_rfl) (fun _ _ _ h => h) (by rfl) ?_ (by assumption) ?_
              · intro w' hSw
                obtain ⟨q0, q1, q2, q3, q4, q5⟩ := hSw
                exact exec_load rfl rfl (load_ref q3 rfl)
              try simp only [Act.put, List.setIfInBounds_toArray, List.set_cons_zero, List.set_cons_succ]
              refine pickA (v := .bool false) 16 (some 152) rfl rfl (by kernel_rfl) (by kernel_rfl) (by kernel_rfl) (by decide) (fun _ _ _ h => h) (by rfl) ?_ (by assumption) ?_
              · intro w'
                exact exec_bin rguard rfl rfl rfl ((ner_w (⟨t0, t1, t2, t3, t4⟩ : Rf) (⟨v0, v1, v2, v3, v4⟩ : Rf) _).trans (by rw [he2.out]; rfl))
              try simp only [Act.put, List.setIfInBounds_toArray, List.set_cons_zero, List.set_cons_succ]
              refine pickA (v := ?_) 17 (some 153) rfl rfl (by kernel_rfl) (by kernel_rfl) (by kernel_rfl) (by decide) (fun _ _ _ h => h) (by rfl) ?_ (by assumption) ?_
              rotate_left
              · intro w'
                go_simp
                try with_reducible rfl
              try simp only [Act.put, List.setIfInBounds_toArray, List.set_cons_zero, List.set_cons_succ]
              refine pickA (v := ?_) 18 (some 154) rfl rfl (by kernel_rfl) (by kernel_rfl) (by kernel_rfl) (by decide) (fun _ _ _ h => h) (by rfl) ?_ (by assumption) ?_
              rotate_left
              · intro w'
                go_simp
                try with_reducible rfl
              try simp only [Act.put, List.setIfInBounds_toArray, List.set_cons_zero, List.set_cons_succ]
              refine pickA (v := ?_) 19 (some 155) rfl rfl (by kernel_rfl) (by kernel_rfl) (by kernel_rfl) (by decide) (fun _ _ _ h => h) (by rfl) ?_ (by assumption) ?_
              rotate_left
              · intro w'
                go_simp
                try with_reducible rfl
              try simp only [Act.put, List.setIfInBounds_toArray, List.set_cons_zero, List.set_cons_succ]
              refine pickA (v := ?_) 20 (some 156) rfl rfl (by kernel_rfl) (by kernel_rfl) (by kernel_rfl) (by decide) (fun _ _ _ h => h) (by rfl) ?_ (by assumption) ?_
              rotate_left
              · intro w'
                go_simp
                try with_reducible rfl
              try simp only [Act.put, List.setIfInBounds_toArray, List.set_cons_zero, List.set_cons_succ]
              refine pickA (v := ?_) 21 (some 157) rfl rfl (by kernel_rfl) (by kernel_rfl) (by kernel_rfl) (by decide) (fun _ _ _ h => h) (by rfl) ?_ (by assumption) ?_
              rotate_left
              · intro w'
                go_simp
                try with_reducible rfl
              try simp only [Act.put, List.setIfInBounds_toArray, List.set_cons_zero, List.set_cons_succ]
              refine pickA (v := .bool false) 22 (some 158) rfl rfl (by kernel_rfl) (by kernel_rfl) (by kernel_rfl) (by decide) (fun _ _ _ h => h) (by rfl) ?_ (by assumption) ?_
              · intro w'
                go_simp
                try simp only [hd]
                try with_reducible rfl
              try simp only [Act.put, List.setIfInBounds_toArray, List.set_cons_zero, List.set_cons_succ]
              refine pickA (v := ?_) 23 (some 159) rfl rfl (by kernel_rfl) (by kernel_rfl) (by kernel_rfl) (by decide) (fun _ _ _ h => h) (by rfl) ?_ (by assumption) ?_
              rotate_left
              · intro w'
                go_simp
                try with_reducible rfl
              try simp only [Act.put, List.setIfInBounds_toArray, List.set_cons_zero, List.set_cons_succ]
              refine pickL (v := (.agg #[.int .i64 (x.ln), .int .u64 (x.bt)])) 24 (some 160) rfl rfl (by kernel_rfl) (by kernel_rfl) (by kernel_rfl) (by decide) (by kernel_rfl) (by kernel_rfl) (fun _ _ _ h => h) (by rfl) ?_ (by assumption) ?_
              · intro w' hSw
                obtain ⟨q0, q1, q2, q3, q4, q5⟩ := hSw
                exact exec_load rfl rfl (load_mid (cs := [.int .i64 x.id, .int .i64 x.rk, .int .u64 x.kn, .int .i64 x.ln, .int .u64 x.bt]) q4 3 _ [.int .i64 x.ln, .int .u64 x.bt] _ rfl Tryd.underlying28 rfl (by kernel_rfl))
              try simp only [Act.put, List.setIfInBounds_toArray, List.set_cons_zero, List.set_cons_succ]
              refine pickA (v := ?_) 25 (some 161) rfl rfl (by kernel_rfl) (by kernel_rfl) (by kernel_rfl) (by decide) (fun _ _ _ h => h) (by rfl) ?_ (by assumption) ?_
              rotate_left
              · intro w'
                go_simp
                try with_reducible rfl
              try simp only [Act.put, List.setIfInBounds_toArray, List.set_cons_zero, List.set_cons_succ]
              refine pickA (v := ?_) 26 (some 162) rfl rfl (by kernel_rfl) (by kernel_rfl) (by kernel_rfl) (by decide) (fun _ _ _ h => h) (by rfl) ?_ (by assumption) ?_
              rotate_left
              · intro w'
                go_simp
                try with_reducible rfl
              try simp only [Act.put, List.setIfInBounds_toArray, List.set_cons_zero, List.set_cons_succ]
              refine pickA (v := ?_) 27 (some 163) rfl rfl (by kernel_rfl) (by kernel_rfl) (by kernel_rfl) (by decide) (fun _ _ _ h => h) (by rfl) ?_ (by assumption) ?_
              rotate_left
              · intro w'
                go_simp
                try with_reducible rfl
              try simp only [Act.put, List.setIfInBounds_toArray, List.set_cons_zero, List.set_cons_succ]
              refine pickA (v := ?_) 28 (some 164) rfl rfl (by kernel_rfl) (by kernel_rfl) (by kernel_rfl) (by decide) (fun _ _ _ h => h) (by rfl) ?_ (by assumption) ?_
              rotate_left
              · intro w'
                go_simp
                try with_reducible rfl
              try simp only [Act.put, List.setIfInBounds_toArray, List.set_cons_zero, List.set_cons_succ]
              refine pickL (v := (.agg #[.int .i64 (p), .int .u64 (q)])) 29 (some 165) rfl rfl (by kernel_rfl) (by kernel_rfl) (by kernel_rfl) (by decide) (by kernel_rfl) (by kernel_rfl) (fun _ _ _ h => h) (by rfl) ?_ (by assumption) ?_
              · intro w' hSw
                obtain ⟨q0, q1, q2, q3, q4, q5⟩ := hSw
                exact exec_load rfl rfl q5
              try simp only [Act.put, List.setIfInBounds_toArray, List.set_cons_zero, List.set_cons_succ]
              refine oneL (i := 30) (by kernel_rfl) rfl (fun K hK => ?_)
              go_simp
              refine (rBegins_any x.ln x.bt p q HX.out HQ.out WE).mono ?_
              rintro e wf ⟨rfl, hbf⟩
              rw [HBG.out]
              replace LS := hide (LS.out.below hbf)
              replace LM := hide (LM.out.below hbf)
              replace XB := hide (XB.out.below hbf)
              replace HR := hide (HR.out.below hbf)
              replace LR := hide (LR.out.below hbf)
              replace RO := hide (RO.out.below hbf)
              replace Xa := hide (Xa.out.below hbf)
              replace Xb := hide (Xb.out.below hbf)
              replace Pa := hide (Pa.out.below hbf)
              replace Pb := hide (Pb.out.below hbf)
              replace Ua := hide (Ua.out.below hbf)
              replace Ub := hide (Ub.out.below hbf)
              replace B := hide (B.out.trans (hbf.mono B.out.size))
              replace BW0 := hide (BW0.out.trans (hbf.mono BW0.out.size))
              clear hbf
              refine hK.out _ _ ?_ ?_
              · exact ⟨Pa.out, Ua.out, Pb.out, Ub.out, XB.out, (LX.out _ BW0.out)⟩
              clear hK K
              try simp only [Act.put, List.setIfInBounds_toArray, List.set_cons_zero, List.set_cons_succ]
              clear hHeld
              have hHeld : (fun w' => IsB w' gP #[.int .i64 s0, .int .i64 s1, .int .u64 s2, .int .i64 s3, .int .u64 s4] 30 ∧ IsB w' gU #[.int .i64 y0, .int .i64 y1, .int .u64 y2, .int .i64 y3, .int .u64 y4] 30 ∧ IsB w' gQ #[.int .i64 t0, .int .i64 t1, .int .u64 t2, .int .i64 t3, .int .u64 t4] 30 ∧ IsB w' gV #[.int .i64 v0, .int .i64 v1, .int .u64 v2, .int .i64 v3, .int .u64 v4] 30 ∧ IsB w' g0 #[.int .i64 x.id, .int .i64 x.rk, .int .u64 x.kn, .int .i64 x.ln, .int .u64 x.bt] 30 ∧ (Instr.loadAt 28 (.pointer (some ⟨g, i * 3, none⟩))).run Tryd.prog w' = .ok (.agg #[.int .i64 (p), .int .u64 (q)]) w') wf := ⟨Pa.out, Ua.out, Pb.out, Ub.out, XB.out, (LX.out _ BW0.out)⟩
              refine pickA (v := ?_) 31 (some 167) rfl rfl (by kernel_rfl) (by kernel_rfl) (by kernel_rfl) (by decide) (fun _ _ _ h => h) (by rfl) ?_ (by assumption) ?_
              rotate_left
              · intro w'
                go_simp
                try with_reducible rfl
              try simp only [Act.put, List.setIfInBounds_toArray, List.set_cons_zero, List.set_cons_succ]
              refine pickA (v := ?_) 32 (some 168) rfl rfl (by kernel_rfl) (by kernel_rfl) (by kernel_rfl) (by decide) (fun _ _ _ h => h) (by rfl) ?_ (by assumption) ?_
              rotate_left
              · intro w'
                go_simp
                try with_reducible rfl
              try simp only [Act.put, List.setIfInBounds_toArray, List.set_cons_zero, List.set_cons_succ]
              refine doneL (by kernel_rfl) ?_ _
              clear hHeld
              go_wp2
              exact ⟨⟨k + 1, by omega, by simp, LS.out, LM.out, XB.out, HR.out, LR.out, RO.out, Xa.out, Xb.out, BW0.out, B.out⟩, by simp [intOf]; omega⟩

end Go.Proofs.YtfcmmchppcffmaaDoor
