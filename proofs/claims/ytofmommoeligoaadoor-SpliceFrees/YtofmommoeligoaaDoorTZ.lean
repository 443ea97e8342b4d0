/- Rows of numbers of one's own; the law's held. -/
import Derived.Test.YtofmommoeligoaaDoorTV
namespace Go.Proofs.YtofmommoeligoaaDoor
open Go.RowKit Go.Maps Go.ChangeMaps

theorem addn (g o j : Nat) : (⟨g, o, none⟩ : Addr).add j = ⟨g, o + j, none⟩ := by unfold Addr.add; split <;> simp_all
def ints (l : List Int) : List Value := l.map fun x => .int .i64 x
theorem ints_len (l : List Int) : (ints l).length = l.length := by simp [ints]
theorem ints_app (l m : List Int) : ints (l ++ m) = ints l ++ ints m := by simp [ints]
theorem ints_one (l : List Int) : ∀ u ∈ ints l, u.oneCell' = true := by
  intro u hu
  obtain ⟨x, -, rfl⟩ := List.mem_map.1 hu
  rfl
/-- A row of numbers of one's own, laid since w0. -/
structure Io (w0 w : World) (v : Value) (l : List Int) : Prop where
  row : Rw w 3 1 v l.length (ints l)
  new : ∀ k, v.ownBlock = some k → w0.heap.size ≤ k
  kp : Kp [] w0 w
theorem Io.bel {w0 w : World} {v : Value} {l : List Int} (h : Io w0 w v l) : Below w0.heap.size w0 w := h.kp.to_below (Nat.le_refl _) (by simp)
theorem Io.nil (w : World) : Io w w (.slice none 0 0) [] := ⟨⟨rfl, Or.inl ⟨rfl, rfl⟩⟩, fun k hk => (by cases hk), Kp.refl _ _⟩
theorem Io.below {w0 w w' : World} {v : Value} {l : List Int} (h : Io w0 w v l) (hb : Below w.heap.size w w') : Io w0 w' v l := ⟨h.row.below hb, h.new, h.kp.bel hb⟩
theorem Io.back {w w0 w1 : World} {v : Value} {l : List Int} (h : Io w0 w1 v l) (hb : Below w.heap.size w w0) : Io w w1 v l := ⟨h.row, fun k hk => Nat.le_trans hb.size (h.new k hk), (Kp.of_below (S := []) hb).tr h.kp⟩
theorem Io.push {w0 w : World} {v : Value} {l : List Int} (h : Io w0 w v l) (x : Int) (hlen : l.length ≤ 100000) (ty : TypeId) :
    ∃ qa qc w', (Builtin.append_ #[80, 80] ty #[v, .slice (some ⟨w.heap.size, 0, none⟩) 1 1]).run Tryd.prog (w.alloc (.cells #[.int .i64 x] 3)) = .ok (.slice qa (l.length + 1) qc) w' ∧ Io w0 w' (.slice qa (l ++ [x]).length qc) (l ++ [x]) := by
  have hb := (Below.refl w.heap.size w).alloc (Nat.le_refl _) (.cells #[.int .i64 x] 3)
  have hg := IsB.new w #[.int .i64 x] 3
  have h' := h.below hb
  generalize w.alloc (.cells #[.int .i64 x] 3) = W at *
  obtain ⟨i0, hi0, hz0, hz1, hz2⟩ := info_parts Tryd.info3
  have hcells : ∀ j u, (ints [x])[j]? = some u → W.cell? ((⟨w.heap.size, 0, none⟩ : Addr).add j) = some u := fun j u hu => by
    rw [addn, Nat.zero_add, hg.cell j]
    simpa [ints] using hu
  obtain ⟨v', w', hrun, hrw, hgr, hat, -⟩ := run_append_rw (P := Tryd.prog) W 80 ty 3 i0 _ 1 8 Tryd.underlying80 hi0 hz0 hz1 hz2 rfl v l.length (ints l) h'.row (.slice (some ⟨w.heap.size, 0, none⟩) 1 1) 1 (ints [x]) rfl (Or.inl ⟨⟨w.heap.size, 0, none⟩, 1, rfl, hcells⟩) (ints_one [x]) (by unfold maxLen; omega) (by omega)
  obtain ⟨qa, qc, rfl, -, -⟩ := hrw.shape
  have hl : (l ++ [x]).length = l.length + 1 := by simp
  refine ⟨qa, qc, w', hrun, ?_, fun k hk => ?_, ?_⟩
  · rw [ints_app, hl]
    exact hrw
  · rw [hl] at hk
    rcases hat with e | e
    · exact h.new k (by rw [← e]; exact hk)
    · rw [e] at hk
      injection hk with hk
      have := h'.kp.size
      omega
  · exact h'.kp.trans (Kp.of_grown (S := v.ownBlock.toList) hgr (fun k hk => Or.inl (by rw [hk]; simp))) (fun j hj => Or.inr (h.new j (by simpa using hj)))
/-- Is one still held? -/
def kpB (to q k x : Int) : Bool := !(x == to) || (!(k == 3) && (!(q == 4) && !(q == 8)))
/-- Who is held behind an answer. -/
def hld (l : List Int) (to q k : Int) : List Int := l.filter (kpB to q k) ++ (if k = 1 ∧ (q = 3 ∨ q = 7) then [to] else [])

set_option maxHeartbeats 1000000 in
set_option maxRecDepth 100000 in
theorem held_any (v0 : Value) (l : List Int) (hl : l.length ≤ 1000) (kd : Int) (to : Rf) (q x y : Int) (r1 r2 : Rf) (oa oo e : Int) (l1 r3 : Rf) (a : An) (w : World) (h : Rw w 3 1 v0 l.length (ints l)) : Calls Tryd.prog 26 #[v0, .agg (stL kd to q x y r1 r2 oa oo e l1 r3).toArray, .agg (anL a).toArray] w fun e' w' => ∃ v', e' = .returned v' ∧ Io w w' v' (hld l to.id q a.k) := by
  have mixed : Tryd.prog.follows .mixedOrders = true := by kernel_rfl
  have b1 := ((Below.refl w.heap.size w).alloc (Nat.le_refl _) (.cells (stL kd to q x y r1 r2 oa oo e l1 r3).toArray 53)).alloc (by simp) (.cells (anL a).toArray 57)
  have SA0 := (IsB.new w (stL kd to q x y r1 r2 oa oo e l1 r3).toArray 53).below ((Below.refl _ _).alloc (Nat.le_refl _) (.cells (anL a).toArray 57))
  have SB0 := IsB.new (w.alloc (.cells (stL kd to q x y r1 r2 oa oo e l1 r3).toArray 53)) (anL a).toArray 57
  rw [World.size_alloc] at SB0
  have SA := hide SA0
  have SB := hide SB0
  have B := hide b1
  have R0 := hide (h.below b1)
  obtain ⟨va, vc, rfl, -, -⟩ := h.shape
  clear b1 SA0 SB0 h
  generalize hn : l.length = n at *
  replace hn := hide hn
  go_enter Tryd.func26, Tryd.ntmps26
  go_wp2_with fail
  generalize ((w.alloc (.cells (stL kd to q x y r1 r2 oa oo e l1 r3).toArray 53)).alloc (.cells (anL a).toArray 57)) = W2 at *
  obtain ⟨H, hH⟩ : ∃ H, w.heap.size = H := ⟨_, rfl⟩
  rw [hH] at SA SB ⊢
  replace hH := hide hH
  go_loopw [7, 8] (fun mv i wr => ∃ (j : Nat) (qa : Option Addr) (qc : Nat) (m : List Int), j ≤ n ∧ i = .int .i64 (j : Int) ∧ mv = .slice qa m.length qc ∧ Hid (m = (l.take j).filter (kpB to.id q a.k)) ∧ Hid (Io W2 wr (.slice qa m.length qc) m)) (fun _ i _ => n - (intOf i).toNat)
  case atStart => exact ⟨0, none, 0, [], by omega, rfl, rfl, by simp [Hid], Io.nil _⟩
  case round =>
    obtain ⟨j, qa, qc, m, hj, rfl, rfl, HM, RX⟩ := hrel
    have SA1 := hide (SA.out.below RX.out.bel)
    have SB1 := hide (SB.out.below RX.out.bel)
    by_cases hlt : j < n
    · have hjl : j < l.length := by rw [hn.out]; exact hlt
      have hlt2 : (j : Int) < n := by omega
      have hml : m.length ≤ 100000 := by
        have := List.length_filter_le (kpB to.id q a.k) (l.take j)
        rw [← HM.out, List.length_take] at this
        have := hn.out
        omega
      have HT : Hid ((l.take (j + 1)).filter (kpB to.id q a.k) = m ++ (if kpB to.id q a.k l[j] then [l[j]] else [])) := by
        show _ = _
        rw [List.take_succ_eq_append_getElem hjl, List.filter_append, ← HM.out]
        cases hq : kpB to.id q a.k l[j] <;> simp [hq]
      obtain ⟨g, cap, ev, -, -, hgl⟩ := R0.out.form (by omega)
      injection ev with ev el ec
      clear el
      subst ev ec
      have hc0 : wr.cell? ⟨g, j, none⟩ = some (.int .i64 l[j]) := by
        rw [(R0.out.below RX.out.bel).cellAt j (by omega)]
        simp [ints, hjl]
      have hc1 : wr.drew.cell? ⟨g, j, none⟩ = some (.int .i64 l[j]) := hc0
      obtain ⟨ra, rc, wA, hap, hIo⟩ : ∃ qa' qc' w', (Builtin.append_ #[80, 80] 80 #[.slice qa m.length qc, .slice (some ⟨wr.drew.heap.size, 0, none⟩) 1 1]).run Tryd.prog (wr.drew.alloc (.cells #[.int .i64 l[j]] 3)) = .ok (.slice qa' (m.length + 1) qc') w' ∧ Io W2 w' (.slice qa' (m ++ [l[j]]).length qc') (m ++ [l[j]]) := (RX.out.below ((Below.refl _ _).drew)).push l[j] hml 80
      have RO := hide hIo
      have HAP := hide hap
      clear hap hIo
      generalize l[j] = z at *
      generalize hmn : m.length = mn at *
      replace hmn := hide hmn
      replace hc0 := hide hc0
      replace hc1 := hide hc1
      have SAd := hide (SA1.out.below ((Below.refl _ _).drew))
      have SBd := hide (SB1.out.below ((Below.refl _ _).drew))
      clear SA1 SB1
      by_cases hz : z = to.id
      rotate_left
      · have n1 : (z == to.id) = false := by simpa using hz
        have n2 : (z != to.id) = true := by simpa using hz
        have HK : kpB to.id q a.k z = true := by unfold kpB; simp [n1]
        have HT2 : Hid ((l.take (j + 1)).filter (kpB to.id q a.k) = m ++ [z]) := by show _ = _; rw [HT.out, HK]; simp
        clear HT HK
        skip
        go_wp2_with fail
        refine regionL 25 (fun w' => IsB w' H (stL kd to q x y r1 r2 oa oo e l1 r3).toArray 53 ∧ IsB w' (H + 1) (anL a).toArray 57 ∧ w'.cell? ⟨g, j, none⟩ = some (.int .i64 z)) mixed ⟨SAd.out, SBd.out, hc1.out⟩ (fun hHeld => ?_)
        generalize hWD : wr.drew = WD at *
        refine pickA (v := ?_) 0 (some 15) rfl rfl (by kernel_rfl) (by kernel_rfl) (by kernel_rfl) (by decide) (fun _ _ _ h => h) (by rfl) ?_ (by assumption) ?_
        rotate_left
        · intro w'
          go_simp
          try with_reducible rfl
        try simp only [Act.put, List.setIfInBounds_toArray, List.set_cons_zero, List.set_cons_succ]
        refine pickA (v := ?_) 1 (some 16) rfl rfl (by kernel_rfl) (by kernel_rfl) (by kernel_rfl) (by decide) (fun _ _ _ h => h) (by rfl) ?_ (by assumption) ?_
        rotate_left
        · intro w'
          go_simp
          try with_reducible rfl
        try simp only [Act.put, List.setIfInBounds_toArray, List.set_cons_zero, List.set_cons_succ]
        refine pickA (v := ?_) 2 (some 17) rfl rfl (by kernel_rfl) (by kernel_rfl) (by kernel_rfl) (by decide) (fun _ _ _ h => h) (by rfl) ?_ (by assumption) ?_
        rotate_left
        · intro w'
          go_simp
          try with_reducible rfl
        try simp only [Act.put, List.setIfInBounds_toArray, List.set_cons_zero, List.set_cons_succ]
        refine pickL (v := ?_) 3 (some 18) rfl rfl (by kernel_rfl) (by kernel_rfl) (by kernel_rfl) (by decide) (by kernel_rfl) (by kernel_rfl) (fun _ _ _ h => h) (by rfl) ?_ (by assumption) ?_
        rotate_left
        · intro w' hSw
          obtain ⟨q0, q1, q2⟩ := hSw; have z1 : w'.cell? ⟨H, 1, none⟩ = some (.int .i64 to.id) := q0.cell 1; have z6 : w'.cell? ⟨H, 6, none⟩ = some (.int .i64 q) := q0.cell 6; have zk : w'.cell? ⟨H + 1, 0, none⟩ = some (.int .i64 a.k) := q1.cell 0
          go_simp
          try with_reducible rfl
        try simp only [Act.put, List.setIfInBounds_toArray, List.set_cons_zero, List.set_cons_succ]
        refine pickA (v := ?_) 4 (some 19) rfl rfl (by kernel_rfl) (by kernel_rfl) (by kernel_rfl) (by decide) (fun _ _ _ h => h) (by rfl) ?_ (by assumption) ?_
        rotate_left
        · intro w'
          go_simp
          try with_reducible rfl
        try simp only [Act.put, List.setIfInBounds_toArray, List.set_cons_zero, List.set_cons_succ]
        refine pickA (v := ?_) 5 (some 20) rfl rfl (by kernel_rfl) (by kernel_rfl) (by kernel_rfl) (by decide) (fun _ _ _ h => h) (by rfl) ?_ (by assumption) ?_
        rotate_left
        · intro w'
          go_simp
          try with_reducible rfl
        try simp only [Act.put, List.setIfInBounds_toArray, List.set_cons_zero, List.set_cons_succ]
        refine pickL (v := ?_) 6 (some 21) rfl rfl (by kernel_rfl) (by kernel_rfl) (by kernel_rfl) (by decide) (by kernel_rfl) (by kernel_rfl) (fun _ _ _ h => h) (by rfl) ?_ (by assumption) ?_
        rotate_left
        · intro w' hSw
          obtain ⟨q0, q1, q2⟩ := hSw; have z1 : w'.cell? ⟨H, 1, none⟩ = some (.int .i64 to.id) := q0.cell 1; have z6 : w'.cell? ⟨H, 6, none⟩ = some (.int .i64 q) := q0.cell 6; have zk : w'.cell? ⟨H + 1, 0, none⟩ = some (.int .i64 a.k) := q1.cell 0
          go_simp
          try with_reducible rfl
        try simp only [Act.put, List.setIfInBounds_toArray, List.set_cons_zero, List.set_cons_succ]
        refine pickA (v := ?_) 7 (some 22) rfl rfl (by kernel_rfl) (by kernel_rfl) (by kernel_rfl) (by decide) (fun _ _ _ h => h) (by rfl) ?_ (by assumption) ?_
        rotate_left
        · intro w'
          go_simp
          try with_reducible rfl
        try simp only [Act.put, List.setIfInBounds_toArray, List.set_cons_zero, List.set_cons_succ]
        refine pickA (v := ?_) 8 (some 23) rfl rfl (by kernel_rfl) (by kernel_rfl) (by kernel_rfl) (by decide) (fun _ _ _ h => h) (by rfl) ?_ (by assumption) ?_
        rotate_left
        · intro w'
          go_simp
          try with_reducible rfl
        try simp only [Act.put, List.setIfInBounds_toArray, List.set_cons_zero, List.set_cons_succ]
        refine pickN 9 (some 24) rfl rfl (by kernel_rfl) (by kernel_rfl) (by kernel_rfl) (by decide) (fun _ _ _ h => h) (by rfl) (by assumption) ?_
        try simp only [Act.put, List.setIfInBounds_toArray, List.set_cons_zero, List.set_cons_succ]
        refine pickN 10 (some 25) rfl rfl (by kernel_rfl) (by kernel_rfl) (by kernel_rfl) (by decide) (fun _ _ _ h => h) (by rfl) (by assumption) ?_
        try simp only [Act.put, List.setIfInBounds_toArray, List.set_cons_zero, List.set_cons_succ]
        refine pickN 11 (some 26) rfl rfl (by kernel_rfl) (by kernel_rfl) (by kernel_rfl) (by decide) (fun _ _ _ h => h) (by rfl) (by assumption) ?_
        try simp only [Act.put, List.setIfInBounds_toArray, List.set_cons_zero, List.set_cons_succ]
        refine pickN 12 (some 27) rfl rfl (by kernel_rfl) (by kernel_rfl) (by kernel_rfl) (by decide) (fun _ _ _ h => h) (by rfl) (by assumption) ?_
        try simp only [Act.put, List.setIfInBounds_toArray, List.set_cons_zero, List.set_cons_succ]
        refine pickN 13 (some 28) rfl rfl (by kernel_rfl) (by kernel_rfl) (by kernel_rfl) (by decide) (fun _ _ _ h => h) (by rfl) (by assumption) ?_
        try simp only [Act.put, List.setIfInBounds_toArray, List.set_cons_zero, List.set_cons_succ]
        refine pickN 14 (some 29) rfl rfl (by kernel_rfl) (by kernel_rfl) (by kernel_rfl) (by decide) (fun _ _ _ h => h) (by rfl) (by assumption) ?_
        try simp only [Act.put, List.setIfInBounds_toArray, List.set_cons_zero, List.set_cons_succ]
        refine pickN 15 (some 30) rfl rfl (by kernel_rfl) (by kernel_rfl) (by kernel_rfl) (by decide) (fun _ _ _ h => h) (by rfl) (by assumption) ?_
        try simp only [Act.put, List.setIfInBounds_toArray, List.set_cons_zero, List.set_cons_succ]
        refine pickN 16 (some 31) rfl rfl (by kernel_rfl) (by kernel_rfl) (by kernel_rfl) (by decide) (fun _ _ _ h => h) (by rfl) (by assumption) ?_
        try simp only [Act.put, List.setIfInBounds_toArray, List.set_cons_zero, List.set_cons_succ]
        refine pickN 17 (some 32) rfl rfl (by kernel_rfl) (by kernel_rfl) (by kernel_rfl) (by decide) (fun _ _ _ h => h) (by rfl) (by assumption) ?_
        try simp only [Act.put, List.setIfInBounds_toArray, List.set_cons_zero, List.set_cons_succ]
        refine pickN 18 (some 33) rfl rfl (by kernel_rfl) (by kernel_rfl) (by kernel_rfl) (by decide) (fun _ _ _ h => h) (by rfl) (by assumption) ?_
        try simp only [Act.put, List.setIfInBounds_toArray, List.set_cons_zero, List.set_cons_succ]
        refine pickN 19 (some 34) rfl rfl (by kernel_rfl) (by kernel_rfl) (by kernel_rfl) (by decide) (fun _ _ _ h => h) (by rfl) (by assumption) ?_
        try simp only [Act.put, List.setIfInBounds_toArray, List.set_cons_zero, List.set_cons_succ]
        refine pickN 20 (some 35) rfl rfl (by kernel_rfl) (by kernel_rfl) (by kernel_rfl) (by decide) (fun _ _ _ h => h) (by rfl) (by assumption) ?_
        try simp only [Act.put, List.setIfInBounds_toArray, List.set_cons_zero, List.set_cons_succ]
        refine pickN 21 (some 36) rfl rfl (by kernel_rfl) (by kernel_rfl) (by kernel_rfl) (by decide) (fun _ _ _ h => h) (by rfl) (by assumption) ?_
        try simp only [Act.put, List.setIfInBounds_toArray, List.set_cons_zero, List.set_cons_succ]
        refine pickN 22 (some 37) rfl rfl (by kernel_rfl) (by kernel_rfl) (by kernel_rfl) (by decide) (fun _ _ _ h => h) (by rfl) (by assumption) ?_
        try simp only [Act.put, List.setIfInBounds_toArray, List.set_cons_zero, List.set_cons_succ]
        refine pickN 23 (some 38) rfl rfl (by kernel_rfl) (by kernel_rfl) (by kernel_rfl) (by decide) (fun _ _ _ h => h) (by rfl) (by assumption) ?_
        try simp only [Act.put, List.setIfInBounds_toArray, List.set_cons_zero, List.set_cons_succ]
        refine pickA (v := ?_) 24 (some 39) rfl rfl (by kernel_rfl) (by kernel_rfl) (by kernel_rfl) (by decide) (fun _ _ _ h => h) (by rfl) ?_ (by assumption) ?_
        rotate_left
        · intro w'
          go_simp
          try with_reducible rfl
        try simp only [Act.put, List.setIfInBounds_toArray, List.set_cons_zero, List.set_cons_succ]
        refine doneL (by kernel_rfl) ?_ _
        clear hHeld
        have hc2 := hc1.out
        go_wp2_with (at_builtin; refine wpList_append_eq rfl (.tmp 40) (.tmp 45) 80 rfl _ _ (.slice ra (mn + 1) rc) wA rfl rfl HAP.out ?_)
        exact ⟨⟨j + 1, ra, rc, m ++ [z], by omega, by simp, by simp [hmn.out], HT2.out.symm, RO.out⟩, by simp [intOf]; omega⟩
      replace hz := hide hz
      by_cases hk : a.k = 3
      · have n1 : (z == to.id) = true := by simpa using hz.out
        have n2 : (z != to.id) = false := by simpa using hz.out
        have k1 : (a.k == 3) = true := by simpa using hk
        have k2 : (a.k != 3) = false := by simpa using hk
        have HK : kpB to.id q a.k z = false := by unfold kpB; simp [n1, k1]
        have HT2 : Hid ((l.take (j + 1)).filter (kpB to.id q a.k) = m) := by show _ = _; rw [HT.out, HK]; simp
        clear HT HK
        skip
        go_wp2_with fail
        refine regionL 25 (fun w' => IsB w' H (stL kd to q x y r1 r2 oa oo e l1 r3).toArray 53 ∧ IsB w' (H + 1) (anL a).toArray 57 ∧ w'.cell? ⟨g, j, none⟩ = some (.int .i64 z)) mixed ⟨SAd.out, SBd.out, hc1.out⟩ (fun hHeld => ?_)
        generalize hWD : wr.drew = WD at *
        refine pickA (v := ?_) 0 (some 15) rfl rfl (by kernel_rfl) (by kernel_rfl) (by kernel_rfl) (by decide) (fun _ _ _ h => h) (by rfl) ?_ (by assumption) ?_
        rotate_left
        · intro w'
          go_simp
          try with_reducible rfl
        try simp only [Act.put, List.setIfInBounds_toArray, List.set_cons_zero, List.set_cons_succ]
        refine pickA (v := ?_) 1 (some 16) rfl rfl (by kernel_rfl) (by kernel_rfl) (by kernel_rfl) (by decide) (fun _ _ _ h => h) (by rfl) ?_ (by assumption) ?_
        rotate_left
        · intro w'
          go_simp
          try with_reducible rfl
        try simp only [Act.put, List.setIfInBounds_toArray, List.set_cons_zero, List.set_cons_succ]
        refine pickA (v := ?_) 2 (some 17) rfl rfl (by kernel_rfl) (by kernel_rfl) (by kernel_rfl) (by decide) (fun _ _ _ h => h) (by rfl) ?_ (by assumption) ?_
        rotate_left
        · intro w'
          go_simp
          try with_reducible rfl
        try simp only [Act.put, List.setIfInBounds_toArray, List.set_cons_zero, List.set_cons_succ]
        refine pickL (v := ?_) 3 (some 18) rfl rfl (by kernel_rfl) (by kernel_rfl) (by kernel_rfl) (by decide) (by kernel_rfl) (by kernel_rfl) (fun _ _ _ h => h) (by rfl) ?_ (by assumption) ?_
        rotate_left
        · intro w' hSw
          obtain ⟨q0, q1, q2⟩ := hSw; have z1 : w'.cell? ⟨H, 1, none⟩ = some (.int .i64 to.id) := q0.cell 1; have z6 : w'.cell? ⟨H, 6, none⟩ = some (.int .i64 q) := q0.cell 6; have zk : w'.cell? ⟨H + 1, 0, none⟩ = some (.int .i64 a.k) := q1.cell 0
          go_simp
          try with_reducible rfl
        try simp only [Act.put, List.setIfInBounds_toArray, List.set_cons_zero, List.set_cons_succ]
        refine pickA (v := ?_) 4 (some 19) rfl rfl (by kernel_rfl) (by kernel_rfl) (by kernel_rfl) (by decide) (fun _ _ _ h => h) (by rfl) ?_ (by assumption) ?_
        rotate_left
        · intro w'
          go_simp
          try with_reducible rfl
        try simp only [Act.put, List.setIfInBounds_toArray, List.set_cons_zero, List.set_cons_succ]
        refine pickA (v := ?_) 5 (some 20) rfl rfl (by kernel_rfl) (by kernel_rfl) (by kernel_rfl) (by decide) (fun _ _ _ h => h) (by rfl) ?_ (by assumption) ?_
        rotate_left
        · intro w'
          go_simp
          try with_reducible rfl
        try simp only [Act.put, List.setIfInBounds_toArray, List.set_cons_zero, List.set_cons_succ]
        refine pickL (v := ?_) 6 (some 21) rfl rfl (by kernel_rfl) (by kernel_rfl) (by kernel_rfl) (by decide) (by kernel_rfl) (by kernel_rfl) (fun _ _ _ h => h) (by rfl) ?_ (by assumption) ?_
        rotate_left
        · intro w' hSw
          obtain ⟨q0, q1, q2⟩ := hSw; have z1 : w'.cell? ⟨H, 1, none⟩ = some (.int .i64 to.id) := q0.cell 1; have z6 : w'.cell? ⟨H, 6, none⟩ = some (.int .i64 q) := q0.cell 6; have zk : w'.cell? ⟨H + 1, 0, none⟩ = some (.int .i64 a.k) := q1.cell 0
          go_simp
          try with_reducible rfl
        try simp only [Act.put, List.setIfInBounds_toArray, List.set_cons_zero, List.set_cons_succ]
        refine pickA (v := ?_) 7 (some 22) rfl rfl (by kernel_rfl) (by kernel_rfl) (by kernel_rfl) (by decide) (fun _ _ _ h => h) (by rfl) ?_ (by assumption) ?_
        rotate_left
        · intro w'
          go_simp
          try with_reducible rfl
        try simp only [Act.put, List.setIfInBounds_toArray, List.set_cons_zero, List.set_cons_succ]
        refine pickA (v := ?_) 8 (some 23) rfl rfl (by kernel_rfl) (by kernel_rfl) (by kernel_rfl) (by decide) (fun _ _ _ h => h) (by rfl) ?_ (by assumption) ?_
        rotate_left
        · intro w'
          go_simp
          try with_reducible rfl
        try simp only [Act.put, List.setIfInBounds_toArray, List.set_cons_zero, List.set_cons_succ]
        refine pickA (v := ?_) 9 (some 24) rfl rfl (by kernel_rfl) (by kernel_rfl) (by kernel_rfl) (by decide) (fun _ _ _ h => h) (by rfl) ?_ (by assumption) ?_
        rotate_left
        · intro w'
          go_simp
          try with_reducible rfl
        try simp only [Act.put, List.setIfInBounds_toArray, List.set_cons_zero, List.set_cons_succ]
        refine pickL (v := ?_) 10 (some 25) rfl rfl (by kernel_rfl) (by kernel_rfl) (by kernel_rfl) (by decide) (by kernel_rfl) (by kernel_rfl) (fun _ _ _ h => h) (by rfl) ?_ (by assumption) ?_
        rotate_left
        · intro w' hSw
          obtain ⟨q0, q1, q2⟩ := hSw; have z1 : w'.cell? ⟨H, 1, none⟩ = some (.int .i64 to.id) := q0.cell 1; have z6 : w'.cell? ⟨H, 6, none⟩ = some (.int .i64 q) := q0.cell 6; have zk : w'.cell? ⟨H + 1, 0, none⟩ = some (.int .i64 a.k) := q1.cell 0
          go_simp
          try with_reducible rfl
        try simp only [Act.put, List.setIfInBounds_toArray, List.set_cons_zero, List.set_cons_succ]
        refine pickA (v := ?_) 11 (some 26) rfl rfl (by kernel_rfl) (by kernel_rfl) (by kernel_rfl) (by decide) (fun _ _ _ h => h) (by rfl) ?_ (by assumption) ?_
        rotate_left
        · intro w'
          go_simp
          try with_reducible rfl
        try simp only [Act.put, List.setIfInBounds_toArray, List.set_cons_zero, List.set_cons_succ]
        refine pickA (v := ?_) 12 (some 27) rfl rfl (by kernel_rfl) (by kernel_rfl) (by kernel_rfl) (by decide) (fun _ _ _ h => h) (by rfl) ?_ (by assumption) ?_
        rotate_left
        · intro w'
          go_simp
          try with_reducible rfl
        try simp only [Act.put, List.setIfInBounds_toArray, List.set_cons_zero, List.set_cons_succ]
        refine pickN 13 (some 28) rfl rfl (by kernel_rfl) (by kernel_rfl) (by kernel_rfl) (by decide) (fun _ _ _ h => h) (by rfl) (by assumption) ?_
        try simp only [Act.put, List.setIfInBounds_toArray, List.set_cons_zero, List.set_cons_succ]
        refine pickN 14 (some 29) rfl rfl (by kernel_rfl) (by kernel_rfl) (by kernel_rfl) (by decide) (fun _ _ _ h => h) (by rfl) (by assumption) ?_
        try simp only [Act.put, List.setIfInBounds_toArray, List.set_cons_zero, List.set_cons_succ]
        refine pickN 15 (some 30) rfl rfl (by kernel_rfl) (by kernel_rfl) (by kernel_rfl) (by decide) (fun _ _ _ h => h) (by rfl) (by assumption) ?_
        try simp only [Act.put, List.setIfInBounds_toArray, List.set_cons_zero, List.set_cons_succ]
        refine pickN 16 (some 31) rfl rfl (by kernel_rfl) (by kernel_rfl) (by kernel_rfl) (by decide) (fun _ _ _ h => h) (by rfl) (by assumption) ?_
        try simp only [Act.put, List.setIfInBounds_toArray, List.set_cons_zero, List.set_cons_succ]
        refine pickA (v := ?_) 17 (some 32) rfl rfl (by kernel_rfl) (by kernel_rfl) (by kernel_rfl) (by decide) (fun _ _ _ h => h) (by rfl) ?_ (by assumption) ?_
        rotate_left
        · intro w'
          go_simp
          try with_reducible rfl
        try simp only [Act.put, List.setIfInBounds_toArray, List.set_cons_zero, List.set_cons_succ]
        refine pickA (v := ?_) 18 (some 33) rfl rfl (by kernel_rfl) (by kernel_rfl) (by kernel_rfl) (by decide) (fun _ _ _ h => h) (by rfl) ?_ (by assumption) ?_
        rotate_left
        · intro w'
          go_simp
          try with_reducible rfl
        try simp only [Act.put, List.setIfInBounds_toArray, List.set_cons_zero, List.set_cons_succ]
        refine pickN 19 (some 34) rfl rfl (by kernel_rfl) (by kernel_rfl) (by kernel_rfl) (by decide) (fun _ _ _ h => h) (by rfl) (by assumption) ?_
        try simp only [Act.put, List.setIfInBounds_toArray, List.set_cons_zero, List.set_cons_succ]
        refine pickN 20 (some 35) rfl rfl (by kernel_rfl) (by kernel_rfl) (by kernel_rfl) (by decide) (fun _ _ _ h => h) (by rfl) (by assumption) ?_
        try simp only [Act.put, List.setIfInBounds_toArray, List.set_cons_zero, List.set_cons_succ]
        refine pickN 21 (some 36) rfl rfl (by kernel_rfl) (by kernel_rfl) (by kernel_rfl) (by decide) (fun _ _ _ h => h) (by rfl) (by assumption) ?_
        try simp only [Act.put, List.setIfInBounds_toArray, List.set_cons_zero, List.set_cons_succ]
        refine pickN 22 (some 37) rfl rfl (by kernel_rfl) (by kernel_rfl) (by kernel_rfl) (by decide) (fun _ _ _ h => h) (by rfl) (by assumption) ?_
        try simp only [Act.put, List.setIfInBounds_toArray, List.set_cons_zero, List.set_cons_succ]
        refine pickA (v := ?_) 23 (some 38) rfl rfl (by kernel_rfl) (by kernel_rfl) (by kernel_rfl) (by decide) (fun _ _ _ h => h) (by rfl) ?_ (by assumption) ?_
        rotate_left
        · intro w'
          go_simp
          try with_reducible rfl
        try simp only [Act.put, List.setIfInBounds_toArray, List.set_cons_zero, List.set_cons_succ]
        refine pickA (v := ?_) 24 (some 39) rfl rfl (by kernel_rfl) (by kernel_rfl) (by kernel_rfl) (by decide) (fun _ _ _ h => h) (by rfl) ?_ (by assumption) ?_
        rotate_left
        · intro w'
          go_simp
          try with_reducible rfl
        try simp only [Act.put, List.setIfInBounds_toArray, List.set_cons_zero, List.set_cons_succ]
        refine doneL (by kernel_rfl) ?_ _
        clear hHeld
        clear RO HAP
        go_wp2
        exact ⟨⟨j + 1, qa, qc, m, by omega, by simp, by rw [hmn.out], HT2.out.symm, by rw [← hWD, hmn.out]; have h9 := RX.out.below ((Below.refl _ _).drew); rw [← hmn.out] at h9; rw [← hmn.out]; exact h9⟩, by simp [intOf]; omega⟩
      by_cases hq4 : q = 4
      · have n1 : (z == to.id) = true := by simpa using hz.out
        have n2 : (z != to.id) = false := by simpa using hz.out
        have k1 : (a.k == 3) = false := by simpa using hk
        have k2 : (a.k != 3) = true := by simpa using hk
        have q41 : (q == 4) = true := by simpa using hq4
        have q42 : (q != 4) = false := by simpa using hq4
        clear hq4
        have HK : kpB to.id q a.k z = false := by unfold kpB; simp [n1, k1, q41]
        have HT2 : Hid ((l.take (j + 1)).filter (kpB to.id q a.k) = m) := by show _ = _; rw [HT.out, HK]; simp
        clear HT HK
        skip
        go_wp2_with fail
        refine regionL 25 (fun w' => IsB w' H (stL kd to q x y r1 r2 oa oo e l1 r3).toArray 53 ∧ IsB w' (H + 1) (anL a).toArray 57 ∧ w'.cell? ⟨g, j, none⟩ = some (.int .i64 z)) mixed ⟨SAd.out, SBd.out, hc1.out⟩ (fun hHeld => ?_)
        generalize hWD : wr.drew = WD at *
        refine pickA (v := ?_) 0 (some 15) rfl rfl (by kernel_rfl) (by kernel_rfl) (by kernel_rfl) (by decide) (fun _ _ _ h => h) (by rfl) ?_ (by assumption) ?_
        rotate_left
        · intro w'
          go_simp
          try with_reducible rfl
        try simp only [Act.put, List.setIfInBounds_toArray, List.set_cons_zero, List.set_cons_succ]
        refine pickA (v := ?_) 1 (some 16) rfl rfl (by kernel_rfl) (by kernel_rfl) (by kernel_rfl) (by decide) (fun _ _ _ h => h) (by rfl) ?_ (by assumption) ?_
        rotate_left
        · intro w'
          go_simp
          try with_reducible rfl
        try simp only [Act.put, List.setIfInBounds_toArray, List.set_cons_zero, List.set_cons_succ]
        refine pickA (v := ?_) 2 (some 17) rfl rfl (by kernel_rfl) (by kernel_rfl) (by kernel_rfl) (by decide) (fun _ _ _ h => h) (by rfl) ?_ (by assumption) ?_
        rotate_left
        · intro w'
          go_simp
          try with_reducible rfl
        try simp only [Act.put, List.setIfInBounds_toArray, List.set_cons_zero, List.set_cons_succ]
        refine pickL (v := ?_) 3 (some 18) rfl rfl (by kernel_rfl) (by kernel_rfl) (by kernel_rfl) (by decide) (by kernel_rfl) (by kernel_rfl) (fun _ _ _ h => h) (by rfl) ?_ (by assumption) ?_
        rotate_left
        · intro w' hSw
          obtain ⟨q0, q1, q2⟩ := hSw; have z1 : w'.cell? ⟨H, 1, none⟩ = some (.int .i64 to.id) := q0.cell 1; have z6 : w'.cell? ⟨H, 6, none⟩ = some (.int .i64 q) := q0.cell 6; have zk : w'.cell? ⟨H + 1, 0, none⟩ = some (.int .i64 a.k) := q1.cell 0
          go_simp
          try with_reducible rfl
        try simp only [Act.put, List.setIfInBounds_toArray, List.set_cons_zero, List.set_cons_succ]
        refine pickA (v := ?_) 4 (some 19) rfl rfl (by kernel_rfl) (by kernel_rfl) (by kernel_rfl) (by decide) (fun _ _ _ h => h) (by rfl) ?_ (by assumption) ?_
        rotate_left
        · intro w'
          go_simp
          try with_reducible rfl
        try simp only [Act.put, List.setIfInBounds_toArray, List.set_cons_zero, List.set_cons_succ]
        refine pickA (v := ?_) 5 (some 20) rfl rfl (by kernel_rfl) (by kernel_rfl) (by kernel_rfl) (by decide) (fun _ _ _ h => h) (by rfl) ?_ (by assumption) ?_
        rotate_left
        · intro w'
          go_simp
          try with_reducible rfl
        try simp only [Act.put, List.setIfInBounds_toArray, List.set_cons_zero, List.set_cons_succ]
        refine pickL (v := ?_) 6 (some 21) rfl rfl (by kernel_rfl) (by kernel_rfl) (by kernel_rfl) (by decide) (by kernel_rfl) (by kernel_rfl) (fun _ _ _ h => h) (by rfl) ?_ (by assumption) ?_
        rotate_left
        · intro w' hSw
          obtain ⟨q0, q1, q2⟩ := hSw; have z1 : w'.cell? ⟨H, 1, none⟩ = some (.int .i64 to.id) := q0.cell 1; have z6 : w'.cell? ⟨H, 6, none⟩ = some (.int .i64 q) := q0.cell 6; have zk : w'.cell? ⟨H + 1, 0, none⟩ = some (.int .i64 a.k) := q1.cell 0
          go_simp
          try with_reducible rfl
        try simp only [Act.put, List.setIfInBounds_toArray, List.set_cons_zero, List.set_cons_succ]
        refine pickA (v := ?_) 7 (some 22) rfl rfl (by kernel_rfl) (by kernel_rfl) (by kernel_rfl) (by decide) (fun _ _ _ h => h) (by rfl) ?_ (by assumption) ?_
        rotate_left
        · intro w'
          go_simp
          try with_reducible rfl
        try simp only [Act.put, List.setIfInBounds_toArray, List.set_cons_zero, List.set_cons_succ]
        refine pickA (v := ?_) 8 (some 23) rfl rfl (by kernel_rfl) (by kernel_rfl) (by kernel_rfl) (by decide) (fun _ _ _ h => h) (by rfl) ?_ (by assumption) ?_
        rotate_left
        · intro w'
          go_simp
          try with_reducible rfl
        try simp only [Act.put, List.setIfInBounds_toArray, List.set_cons_zero, List.set_cons_succ]
        refine pickA (v := ?_) 9 (some 24) rfl rfl (by kernel_rfl) (by kernel_rfl) (by kernel_rfl) (by decide) (fun _ _ _ h => h) (by rfl) ?_ (by assumption) ?_
        rotate_left
        · intro w'
          go_simp
          try with_reducible rfl
        try simp only [Act.put, List.setIfInBounds_toArray, List.set_cons_zero, List.set_cons_succ]
        refine pickL (v := ?_) 10 (some 25) rfl rfl (by kernel_rfl) (by kernel_rfl) (by kernel_rfl) (by decide) (by kernel_rfl) (by kernel_rfl) (fun _ _ _ h => h) (by rfl) ?_ (by assumption) ?_
        rotate_left
        · intro w' hSw
          obtain ⟨q0, q1, q2⟩ := hSw; have z1 : w'.cell? ⟨H, 1, none⟩ = some (.int .i64 to.id) := q0.cell 1; have z6 : w'.cell? ⟨H, 6, none⟩ = some (.int .i64 q) := q0.cell 6; have zk : w'.cell? ⟨H + 1, 0, none⟩ = some (.int .i64 a.k) := q1.cell 0
          go_simp
          try with_reducible rfl
        try simp only [Act.put, List.setIfInBounds_toArray, List.set_cons_zero, List.set_cons_succ]
        refine pickA (v := ?_) 11 (some 26) rfl rfl (by kernel_rfl) (by kernel_rfl) (by kernel_rfl) (by decide) (fun _ _ _ h => h) (by rfl) ?_ (by assumption) ?_
        rotate_left
        · intro w'
          go_simp
          try with_reducible rfl
        try simp only [Act.put, List.setIfInBounds_toArray, List.set_cons_zero, List.set_cons_succ]
        refine pickA (v := ?_) 12 (some 27) rfl rfl (by kernel_rfl) (by kernel_rfl) (by kernel_rfl) (by decide) (fun _ _ _ h => h) (by rfl) ?_ (by assumption) ?_
        rotate_left
        · intro w'
          go_simp
          try with_reducible rfl
        try simp only [Act.put, List.setIfInBounds_toArray, List.set_cons_zero, List.set_cons_succ]
        refine pickA (v := ?_) 13 (some 28) rfl rfl (by kernel_rfl) (by kernel_rfl) (by kernel_rfl) (by decide) (fun _ _ _ h => h) (by rfl) ?_ (by assumption) ?_
        rotate_left
        · intro w'
          go_simp
          try with_reducible rfl
        try simp only [Act.put, List.setIfInBounds_toArray, List.set_cons_zero, List.set_cons_succ]
        refine pickA (v := ?_) 14 (some 29) rfl rfl (by kernel_rfl) (by kernel_rfl) (by kernel_rfl) (by decide) (fun _ _ _ h => h) (by rfl) ?_ (by assumption) ?_
        rotate_left
        · intro w'
          go_simp
          try with_reducible rfl
        try simp only [Act.put, List.setIfInBounds_toArray, List.set_cons_zero, List.set_cons_succ]
        refine pickL (v := ?_) 15 (some 30) rfl rfl (by kernel_rfl) (by kernel_rfl) (by kernel_rfl) (by decide) (by kernel_rfl) (by kernel_rfl) (fun _ _ _ h => h) (by rfl) ?_ (by assumption) ?_
        rotate_left
        · intro w' hSw
          obtain ⟨q0, q1, q2⟩ := hSw; have z1 : w'.cell? ⟨H, 1, none⟩ = some (.int .i64 to.id) := q0.cell 1; have z6 : w'.cell? ⟨H, 6, none⟩ = some (.int .i64 q) := q0.cell 6; have zk : w'.cell? ⟨H + 1, 0, none⟩ = some (.int .i64 a.k) := q1.cell 0
          go_simp
          try with_reducible rfl
        try simp only [Act.put, List.setIfInBounds_toArray, List.set_cons_zero, List.set_cons_succ]
        refine pickA (v := ?_) 16 (some 31) rfl rfl (by kernel_rfl) (by kernel_rfl) (by kernel_rfl) (by decide) (fun _ _ _ h => h) (by rfl) ?_ (by assumption) ?_
        rotate_left
        · intro w'
          go_simp
          try with_reducible rfl
        try simp only [Act.put, List.setIfInBounds_toArray, List.set_cons_zero, List.set_cons_succ]
        refine pickA (v := ?_) 17 (some 32) rfl rfl (by kernel_rfl) (by kernel_rfl) (by kernel_rfl) (by decide) (fun _ _ _ h => h) (by rfl) ?_ (by assumption) ?_
        rotate_left
        · intro w'
          go_simp
          try with_reducible rfl
        try simp only [Act.put, List.setIfInBounds_toArray, List.set_cons_zero, List.set_cons_succ]
        refine pickA (v := ?_) 18 (some 33) rfl rfl (by kernel_rfl) (by kernel_rfl) (by kernel_rfl) (by decide) (fun _ _ _ h => h) (by rfl) ?_ (by assumption) ?_
        rotate_left
        · intro w'
          go_simp
          try with_reducible rfl
        try simp only [Act.put, List.setIfInBounds_toArray, List.set_cons_zero, List.set_cons_succ]
        refine pickN 19 (some 34) rfl rfl (by kernel_rfl) (by kernel_rfl) (by kernel_rfl) (by decide) (fun _ _ _ h => h) (by rfl) (by assumption) ?_
        try simp only [Act.put, List.setIfInBounds_toArray, List.set_cons_zero, List.set_cons_succ]
        refine pickN 20 (some 35) rfl rfl (by kernel_rfl) (by kernel_rfl) (by kernel_rfl) (by decide) (fun _ _ _ h => h) (by rfl) (by assumption) ?_
        try simp only [Act.put, List.setIfInBounds_toArray, List.set_cons_zero, List.set_cons_succ]
        refine pickN 21 (some 36) rfl rfl (by kernel_rfl) (by kernel_rfl) (by kernel_rfl) (by decide) (fun _ _ _ h => h) (by rfl) (by assumption) ?_
        try simp only [Act.put, List.setIfInBounds_toArray, List.set_cons_zero, List.set_cons_succ]
        refine pickN 22 (some 37) rfl rfl (by kernel_rfl) (by kernel_rfl) (by kernel_rfl) (by decide) (fun _ _ _ h => h) (by rfl) (by assumption) ?_
        try simp only [Act.put, List.setIfInBounds_toArray, List.set_cons_zero, List.set_cons_succ]
        refine pickA (v := ?_) 23 (some 38) rfl rfl (by kernel_rfl) (by kernel_rfl) (by kernel_rfl) (by decide) (fun _ _ _ h => h) (by rfl) ?_ (by assumption) ?_
        rotate_left
        · intro w'
          go_simp
          try with_reducible rfl
        try simp only [Act.put, List.setIfInBounds_toArray, List.set_cons_zero, List.set_cons_succ]
        refine pickA (v := ?_) 24 (some 39) rfl rfl (by kernel_rfl) (by kernel_rfl) (by kernel_rfl) (by decide) (fun _ _ _ h => h) (by rfl) ?_ (by assumption) ?_
        rotate_left
        · intro w'
          go_simp
          try with_reducible rfl
        try simp only [Act.put, List.setIfInBounds_toArray, List.set_cons_zero, List.set_cons_succ]
        refine doneL (by kernel_rfl) ?_ _
        clear hHeld
        clear RO HAP
        go_wp2
        exact ⟨⟨j + 1, qa, qc, m, by omega, by simp, by rw [hmn.out], HT2.out.symm, by rw [← hWD, hmn.out]; have h9 := RX.out.below ((Below.refl _ _).drew); rw [← hmn.out] at h9; rw [← hmn.out]; exact h9⟩, by simp [intOf]; omega⟩
      have q41 : (q == 4) = false := by simpa using hq4
      have q42 : (q != 4) = true := by simpa using hq4
      by_cases hq8 : q = 8
      · have n1 : (z == to.id) = true := by simpa using hz.out
        have n2 : (z != to.id) = false := by simpa using hz.out
        have k1 : (a.k == 3) = false := by simpa using hk
        have k2 : (a.k != 3) = true := by simpa using hk
        have q81 : (q == 8) = true := by simpa using hq8
        have q82 : (q != 8) = false := by simpa using hq8
        clear hq8
        have HK : kpB to.id q a.k z = false := by unfold kpB; simp [n1, k1, q41, q81]
        have HT2 : Hid ((l.take (j + 1)).filter (kpB to.id q a.k) = m) := by show _ = _; rw [HT.out, HK]; simp
        clear HT HK
        skip
        go_wp2_with fail
        refine regionL 25 (fun w' => IsB w' H (stL kd to q x y r1 r2 oa oo e l1 r3).toArray 53 ∧ IsB w' (H + 1) (anL a).toArray 57 ∧ w'.cell? ⟨g, j, none⟩ = some (.int .i64 z)) mixed ⟨SAd.out, SBd.out, hc1.out⟩ (fun hHeld => ?_)
        generalize hWD : wr.drew = WD at *
        refine pickA (v := ?_) 0 (some 15) rfl rfl (by kernel_rfl) (by kernel_rfl) (by kernel_rfl) (by decide) (fun _ _ _ h => h) (by rfl) ?_ (by assumption) ?_
        rotate_left
        · intro w'
          go_simp
          try with_reducible rfl
        try simp only [Act.put, List.setIfInBounds_toArray, List.set_cons_zero, List.set_cons_succ]
        refine pickA (v := ?_) 1 (some 16) rfl rfl (by kernel_rfl) (by kernel_rfl) (by kernel_rfl) (by decide) (fun _ _ _ h => h) (by rfl) ?_ (by assumption) ?_
        rotate_left
        · intro w'
          go_simp
          try with_reducible rfl
        try simp only [Act.put, List.setIfInBounds_toArray, List.set_cons_zero, List.set_cons_succ]
        refine pickA (v := ?_) 2 (some 17) rfl rfl (by kernel_rfl) (by kernel_rfl) (by kernel_rfl) (by decide) (fun _ _ _ h => h) (by rfl) ?_ (by assumption) ?_
        rotate_left
        · intro w'
          go_simp
          try with_reducible rfl
        try simp only [Act.put, List.setIfInBounds_toArray, List.set_cons_zero, List.set_cons_succ]
        refine pickL (v := ?_) 3 (some 18) rfl rfl (by kernel_rfl) (by kernel_rfl) (by kernel_rfl) (by decide) (by kernel_rfl) (by kernel_rfl) (fun _ _ _ h => h) (by rfl) ?_ (by assumption) ?_
        rotate_left
        · intro w' hSw
          obtain ⟨q0, q1, q2⟩ := hSw; have z1 : w'.cell? ⟨H, 1, none⟩ = some (.int .i64 to.id) := q0.cell 1; have z6 : w'.cell? ⟨H, 6, none⟩ = some (.int .i64 q) := q0.cell 6; have zk : w'.cell? ⟨H + 1, 0, none⟩ = some (.int .i64 a.k) := q1.cell 0
          go_simp
          try with_reducible rfl
        try simp only [Act.put, List.setIfInBounds_toArray, List.set_cons_zero, List.set_cons_succ]
        refine pickA (v := ?_) 4 (some 19) rfl rfl (by kernel_rfl) (by kernel_rfl) (by kernel_rfl) (by decide) (fun _ _ _ h => h) (by rfl) ?_ (by assumption) ?_
        rotate_left
        · intro w'
          go_simp
          try with_reducible rfl
        try simp only [Act.put, List.setIfInBounds_toArray, List.set_cons_zero, List.set_cons_succ]
        refine pickA (v := ?_) 5 (some 20) rfl rfl (by kernel_rfl) (by kernel_rfl) (by kernel_rfl) (by decide) (fun _ _ _ h => h) (by rfl) ?_ (by assumption) ?_
        rotate_left
        · intro w'
          go_simp
          try with_reducible rfl
        try simp only [Act.put, List.setIfInBounds_toArray, List.set_cons_zero, List.set_cons_succ]
        refine pickL (v := ?_) 6 (some 21) rfl rfl (by kernel_rfl) (by kernel_rfl) (by kernel_rfl) (by decide) (by kernel_rfl) (by kernel_rfl) (fun _ _ _ h => h) (by rfl) ?_ (by assumption) ?_
        rotate_left
        · intro w' hSw
          obtain ⟨q0, q1, q2⟩ := hSw; have z1 : w'.cell? ⟨H, 1, none⟩ = some (.int .i64 to.id) := q0.cell 1; have z6 : w'.cell? ⟨H, 6, none⟩ = some (.int .i64 q) := q0.cell 6; have zk : w'.cell? ⟨H + 1, 0, none⟩ = some (.int .i64 a.k) := q1.cell 0
          go_simp
          try with_reducible rfl
        try simp only [Act.put, List.setIfInBounds_toArray, List.set_cons_zero, List.set_cons_succ]
        refine pickA (v := ?_) 7 (some 22) rfl rfl (by kernel_rfl) (by kernel_rfl) (by kernel_rfl) (by decide) (fun _ _ _ h => h) (by rfl) ?_ (by assumption) ?_
        rotate_left
        · intro w'
          go_simp
          try with_reducible rfl
        try simp only [Act.put, List.setIfInBounds_toArray, List.set_cons_zero, List.set_cons_succ]
        refine pickA (v := ?_) 8 (some 23) rfl rfl (by kernel_rfl) (by kernel_rfl) (by kernel_rfl) (by decide) (fun _ _ _ h => h) (by rfl) ?_ (by assumption) ?_
        rotate_left
        · intro w'
          go_simp
          try with_reducible rfl
        try simp only [Act.put, List.setIfInBounds_toArray, List.set_cons_zero, List.set_cons_succ]
        refine pickA (v := ?_) 9 (some 24) rfl rfl (by kernel_rfl) (by kernel_rfl) (by kernel_rfl) (by decide) (fun _ _ _ h => h) (by rfl) ?_ (by assumption) ?_
        rotate_left
        · intro w'
          go_simp
          try with_reducible rfl
        try simp only [Act.put, List.setIfInBounds_toArray, List.set_cons_zero, List.set_cons_succ]
        refine pickL (v := ?_) 10 (some 25) rfl rfl (by kernel_rfl) (by kernel_rfl) (by kernel_rfl) (by decide) (by kernel_rfl) (by kernel_rfl) (fun _ _ _ h => h) (by rfl) ?_ (by assumption) ?_
        rotate_left
        · intro w' hSw
          obtain ⟨q0, q1, q2⟩ := hSw; have z1 : w'.cell? ⟨H, 1, none⟩ = some (.int .i64 to.id) := q0.cell 1; have z6 : w'.cell? ⟨H, 6, none⟩ = some (.int .i64 q) := q0.cell 6; have zk : w'.cell? ⟨H + 1, 0, none⟩ = some (.int .i64 a.k) := q1.cell 0
          go_simp
          try with_reducible rfl
        try simp only [Act.put, List.setIfInBounds_toArray, List.set_cons_zero, List.set_cons_succ]
        refine pickA (v := ?_) 11 (some 26) rfl rfl (by kernel_rfl) (by kernel_rfl) (by kernel_rfl) (by decide) (fun _ _ _ h => h) (by rfl) ?_ (by assumption) ?_
        rotate_left
        · intro w'
          go_simp
          try with_reducible rfl
        try simp only [Act.put, List.setIfInBounds_toArray, List.set_cons_zero, List.set_cons_succ]
        refine pickA (v := ?_) 12 (some 27) rfl rfl (by kernel_rfl) (by kernel_rfl) (by kernel_rfl) (by decide) (fun _ _ _ h => h) (by rfl) ?_ (by assumption) ?_
        rotate_left
        · intro w'
          go_simp
          try with_reducible rfl
        try simp only [Act.put, List.setIfInBounds_toArray, List.set_cons_zero, List.set_cons_succ]
        refine pickA (v := ?_) 13 (some 28) rfl rfl (by kernel_rfl) (by kernel_rfl) (by kernel_rfl) (by decide) (fun _ _ _ h => h) (by rfl) ?_ (by assumption) ?_
        rotate_left
        · intro w'
          go_simp
          try with_reducible rfl
        try simp only [Act.put, List.setIfInBounds_toArray, List.set_cons_zero, List.set_cons_succ]
        refine pickA (v := ?_) 14 (some 29) rfl rfl (by kernel_rfl) (by kernel_rfl) (by kernel_rfl) (by decide) (fun _ _ _ h => h) (by rfl) ?_ (by assumption) ?_
        rotate_left
        · intro w'
          go_simp
          try with_reducible rfl
        try simp only [Act.put, List.setIfInBounds_toArray, List.set_cons_zero, List.set_cons_succ]
        refine pickL (v := ?_) 15 (some 30) rfl rfl (by kernel_rfl) (by kernel_rfl) (by kernel_rfl) (by decide) (by kernel_rfl) (by kernel_rfl) (fun _ _ _ h => h) (by rfl) ?_ (by assumption) ?_
        rotate_left
        · intro w' hSw
          obtain ⟨q0, q1, q2⟩ := hSw; have z1 : w'.cell? ⟨H, 1, none⟩ = some (.int .i64 to.id) := q0.cell 1; have z6 : w'.cell? ⟨H, 6, none⟩ = some (.int .i64 q) := q0.cell 6; have zk : w'.cell? ⟨H + 1, 0, none⟩ = some (.int .i64 a.k) := q1.cell 0
          go_simp
          try with_reducible rfl
        try simp only [Act.put, List.setIfInBounds_toArray, List.set_cons_zero, List.set_cons_succ]
        refine pickA (v := ?_) 16 (some 31) rfl rfl (by kernel_rfl) (by kernel_rfl) (by kernel_rfl) (by decide) (fun _ _ _ h => h) (by rfl) ?_ (by assumption) ?_
        rotate_left
        · intro w'
          go_simp
          try with_reducible rfl
        try simp only [Act.put, List.setIfInBounds_toArray, List.set_cons_zero, List.set_cons_succ]
        refine pickA (v := ?_) 17 (some 32) rfl rfl (by kernel_rfl) (by kernel_rfl) (by kernel_rfl) (by decide) (fun _ _ _ h => h) (by rfl) ?_ (by assumption) ?_
        rotate_left
        · intro w'
          go_simp
          try with_reducible rfl
        try simp only [Act.put, List.setIfInBounds_toArray, List.set_cons_zero, List.set_cons_succ]
        refine pickA (v := ?_) 18 (some 33) rfl rfl (by kernel_rfl) (by kernel_rfl) (by kernel_rfl) (by decide) (fun _ _ _ h => h) (by rfl) ?_ (by assumption) ?_
        rotate_left
        · intro w'
          go_simp
          try with_reducible rfl
        try simp only [Act.put, List.setIfInBounds_toArray, List.set_cons_zero, List.set_cons_succ]
        refine pickA (v := ?_) 19 (some 34) rfl rfl (by kernel_rfl) (by kernel_rfl) (by kernel_rfl) (by decide) (fun _ _ _ h => h) (by rfl) ?_ (by assumption) ?_
        rotate_left
        · intro w'
          go_simp
          try with_reducible rfl
        try simp only [Act.put, List.setIfInBounds_toArray, List.set_cons_zero, List.set_cons_succ]
        refine pickA (v := ?_) 20 (some 35) rfl rfl (by kernel_rfl) (by kernel_rfl) (by kernel_rfl) (by decide) (fun _ _ _ h => h) (by rfl) ?_ (by assumption) ?_
        rotate_left
        · intro w'
          go_simp
          try with_reducible rfl
        try simp only [Act.put, List.setIfInBounds_toArray, List.set_cons_zero, List.set_cons_succ]
        refine pickL (v := ?_) 21 (some 36) rfl rfl (by kernel_rfl) (by kernel_rfl) (by kernel_rfl) (by decide) (by kernel_rfl) (by kernel_rfl) (fun _ _ _ h => h) (by rfl) ?_ (by assumption) ?_
        rotate_left
        · intro w' hSw
          obtain ⟨q0, q1, q2⟩ := hSw; have z1 : w'.cell? ⟨H, 1, none⟩ = some (.int .i64 to.id) := q0.cell 1; have z6 : w'.cell? ⟨H, 6, none⟩ = some (.int .i64 q) := q0.cell 6; have zk : w'.cell? ⟨H + 1, 0, none⟩ = some (.int .i64 a.k) := q1.cell 0
          go_simp
          try with_reducible rfl
        try simp only [Act.put, List.setIfInBounds_toArray, List.set_cons_zero, List.set_cons_succ]
        refine pickA (v := ?_) 22 (some 37) rfl rfl (by kernel_rfl) (by kernel_rfl) (by kernel_rfl) (by decide) (fun _ _ _ h => h) (by rfl) ?_ (by assumption) ?_
        rotate_left
        · intro w'
          go_simp
          try with_reducible rfl
        try simp only [Act.put, List.setIfInBounds_toArray, List.set_cons_zero, List.set_cons_succ]
        refine pickA (v := ?_) 23 (some 38) rfl rfl (by kernel_rfl) (by kernel_rfl) (by kernel_rfl) (by decide) (fun _ _ _ h => h) (by rfl) ?_ (by assumption) ?_
        rotate_left
        · intro w'
          go_simp
          try with_reducible rfl
        try simp only [Act.put, List.setIfInBounds_toArray, List.set_cons_zero, List.set_cons_succ]
        refine pickA (v := ?_) 24 (some 39) rfl rfl (by kernel_rfl) (by kernel_rfl) (by kernel_rfl) (by decide) (fun _ _ _ h => h) (by rfl) ?_ (by assumption) ?_
        rotate_left
        · intro w'
          go_simp
          try with_reducible rfl
        try simp only [Act.put, List.setIfInBounds_toArray, List.set_cons_zero, List.set_cons_succ]
        refine doneL (by kernel_rfl) ?_ _
        clear hHeld
        clear RO HAP
        go_wp2
        exact ⟨⟨j + 1, qa, qc, m, by omega, by simp, by rw [hmn.out], HT2.out.symm, by rw [← hWD, hmn.out]; have h9 := RX.out.below ((Below.refl _ _).drew); rw [← hmn.out] at h9; rw [← hmn.out]; exact h9⟩, by simp [intOf]; omega⟩
      have q81 : (q == 8) = false := by simpa using hq8
      have q82 : (q != 8) = true := by simpa using hq8
      have n1 : (z == to.id) = true := by simpa using hz.out
      have n2 : (z != to.id) = false := by simpa using hz.out
      have k1 : (a.k == 3) = false := by simpa using hk
      have k2 : (a.k != 3) = true := by simpa using hk
      have HK : kpB to.id q a.k z = true := by unfold kpB; simp [n1, k1, q41, q81]
      have HT2 : Hid ((l.take (j + 1)).filter (kpB to.id q a.k) = m ++ [z]) := by show _ = _; rw [HT.out, HK]; simp
      clear HT HK
      skip
      go_wp2_with fail
      refine regionL 25 (fun w' => IsB w' H (stL kd to q x y r1 r2 oa oo e l1 r3).toArray 53 ∧ IsB w' (H + 1) (anL a).toArray 57 ∧ w'.cell? ⟨g, j, none⟩ = some (.int .i64 z)) mixed ⟨SAd.out, SBd.out, hc1.out⟩ (fun hHeld => ?_)
      generalize hWD : wr.drew = WD at *
      refine pickA (v := ?_) 0 (some 15) rfl rfl (by kernel_rfl) (by kernel_rfl) (by kernel_rfl) (by decide) (fun _ _ _ h => h) (by rfl) ?_ (by assumption) ?_
      rotate_left
      · intro w'
        go_simp
        try with_reducible rfl
      try simp only [Act.put, List.setIfInBounds_toArray, List.set_cons_zero, List.set_cons_succ]
      refine pickA (v := ?_) 1 (some 16) rfl rfl (by kernel_rfl) (by kernel_rfl) (by kernel_rfl) (by decide) (fun _ _ _ h => h) (by rfl) ?_ (by assumption) ?_
      rotate_left
      · intro w'
        go_simp
        try with_reducible rfl
      try simp only [Act.put, List.setIfInBounds_toArray, List.set_cons_zero, List.set_cons_succ]
      refine pickA (v := ?_) 2 (some 17) rfl rfl (by kernel_rfl) (by kernel_rfl) (by kernel_rfl) (by decide) (fun _ _ _ h => h) (by rfl) ?_ (by assumption) ?_
      rotate_left
      · intro w'
        go_simp
        try with_reducible rfl
      try simp only [Act.put, List.setIfInBounds_toArray, List.set_cons_zero, List.set_cons_succ]
      refine pickL (v := ?_) 3 (some 18) rfl rfl (by kernel_rfl) (by kernel_rfl) (by kernel_rfl) (by decide) (by kernel_rfl) (by kernel_rfl) (fun _ _ _ h => h) (by rfl) ?_ (by assumption) ?_
      rotate_left
      · intro w' hSw
        obtain ⟨q0, q1, q2⟩ := hSw; have z1 : w'.cell? ⟨H, 1, none⟩ = some (.int .i64 to.id) := q0.cell 1; have z6 : w'.cell? ⟨H, 6, none⟩ = some (.int .i64 q) := q0.cell 6; have zk : w'.cell? ⟨H + 1, 0, none⟩ = some (.int .i64 a.k) := q1.cell 0
        go_simp
        try with_reducible rfl
      try simp only [Act.put, List.setIfInBounds_toArray, List.set_cons_zero, List.set_cons_succ]
      refine pickA (v := ?_) 4 (some 19) rfl rfl (by kernel_rfl) (by kernel_rfl) (by kernel_rfl) (by decide) (fun _ _ _ h => h) (by rfl) ?_ (by assumption) ?_
      rotate_left
      · intro w'
        go_simp
        try with_reducible rfl
      try simp only [Act.put, List.setIfInBounds_toArray, List.set_cons_zero, List.set_cons_succ]
      refine pickA (v := ?_) 5 (some 20) rfl rfl (by kernel_rfl) (by kernel_rfl) (by kernel_rfl) (by decide) (fun _ _ _ h => h) (by rfl) ?_ (by assumption) ?_
      rotate_left
      · intro w'
        go_simp
        try with_reducible rfl
      try simp only [Act.put, List.setIfInBounds_toArray, List.set_cons_zero, List.set_cons_succ]
      refine pickL (v := ?_) 6 (some 21) rfl rfl (by kernel_rfl) (by kernel_rfl) (by kernel_rfl) (by decide) (by kernel_rfl) (by kernel_rfl) (fun _ _ _ h => h) (by rfl) ?_ (by assumption) ?_
      rotate_left
      · intro w' hSw
        obtain ⟨q0, q1, q2⟩ := hSw; have z1 : w'.cell? ⟨H, 1, none⟩ = some (.int .i64 to.id) := q0.cell 1; have z6 : w'.cell? ⟨H, 6, none⟩ = some (.int .i64 q) := q0.cell 6; have zk : w'.cell? ⟨H + 1, 0, none⟩ = some (.int .i64 a.k) := q1.cell 0
        go_simp
        try with_reducible rfl
      try simp only [Act.put, List.setIfInBounds_toArray, List.set_cons_zero, List.set_cons_succ]
      refine pickA (v := ?_) 7 (some 22) rfl rfl (by kernel_rfl) (by kernel_rfl) (by kernel_rfl) (by decide) (fun _ _ _ h => h) (by rfl) ?_ (by assumption) ?_
      rotate_left
      · intro w'
        go_simp
        try with_reducible rfl
      try simp only [Act.put, List.setIfInBounds_toArray, List.set_cons_zero, List.set_cons_succ]
      refine pickA (v := ?_) 8 (some 23) rfl rfl (by kernel_rfl) (by kernel_rfl) (by kernel_rfl) (by decide) (fun _ _ _ h => h) (by rfl) ?_ (by assumption) ?_
      rotate_left
      · intro w'
        go_simp
        try with_reducible rfl
      try simp only [Act.put, List.setIfInBounds_toArray, List.set_cons_zero, List.set_cons_succ]
      refine pickA (v := ?_) 9 (some 24) rfl rfl (by kernel_rfl) (by kernel_rfl) (by kernel_rfl) (by decide) (fun _ _ _ h => h) (by rfl) ?_ (by assumption) ?_
      rotate_left
      · intro w'
        go_simp
        try with_reducible rfl
      try simp only [Act.put, List.setIfInBounds_toArray, List.set_cons_zero, List.set_cons_succ]
      refine pickL (v := ?_) 10 (some 25) rfl rfl (by kernel_rfl) (by kernel_rfl) (by kernel_rfl) (by decide) (by kernel_rfl) (by kernel_rfl) (fun _ _ _ h => h) (by rfl) ?_ (by assumption) ?_
      rotate_left
      · intro w' hSw
        obtain ⟨q0, q1, q2⟩ := hSw; have z1 : w'.cell? ⟨H, 1, none⟩ = some (.int .i64 to.id) := q0.cell 1; have z6 : w'.cell? ⟨H, 6, none⟩ = some (.int .i64 q) := q0.cell 6; have zk : w'.cell? ⟨H + 1, 0, none⟩ = some (.int .i64 a.k) := q1.cell 0
        go_simp
        try with_reducible rfl
      try simp only [Act.put, List.setIfInBounds_toArray, List.set_cons_zero, List.set_cons_succ]
      refine pickA (v := ?_) 11 (some 26) rfl rfl (by kernel_rfl) (by kernel_rfl) (by kernel_rfl) (by decide) (fun _ _ _ h => h) (by rfl) ?_ (by assumption) ?_
      rotate_left
      · intro w'
        go_simp
        try with_reducible rfl
      try simp only [Act.put, List.setIfInBounds_toArray, List.set_cons_zero, List.set_cons_succ]
      refine pickA (v := ?_) 12 (some 27) rfl rfl (by kernel_rfl) (by kernel_rfl) (by kernel_rfl) (by decide) (fun _ _ _ h => h) (by rfl) ?_ (by assumption) ?_
      rotate_left
      · intro w'
        go_simp
        try with_reducible rfl
      try simp only [Act.put, List.setIfInBounds_toArray, List.set_cons_zero, List.set_cons_succ]
      refine pickA (v := ?_) 13 (some 28) rfl rfl (by kernel_rfl) (by kernel_rfl) (by kernel_rfl) (by decide) (fun _ _ _ h => h) (by rfl) ?_ (by assumption) ?_
      rotate_left
      · intro w'
        go_simp
        try with_reducible rfl
      try simp only [Act.put, List.setIfInBounds_toArray, List.set_cons_zero, List.set_cons_succ]
      refine pickA (v := ?_) 14 (some 29) rfl rfl (by kernel_rfl) (by kernel_rfl) (by kernel_rfl) (by decide) (fun _ _ _ h => h) (by rfl) ?_ (by assumption) ?_
      rotate_left
      · intro w'
        go_simp
        try with_reducible rfl
      try simp only [Act.put, List.setIfInBounds_toArray, List.set_cons_zero, List.set_cons_succ]
      refine pickL (v := ?_) 15 (some 30) rfl rfl (by kernel_rfl) (by kernel_rfl) (by kernel_rfl) (by decide) (by kernel_rfl) (by kernel_rfl) (fun _ _ _ h => h) (by rfl) ?_ (by assumption) ?_
      rotate_left
      · intro w' hSw
        obtain ⟨q0, q1, q2⟩ := hSw; have z1 : w'.cell? ⟨H, 1, none⟩ = some (.int .i64 to.id) := q0.cell 1; have z6 : w'.cell? ⟨H, 6, none⟩ = some (.int .i64 q) := q0.cell 6; have zk : w'.cell? ⟨H + 1, 0, none⟩ = some (.int .i64 a.k) := q1.cell 0
        go_simp
        try with_reducible rfl
      try simp only [Act.put, List.setIfInBounds_toArray, List.set_cons_zero, List.set_cons_succ]
      refine pickA (v := ?_) 16 (some 31) rfl rfl (by kernel_rfl) (by kernel_rfl) (by kernel_rfl) (by decide) (fun _ _ _ h => h) (by rfl) ?_ (by assumption) ?_
      rotate_left
      · intro w'
        go_simp
        try with_reducible rfl
      try simp only [Act.put, List.setIfInBounds_toArray, List.set_cons_zero, List.set_cons_succ]
      refine pickA (v := ?_) 17 (some 32) rfl rfl (by kernel_rfl) (by kernel_rfl) (by kernel_rfl) (by decide) (fun _ _ _ h => h) (by rfl) ?_ (by assumption) ?_
      rotate_left
      · intro w'
        go_simp
        try with_reducible rfl
      try simp only [Act.put, List.setIfInBounds_toArray, List.set_cons_zero, List.set_cons_succ]
      refine pickA (v := ?_) 18 (some 33) rfl rfl (by kernel_rfl) (by kernel_rfl) (by kernel_rfl) (by decide) (fun _ _ _ h => h) (by rfl) ?_ (by assumption) ?_
      rotate_left
      · intro w'
        go_simp
        try with_reducible rfl
      try simp only [Act.put, List.setIfInBounds_toArray, List.set_cons_zero, List.set_cons_succ]
      refine pickA (v := ?_) 19 (some 34) rfl rfl (by kernel_rfl) (by kernel_rfl) (by kernel_rfl) (by decide) (fun _ _ _ h => h) (by rfl) ?_ (by assumption) ?_
      rotate_left
      · intro w'
        go_simp
        try with_reducible rfl
      try simp only [Act.put, List.setIfInBounds_toArray, List.set_cons_zero, List.set_cons_succ]
      refine pickA (v := ?_) 20 (some 35) rfl rfl (by kernel_rfl) (by kernel_rfl) (by kernel_rfl) (by decide) (fun _ _ _ h => h) (by rfl) ?_ (by assumption) ?_
      rotate_left
      · intro w'
        go_simp
        try with_reducible rfl
      try simp only [Act.put, List.setIfInBounds_toArray, List.set_cons_zero, List.set_cons_succ]
      refine pickL (v := ?_) 21 (some 36) rfl rfl (by kernel_rfl) (by kernel_rfl) (by kernel_rfl) (by decide) (by kernel_rfl) (by kernel_rfl) (fun _ _ _ h => h) (by rfl) ?_ (by assumption) ?_
      rotate_left
      · intro w' hSw
        obtain ⟨q0, q1, q2⟩ := hSw; have z1 : w'.cell? ⟨H, 1, none⟩ = some (.int .i64 to.id) := q0.cell 1; have z6 : w'.cell? ⟨H, 6, none⟩ = some (.int .i64 q) := q0.cell 6; have zk : w'.cell? ⟨H + 1, 0, none⟩ = some (.int .i64 a.k) := q1.cell 0
        go_simp
        try with_reducible rfl
      try simp only [Act.put, List.setIfInBounds_toArray, List.set_cons_zero, List.set_cons_succ]
      refine pickA (v := ?_) 22 (some 37) rfl rfl (by kernel_rfl) (by kernel_rfl) (by kernel_rfl) (by decide) (fun _ _ _ h => h) (by rfl) ?_ (by assumption) ?_
      rotate_left
      · intro w'
        go_simp
        try with_reducible rfl
      try simp only [Act.put, List.setIfInBounds_toArray, List.set_cons_zero, List.set_cons_succ]
      refine pickA (v := ?_) 23 (some 38) rfl rfl (by kernel_rfl) (by kernel_rfl) (by kernel_rfl) (by decide) (fun _ _ _ h => h) (by rfl) ?_ (by assumption) ?_
      rotate_left
      · intro w'
        go_simp
        try with_reducible rfl
      try simp only [Act.put, List.setIfInBounds_toArray, List.set_cons_zero, List.set_cons_succ]
      refine pickA (v := ?_) 24 (some 39) rfl rfl (by kernel_rfl) (by kernel_rfl) (by kernel_rfl) (by decide) (fun _ _ _ h => h) (by rfl) ?_ (by assumption) ?_
      rotate_left
      · intro w'
        go_simp
        try with_reducible rfl
      try simp only [Act.put, List.setIfInBounds_toArray, List.set_cons_zero, List.set_cons_succ]
      refine doneL (by kernel_rfl) ?_ _
      clear hHeld
      have hc2 := hc1.out
      go_wp2_with (at_builtin; refine wpList_append_eq rfl (.tmp 40) (.tmp 45) 80 rfl _ _ (.slice ra (mn + 1) rc) wA rfl rfl HAP.out ?_)
      exact ⟨⟨j + 1, ra, rc, m ++ [z], by omega, by simp, by simp [hmn.out], HT2.out.symm, RO.out⟩, by simp [intOf]; omega⟩
    · obtain rfl : j = n := by omega
      have HM2 : Hid (m = l.filter (kpB to.id q a.k)) := by show _ = _; rw [HM.out, ← hn.out, List.take_length]
      have BB := hide (RX.out.back B.out)
      have hml : m.length ≤ 100000 := by
        have := List.length_filter_le (kpB to.id q a.k) l
        rw [← HM2.out] at this
        have := hn.out
        omega
      have y1 : wr.cell? ⟨H, 1, none⟩ = some (.int .i64 to.id) := SA1.out.cell 1
      have y6 : wr.cell? ⟨H, 6, none⟩ = some (.int .i64 q) := SA1.out.cell 6
      have yk : wr.cell? ⟨H + 1, 0, none⟩ = some (.int .i64 a.k) := SB1.out.cell 0
      obtain ⟨ra, rc, wA, hap, hIo⟩ := BB.out.push to.id hml 80
      have RO := hide hIo
      have HAP := hide hap
      clear hap hIo SA1 SB1 HM RX
      generalize hmn : m.length = mn at *
      replace hmn := hide hmn
      by_cases hk : a.k = 1
      rotate_left
      · have k1 : (a.k == 1) = false := by simpa using hk
        have HL : hld l to.id q a.k = l.filter (kpB to.id q a.k) := by unfold hld; rw [if_neg (fun h => hk h.1)]; simp
        replace HL := hide HL
        go_wp2
        go_ret
        refine ⟨_, rfl, ?_⟩
        rw [HL.out, ← HM2.out]
        have h9 := BB.out
        skip
        exact h9
      rw [hk] at yk
      by_cases h3 : q = 3
      · have q31 : (q == 3) = true := by simpa using h3
        have HL : hld l to.id q a.k = l.filter (kpB to.id q a.k) ++ [to.id] := by unfold hld; rw [if_pos (⟨hk, Or.inl h3⟩)]
        clear h3
        replace HL := hide HL
        replace hk := hide hk
        go_wp2_with (at_builtin; refine wpList_append_eq rfl (.tmp 62) (.tmp 66) 80 rfl _ _ (.slice ra (mn + 1) rc) wA rfl rfl HAP.out ?_)
        go_ret
        refine ⟨_, rfl, ?_⟩
        rw [HL.out, ← HM2.out]
        have h9 := RO.out
        rw [List.length_append, hmn.out] at h9
        exact h9
      have q31 : (q == 3) = false := by simpa using h3
      by_cases h7 : q = 7
      · have q71 : (q == 7) = true := by simpa using h7
        have HL : hld l to.id q a.k = l.filter (kpB to.id q a.k) ++ [to.id] := by unfold hld; rw [if_pos (⟨hk, Or.inr h7⟩)]
        clear h7
        replace HL := hide HL
        replace hk := hide hk
        go_wp2_with (at_builtin; refine wpList_append_eq rfl (.tmp 62) (.tmp 66) 80 rfl _ _ (.slice ra (mn + 1) rc) wA rfl rfl HAP.out ?_)
        go_ret
        refine ⟨_, rfl, ?_⟩
        rw [HL.out, ← HM2.out]
        have h9 := RO.out
        rw [List.length_append, hmn.out] at h9
        exact h9
      have q71 : (q == 7) = false := by simpa using h7
      have HL : hld l to.id q a.k = l.filter (kpB to.id q a.k) := by unfold hld; rw [if_neg (fun h => h.2.elim h3 h7)]; simp
      replace HL := hide HL
      replace hk := hide hk
      go_wp2
      go_ret
      refine ⟨_, rfl, ?_⟩
      rw [HL.out, ← HM2.out]
      have h9 := BB.out
      skip
      exact h9

end Go.Proofs.YtofmommoeligoaaDoor
