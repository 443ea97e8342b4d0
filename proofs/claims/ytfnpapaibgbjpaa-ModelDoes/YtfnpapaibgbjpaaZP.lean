/- Package model: Run. -/
import Derived.Test.YtfnpapaibgbjpaaZO
import Derived.Test.YtfnpapaibgbjpaaZB
namespace Go.Proofs.Ytfnpapaibgbjpaa
open Go.RowKit Go.Maps

open Classical in
/-- What Run makes of items and calls. -/
noncomputable def runE (l : List It) (cs : List Ca) : List Kv × List RV × Int := if okM l then runs cs l else ([], [], 103)
theorem runE_yes {l : List It} (h : okM l) (cs : List Ca) : runE l cs = runs cs l := if_pos h
theorem runE_no {l : List It} (h : ¬okM l) (cs : List Ca) : runE l cs = ([], [], 103) := if_neg h
theorem wrote_len (c : Ca) (l : List It) : (c.wrote l).length ≤ l.length + 1 := by
  unfold Ca.wrote wv
  have := pl_le c.key l
  split
  · simp; omega
  · split
    · simp; omega
    · simp
theorem call_info : (Try.prog.info? 27).map (·.size) = some 4 := by kernel_rfl
theorem load_call {w : World} {b : Nat} {cs : Array Value} (I : IsB w b cs 27) (hs : cs.size = 4) : (Instr.loadAt 27 (.pointer (some ⟨b, 0, none⟩))).run Try.prog w = .ok (.agg cs) w := by
  have h := run_loadVar_row (P := Try.prog) w b 27 27 cs (0, 0) _ I Try.underlying27 rfl (by rw [hs]; exact call_info)
  simp only [Instr.loadAt, Instr.sureAddr, Sem.run_bind, Sem.run_pure, Result.andThen_ok, h]
/-- What the loop holds. -/
structure RI (w wr : World) (l : List It) (cs : List Ca) (j : Nat) (va : Option Addr) (vc : Nat) (m : List It) (ra : Option Addr) (rc : Nat) (rs : List Rs) : Prop where
  row : Ow wr (.slice va m.length vc) m
  new : ∀ k, (Value.slice va m.length vc).ownBlock = some k → w.heap.size ≤ k
  res : RRow wr w.heap.size (.slice ra rs.length rc) rs
  rnew : ∀ k, (Value.slice ra rs.length rc).ownBlock = some k → w.heap.size ≤ k
  off : ∀ r ∈ rs, ∀ k, (Value.slice r.ia r.il.length r.ic).ownBlock = some k → (Value.slice va m.length vc).ownBlock ≠ some k
  kp : Kp [] w wr
  ok : okM m
  len : m.length ≤ l.length + j
  rlen : rs.length = j
  is : runs cs l = ((runs (cs.drop j) m).1, rs.map Rs.val ++ (runs (cs.drop j) m).2.1, (runs (cs.drop j) m).2.2)
theorem RI.bel {w wr : World} {l : List It} {cs : List Ca} {j : Nat} {va : Option Addr} {vc : Nat} {m : List It} {ra : Option Addr} {rc : Nat} {rs : List Rs} (h : RI w wr l cs j va vc m ra rc rs) : Below w.heap.size w wr := h.kp.to_below (Nat.le_refl _) (by simp)
theorem RI.below {w wr w' : World} {l : List It} {cs : List Ca} {j : Nat} {va : Option Addr} {vc : Nat} {m : List It} {ra : Option Addr} {rc : Nat} {rs : List Rs} (h : RI w wr l cs j va vc m ra rc rs) (hb : Below wr.heap.size wr w') : RI w w' l cs j va vc m ra rc rs :=
  ⟨h.row.below hb, h.new, h.res.below hb, h.rnew, h.off, h.kp.bel hb, h.ok, h.len, h.rlen, h.is⟩
/-- One call more: the map that it wrote, then the result behind the others. -/
theorem RI.next {w wr w7 : World} {l : List It} {cs : List Ca} {j : Nat} {va : Option Addr} {vc : Nat} {m : List It} {ra : Option Addr} {rc : Nat} {rs : List Rs} (h : RI w wr l cs j va vc m ra rc rs) (hj : j < cs.length) (hc : cs[j].ok = true) (r : Rs) (hr : r.val = cs[j].told m) (hro : RsOk wr w.heap.size r)
    (hrn : ∀ k, (Value.slice r.ia r.il.length r.ic).ownBlock = some k → (Value.slice va m.length vc).ownBlock ≠ some k)
    (va' : Option Addr) (vc' : Nat) (m' : List It) (hO : Ow w7 (.slice va' m'.length vc') m') (hm : m'.map It.val = cs[j].wrote m) (hat : (Value.slice va' m'.length vc').ownBlock = (Value.slice va m.length vc).ownBlock ∨ ∃ q, (Value.slice va' m'.length vc').ownBlock = some q ∧ wr.heap.size ≤ q) (hk : Kp (Value.slice va m.length vc).ownBlock.toList wr w7)
    (g : Nat) (W8 : World) (hb8 : Below w7.heap.size w7 W8) (hg : IsB W8 g r.cells 46) (hsm : rs.length ≤ 100000) (ty : TypeId) :
    ∃ ra' rc' w9, (Builtin.append_ #[53, 53] ty #[.slice ra rs.length rc, .slice (some ⟨g, 0, none⟩) 1 1]).run Try.prog W8 = .ok (.slice ra' (rs.length + 1) rc') w9 ∧ RI w w9 l cs (j + 1) va' vc' m' ra' rc' (rs ++ [r]) := by
  have hkind := h.row.row.kinds
  have hS : ∀ k ∈ (Value.slice va m.length vc).ownBlock.toList, ∃ cur t, wr.heap[k]? = some (.cells cur t (0, 0)) ∧ t ≠ 5 := fun k hk' => by
    obtain ⟨cur, hc'⟩ := hkind k hk'
    exact ⟨cur, _, hc', by decide⟩
  have hoff : ∀ z ∈ rs ++ [r], ∀ k, (Value.slice z.ia z.il.length z.ic).ownBlock = some k → (Value.slice va m.length vc).ownBlock ≠ some k := fun z hz => by
    rcases List.mem_append.1 hz with hz | hz
    · exact h.off z hz
    · simp at hz
      rw [hz]
      exact hrn
  have hok : ∀ z ∈ rs ++ [r], RsOk wr w.heap.size z := fun z hz => by
    rcases List.mem_append.1 hz with hz | hz
    · exact h.res.ok z hz
    · simp at hz
      rw [hz]
      exact hro
  have hok7 : ∀ z ∈ rs ++ [r], RsOk w7 w.heap.size z := fun z hz => (hok z hz).keep hk hS (fun k hk' e => hoff z hz k e (by simpa using hk'))
  have R7 : RRow w7 w.heap.size (.slice ra rs.length rc) rs := ⟨h.res.row.kp hk (fun k hv hm' => by
      obtain ⟨cur, hc'⟩ := hkind k hm'
      obtain ⟨-, cur2, hc2⟩ := h.res.row.lt k hv
      exact absurd (cells_inj hc' hc2) (by decide)), fun z hz => hok7 z (by simp [hz])⟩
  obtain ⟨ra', rc', w9, hrun, hR9, hgr, hat9⟩ := (R7.below hb8).push r ((hok7 r (by simp)).below hb8) g 1 hg hsm ty
  refine ⟨ra', rc', w9, hrun, ?_⟩
  have hl1 : (rs ++ [r]).length = rs.length + 1 := by simp
  have hk9 : Kp (Value.slice ra rs.length rc).ownBlock.toList W8 w9 := Kp.of_grown hgr (fun k hk' => Or.inl (by rw [hk']; simp))
  have hkr : ∀ k ∈ (Value.slice ra rs.length rc).ownBlock.toList, ∃ cur, W8.heap[k]? = some (.cells cur 46 (0, 0)) := fun k hk' => ((R7.below hb8).row.lt k (by simpa using hk')).2
  have hO8 := hO.below hb8
  have hO9 : Ow w9 (.slice va' m'.length vc') m' := by
    refine ⟨hO8.row.kp hk9 (fun k hv hm' => ?_), fun it hi => ⟨(hO8.byt it hi).1.kp hk9 (fun k hm' cur h0 => ?_), (hO8.byt it hi).2⟩⟩
    · obtain ⟨cur, hc'⟩ := hkr k hm'
      obtain ⟨-, cur2, hc2⟩ := hO8.row.lt k hv
      exact absurd (cells_inj hc' hc2) (by decide)
    · obtain ⟨cur2, hc'⟩ := hkr k hm'
      exact absurd (cells_inj h0 hc') (by decide)
  have hdrop : cs.drop j = cs[j] :: cs.drop (j + 1) := List.drop_eq_getElem_cons hj
  have hlen' : m'.length ≤ m.length + 1 := by
    have h1 := congrArg List.length hm
    rw [List.length_map] at h1
    have := wrote_len cs[j] m
    omega
  refine ⟨hO9, fun k hk' => ?_, by rw [hl1]; exact hR9, fun k hk' => ?_, fun z hz k hk' e => ?_, ?_, ?_, by have := h.len; omega, by rw [hl1, h.rlen], ?_⟩
  · rcases hat with e | ⟨q, e, hq⟩
    · exact h.new k (by rw [← e]; exact hk')
    · rw [e] at hk'
      injection hk' with hk'
      have := h.kp.size
      omega
  · rw [hl1] at hk'
    rcases hat9 with e | e
    · exact h.rnew k (by rw [← e]; exact hk')
    · rw [e] at hk'
      injection hk' with hk'
      have := h.kp.size
      have := hk.size
      have := hb8.size
      omega
  · rcases hat with e1 | ⟨q, e1, hq⟩
    · rw [e1] at e
      exact hoff z hz k hk' e
    · rw [e1] at e
      injection e with e
      have := ((hok z hz).it.row.lt k hk').1
      omega
  · have k7 : Kp [] w w7 := h.kp.trans hk (fun q hq => Or.inr (h.new q (by simpa using hq)))
    exact (k7.bel hb8).trans hk9 (fun q hq => Or.inr (h.rnew q (by simpa using hq)))
  · rw [okM_iff, hm]
    exact wrote_ok h.ok hc
  · have e1 : runs (cs.drop (j + 1)) m' = runs (cs.drop (j + 1)) (up (cs[j].wrote m)) := runs_congr (by rw [hm, up_val]) _
    rw [h.is, hdrop, e1]
    simp [runs, hc, hr]

set_option maxHeartbeats 4000000 in
set_option maxRecDepth 100000 in
theorem run_any (v vs : Value) (l : List It) (hl : l.length ≤ 1000) (cs : List Ca) (hcl : cs.length ≤ 1000) (w : World) (h : Sl w v l) (hcs : Cs w vs cs) :
    Calls Try.prog 28 #[v, vs] w fun e w' => ∃ v' m vr rs E, e = .returned (.tuple #[v', vr, .int .i64 E]) ∧ Ow w' v' m ∧ RRow w' w.heap.size vr rs ∧ (m.map It.val, rs.map Rs.val, E) = runE l cs ∧ Below w.heap.size w w' := by
  by_cases ho : okM l
  rotate_left
  · have HN := hide ho
    have CK := hide (check_any v l (by omega) w h)
    rw [ckE_no ho] at CK
    clear h hcs ho
    go_enter Try.func28, Try.ntmps28
    go_wp2_with fail
    refine CK.out.mono ?_
    rintro e w1 ⟨rfl, hb⟩
    have B1 := hide hb
    clear hb
    go_wp2
    go_ret3
    exact ⟨_, [], _, [], _, rfl, Ow.nil _, RRow.nil _ _, by rw [runE_no HN.out]; rfl, B1.out⟩
  have HOK := hide ho
  have CK := hide (check_any v l (by omega) w h)
  rw [ckE_yes ho] at CK
  have H1 := hide h
  have HC := hide hcs
  clear h hcs ho
  obtain ⟨sa, sc, rfl⟩ : ∃ sa sc, vs = .slice sa cs.length sc := by
    obtain ⟨⟨a, c, e, -⟩, -⟩ := HC.out
    exact ⟨a, c, e⟩
  generalize hn : cs.length = n at *
  replace hn := hide hn
  go_enter Try.func28, Try.ntmps28
  go_wp2_with fail
  refine CK.out.mono ?_
  rintro e w1 ⟨rfl, hb⟩
  have B1 := hide hb
  have CP := hide (copied_any v l (by omega) (okM_bs HOK.out) w1 (H1.out.below hb))
  clear hb CK H1
  go_wp2_with fail
  refine CP.out.mono ?_
  rintro e w2 ⟨v2, m0, rfl, hO, hm, hnw, hb⟩
  obtain ⟨va, vc, rfl, -, -⟩ := hO.sl.shape
  have HI0 : Hid (RI w w2 l cs 0 va vc m0 none 0 []) := by
    refine ⟨hO, fun k hk => Nat.le_trans B1.out.size (hnw k hk), RRow.nil _ _, fun k hk => (by cases hk), by simp, Kp.of_below (B1.out.trans (hb.mono B1.out.size)), ?_, ?_, rfl, ?_⟩
    · rw [okM_iff, hm, ← okM_iff]; exact HOK.out
    · have := congrArg List.length hm
      simp at this
      omega
    · rw [List.drop_zero, runs_congr hm]
      rfl
  clear hO hm hnw hb CP
  go_wp2
  go_loopw [0, 8, 22] (fun mv rv i wr => ∃ (j : Nat) (va : Option Addr) (vc : Nat) (m : List It) (ra : Option Addr) (rc : Nat) (rs : List Rs), j ≤ n ∧ i = .int .i64 (j : Int) ∧ mv = .slice va m.length vc ∧ rv = .slice ra rs.length rc ∧ Hid (RI w wr l cs j va vc m ra rc rs)) (fun _ _ i _ => n - (intOf i).toNat)
  case atStart => exact ⟨0, _, _, _, _, _, [], by omega, rfl, rfl, rfl, HI0.out⟩
  case round =>
    obtain ⟨j, va, vc, m, ra, rc, rs, hj, rfl, rfl, rfl, RX⟩ := hrel
    clear HI0
    by_cases hlt : j < n
    · have hjl : j < cs.length := by rw [hn.out]; exact hlt
      obtain ⟨g, o, hsa, q0, q1, q2, q3⟩ := (HC.out.below RX.out.bel).cells j hjl
      subst hsa
      have HRd := hide ((HC.out.below RX.out.bel).2 _ (List.getElem_mem hjl))
      have HCJ : Hid (cs[j] = cs[j]) := rfl
      obtain ⟨C, hC⟩ : ∃ C, cs[j] = C := ⟨_, rfl⟩
      rw [hC] at q0 q1 q2 q3 HRd HCJ
      replace hC := hide hC
      clear HCJ
      obtain ⟨kd, key, high, ca, cc, cb⟩ := C
      simp only [] at q0 q1 q2 q3
      obtain ⟨cn, hcn⟩ : ∃ z, cb.length = z := ⟨_, rfl⟩
      rw [hcn] at q3
      replace hcn := hide hcn
      have b4 := (Below.refl wr.heap.size wr).alloc (Nat.le_refl _) (.cells #[.int .i64 kd, .int .u64 key, .int .u64 high, .slice ca cn cc] 27)
      have Vb := hide (IsB.new wr #[.int .i64 kd, .int .u64 key, .int .u64 high, .slice ca cn cc] 27)
      replace RX := hide (RX.out.below b4)
      replace HRd := hide (HRd.out.below b4)
      clear b4
      go_wp2_with fail
      clear q0 q1 q2 q3
      generalize wr.alloc (.cells #[.int .i64 kd, .int .u64 key, .int .u64 high, .slice ca cn cc] 27) = W4 at *
      generalize wr.heap.size = H at *
      refine (call_any kd key high ca cn cc W4).mono ?_
      rintro e w5 ⟨rfl, hb⟩
      replace Vb := hide (Vb.out.below hb)
      replace RX := hide (RX.out.below hb)
      replace HRd := hide (HRd.out.below hb)
      clear hb
      have z0 := Vb.out.cell 0
      have z1 := Vb.out.cell 1
      have z2 := Vb.out.cell 2
      have z3 := Vb.out.cell 3
      simp at z0 z1 z2 z3
      have hdrop : Hid (cs.drop j = (⟨kd, key, high, ca, cc, cb⟩ : Ca) :: cs.drop (j + 1)) := by
        show _ = _
        rw [List.drop_eq_getElem_cons hjl, hC.out]
      cases hok : okC kd high cn with
      | false =>
        rw [clE_no hok]
        replace hok := hide hok
        go_wp2
        go_ret3
        refine ⟨_, m, _, rs, _, rfl, RX.out.row, RX.out.res, ?_, RX.out.bel⟩
        have hcb : Ca.ok (⟨kd, key, high, ca, cc, cb⟩ : Ca) = false := by
          unfold Ca.ok
          show okC kd high cb.length = false
          rw [hcn.out]; exact hok.out
        rw [runE_yes HOK.out, RX.out.is, hdrop.out]
        simp [runs, hcb]
      | true =>
        rw [clE_yes hok]
        have HCK : Hid (Ca.ok (⟨kd, key, high, ca, cc, cb⟩ : Ca) = true) := by
          show okC kd high cb.length = true
          rw [hcn.out]; exact hok
        have hml : m.length ≤ 100000 := by have := RX.out.len; omega
        have TD : Hid (Calls Try.prog 37 #[.slice va m.length vc, .agg #[.int .i64 kd, .int .u64 key, .int .u64 high, .slice ca cn cc]] w5 fun e w' => ∃ r : Rs, e = .returned (.agg r.cells) ∧ r.val = Ca.told (⟨kd, key, high, ca, cc, cb⟩ : Ca) m ∧ RsOk w' w5.heap.size r ∧ Below w5.heap.size w5 w') := by
          have t := told_any (.slice va m.length vc) m hml RX.out.ok (⟨kd, key, high, ca, cc, cb⟩ : Ca) HCK.out w5 RX.out.row.sl
          unfold Ca.cells at t
          simp only [] at t
          rw [hcn.out] at t
          exact t
        clear hok
        generalize hmn : m.length = mn at *
        replace hmn := hide hmn
        go_wp2_with fail
        refine TD.out.mono ?_
        rintro e w6 ⟨r, rfl, hrv, hro, hb⟩
        have hnr : Hid (∀ k, (Value.slice r.ia r.il.length r.ic).ownBlock = some k → w.heap.size ≤ k ∧ (Value.slice va m.length vc).ownBlock ≠ some k) := fun k hk => by
          have h1 := hro.new k hk
          refine ⟨by have := RX.out.kp.size; omega, fun e => ?_⟩
          have := (RX.out.row.row.lt k e).1
          omega
        have RO6 : Hid (RsOk w6 w.heap.size r) := ⟨hro.by_, hro.vn, hro.it, fun k hk => (hnr.out k hk).1⟩
        replace Vb := hide (Vb.out.below hb)
        replace RX := hide (RX.out.below hb)
        replace HRd := hide (HRd.out.below hb)
        have HRV := hide hrv
        have hre : r.e = (Ca.told (⟨kd, key, high, ca, cc, cb⟩ : Ca) m).1 := by rw [← hrv]; rfl
        clear hb hro hrv TD z0 z1 z2 z3
        obtain ⟨re, rk, rva, rvc, rvb, ria, ric, ril, rf⟩ := r
        simp only [] at hre
        replace hre := hide hre
        simp only [Rs.cells]
        generalize hrvn : rvb.length = rvn
        generalize hrin : ril.length = rin
        replace hrvn := hide hrvn
        replace hrin := hide hrin
        have b7 := (Below.refl w6.heap.size w6).alloc (Nat.le_refl _) (.cells #[.int .i64 re, .int .u64 rk, .slice rva rvn rvc, .slice ria rin ric, .int .i64 0, .int .i64 0, .int .u64 0, .int .i64 0, .int .u64 0, .int .i64 0, .int .i64 0, .int .u64 0, .int .i64 0, .int .u64 0, .bool rf] 46)
        have Rb := hide (IsB.new w6 #[.int .i64 re, .int .u64 rk, .slice rva rvn rvc, .slice ria rin ric, .int .i64 0, .int .i64 0, .int .u64 0, .int .i64 0, .int .u64 0, .int .i64 0, .int .i64 0, .int .u64 0, .int .i64 0, .int .u64 0, .bool rf] 46)
        replace Vb := hide (Vb.out.below b7)
        replace RX := hide (RX.out.below b7)
        replace HRd := hide (HRd.out.below b7)
        replace RO6 := hide (RO6.out.below b7)
        clear b7
        have z0 := Vb.out.cell 0
        have z1 := Vb.out.cell 1
        have z2 := Vb.out.cell 2
        have z3 := Vb.out.cell 3
        simp at z0 z1 z2 z3
        have y0 := Rb.out.cell 0
        simp at y0
        go_wp2_with fail
        generalize w6.alloc (.cells #[.int .i64 re, .int .u64 rk, .slice rva rvn rvc, .slice ria rin ric, .int .i64 0, .int .i64 0, .int .u64 0, .int .i64 0, .int .u64 0, .int .i64 0, .int .i64 0, .int .u64 0, .int .i64 0, .int .u64 0, .bool rf] 46) = W7 at *
        generalize w6.heap.size = R at *
        have WD : Hid (Calls Try.prog 38 #[.slice va mn vc, .agg #[.int .i64 kd, .int .u64 key, .int .u64 high, .slice ca cn cc], .int .i64 re] W7 fun e w' => ∃ v' m', e = .returned v' ∧ Ow w' v' m' ∧ m'.map It.val = Ca.wrote (⟨kd, key, high, ca, cc, cb⟩ : Ca) m ∧ (v'.ownBlock = (Value.slice va m.length vc).ownBlock ∨ ∃ q, v'.ownBlock = some q ∧ W7.heap.size ≤ q) ∧ Kp (Value.slice va m.length vc).ownBlock.toList W7 w') := by
          have t := write_any (.slice va m.length vc) m (by rw [hmn.out]; exact hml) RX.out.ok (⟨kd, key, high, ca, cc, cb⟩ : Ca) HCK.out W7 HRd.out RX.out.row
          unfold Ca.cells at t
          simp only [] at t
          rw [hcn.out, ← hre.out] at t
          rw [← hmn.out]
          exact t
        refine WD.out.mono ?_
        rintro e w8 ⟨v8, m8, rfl, hO, hm8, hat, hk⟩
        obtain ⟨va8, vc8, rfl, -, -⟩ := hO.sl.shape
        have Rb8 : Hid (IsB w8 R #[.int .i64 re, .int .u64 rk, .slice rva rvn rvc, .slice ria rin ric, .int .i64 0, .int .i64 0, .int .u64 0, .int .i64 0, .int .u64 0, .int .i64 0, .int .i64 0, .int .u64 0, .int .i64 0, .int .u64 0, .bool rf] 46) := Rb.out.kp hk (fun hm' => by
          obtain ⟨cur, hc'⟩ := RX.out.row.row.kinds R hm'
          exact absurd (cells_inj hc' Rb.out) (by decide))
        have b9 := (Below.refl w8.heap.size w8).alloc (Nat.le_refl _) (.cells #[.int .i64 re, .int .u64 rk, .slice rva rvn rvc, .slice ria rin ric, .int .i64 0, .int .i64 0, .int .u64 0, .int .i64 0, .int .u64 0, .int .i64 0, .int .i64 0, .int .u64 0, .int .i64 0, .int .u64 0, .bool rf] 46)
        have N9 : IsB (w8.alloc (.cells #[.int .i64 re, .int .u64 rk, .slice rva rvn rvc, .slice ria rin ric, .int .i64 0, .int .i64 0, .int .u64 0, .int .i64 0, .int .u64 0, .int .i64 0, .int .i64 0, .int .u64 0, .int .i64 0, .int .u64 0, .bool rf] 46)) w8.heap.size (Rs.cells (⟨re, rk, rva, rvc, rvb, ria, ric, ril, rf⟩ : Rs)) 46 := by
          have := IsB.new w8 #[.int .i64 re, .int .u64 rk, .slice rva rvn rvc, .slice ria rin ric, .int .i64 0, .int .i64 0, .int .u64 0, .int .i64 0, .int .u64 0, .int .i64 0, .int .i64 0, .int .u64 0, .int .i64 0, .int .u64 0, .bool rf] 46
          simp only [Rs.cells]
          rw [hrvn.out, hrin.out]
          exact this
        obtain ⟨ra9, rc9, w9, hap, hRI⟩ := RX.out.next hjl (by rw [hC.out]; exact HCK.out) (⟨re, rk, rva, rvc, rvb, ria, ric, ril, rf⟩ : Rs) (by rw [hC.out]; exact HRV.out) RO6.out (fun k hk' => (hnr.out k hk').2) va8 vc8 m8 hO (by rw [hC.out]; exact hm8) hat hk w8.heap.size _ b9 N9 (by have := RX.out.rlen; omega) 53
        have HAP := hide hap
        have RX9 := hide hRI
        have LD := hide (load_res Rb8.out rfl)
        clear hO hm8 hat hk b9 N9 hap hRI z0 z1 z2 z3 y0 WD
        go_wp2_with (first | ((with_reducible refine wpList_load_w ?hw 46 (.tmp 12) ?ho ?hx LD.out ?h); (case ho => rfl); (case hw => rfl); (case hx => rfl)) | (at_builtin; refine wpList_append_eq rfl (.tmp 41) (.tmp 43) 53 rfl _ _ (.slice ra9 (rs.length + 1) rc9) w9 rfl rfl HAP.out ?_))
        exact ⟨⟨j + 1, va8, vc8, m8, ra9, rc9, rs ++ [(⟨re, rk, rva, rvc, rvb, ria, ric, ril, rf⟩ : Rs)], by omega, by simp, rfl, by simp, RX9.out⟩, by simp [intOf]; omega⟩
    · obtain rfl : j = n := by omega
      go_wp2
      go_ret3
      refine ⟨_, m, _, rs, _, rfl, RX.out.row, RX.out.res, ?_, RX.out.bel⟩
      have hd : cs.drop j = [] := List.drop_eq_nil_of_le (by rw [hn.out]; exact Nat.le_refl _)
      rw [runE_yes HOK.out, RX.out.is, hd]
      simp [runs]

end Go.Proofs.Ytfnpapaibgbjpaa
