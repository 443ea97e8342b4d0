/- The document's Run. -/
import Derived.Test.YtfnpapaibgbjpaaYG
namespace Go.Proofs.Ytfnpapaibgbjpaa
open Go.RowKit Go.Maps

/-- A result of the document's, whose bytes lay there at the start. -/
structure RsE (w wr : World) (r : Rs) : Prop where
  rd : Rd8 w r.va r.vb
  vn : r.va = none → r.vc = 0
  row : Rw wr 61 2 (.slice r.ia r.il.length r.ic) r.il.length (its r.il)
  mem : ∀ it ∈ r.il, RdI w it
theorem RsE.rds {w wr : World} {r : Rs} (h : RsE w wr r) (hb : Below w.heap.size w wr) : RsRd wr r := ⟨h.rd.below hb, h.vn, h.row.sl fun it hi => (h.mem it hi).below hb⟩
theorem RsE.below {w wr w' : World} {r : Rs} (h : RsE w wr r) (hb : Below wr.heap.size wr w') : RsE w w' r := ⟨h.rd, h.vn, h.row.below hb, h.mem⟩
structure RJ (w wr : World) (v : Value) (l : List It) (cs : List Ca) (j : Nat) (vj : Value) (m : List It) (ra : Option Addr) (rc : Nat) (rs : List Rs) : Prop where
  row : (vj = v ∧ m = l) ∨ Rw wr 61 2 vj m.length (its m)
  rd : ∀ it ∈ m, RdI w it
  kx : ∀ it ∈ m, it.k ≤ 18446744073709551615
  kp : Kp [] w wr
  res : Rw wr 46 15 (.slice ra rs.length rc) rs.length (rss rs)
  rnew : ∀ k, (Value.slice ra rs.length rc).ownBlock = some k → w.heap.size ≤ k
  rok : ∀ r ∈ rs, RsE w wr r
  ok : okM m
  len : m.length ≤ l.length + j
  rlen : rs.length = j
  is : runs cs l = ((runs (cs.drop j) m).1, rs.map Rs.val ++ (runs (cs.drop j) m).2.1, (runs (cs.drop j) m).2.2)
theorem RJ.bel {w wr : World} {v : Value} {l : List It} {cs : List Ca} {j : Nat} {vj : Value} {m : List It} {ra : Option Addr} {rc : Nat} {rs : List Rs} (h : RJ w wr v l cs j vj m ra rc rs) : Below w.heap.size w wr := h.kp.to_below (Nat.le_refl _) (by simp)
theorem RJ.sl {w wr : World} {v : Value} {l : List It} {cs : List Ca} {j : Nat} {vj : Value} {m : List It} {ra : Option Addr} {rc : Nat} {rs : List Rs} (h : RJ w wr v l cs j vj m ra rc rs) (hS : Sl w v l) : Sl wr vj m := by
  rcases h.row with ⟨rfl, rfl⟩ | hr
  · exact hS.below h.bel
  · exact hr.sl fun it hi => (h.rd it hi).below h.bel
theorem Rw.keepI {w w' : World} {v vr : Value} {n nr : Nat} {xs ys : List Value} (h : Rw w 61 2 v n xs) (hr : Rw w 46 15 vr nr ys) (hk : Kp vr.ownBlock.toList w w') : Rw w' 61 2 v n xs :=
  h.kp hk (fun k hv hm => by
    obtain ⟨-, cur, hc⟩ := hr.lt k (by simpa using hm)
    obtain ⟨-, cur2, hc2⟩ := h.lt k hv
    exact absurd (cells_inj hc hc2) (by decide))
theorem RJ.next {w wr w5 : World} {v : Value} {l : List It} {cs : List Ca} {j : Nat} {vj : Value} {m : List It} {ra : Option Addr} {rc : Nat} {rs : List Rs} (h : RJ w wr v l cs j vj m ra rc rs) (hj : j < cs.length) (hc : cs[j].ok = true) (hrc : RdC w cs[j]) (hkc : cs[j].key ≤ 18446744073709551615) (v' : Value) (m' : List It) (r : Rs) (hD : DoR wr w5 vj m ⟨cs[j].key, cs[j].a, cs[j].c, cs[j].bs⟩ v' m' r) (hm : m'.map It.val = cs[j].wrote m) (hr : r.val = cs[j].told m) (hb : Below wr.heap.size wr w5)
    (g : Nat) (W8 : World) (hb8 : Below w5.heap.size w5 W8) (hg : IsB W8 g r.cells 46) (hsm : rs.length ≤ 100000) (ty : TypeId) :
    ∃ ra' rc' w9, (Builtin.append_ #[53, 53] ty #[.slice ra rs.length rc, .slice (some ⟨g, 0, none⟩) 1 1]).run Try.prog W8 = .ok (.slice ra' (rs.length + 1) rc') w9 ∧ RJ w w9 v l cs (j + 1) v' m' ra' rc' (rs ++ [r]) := by
  have hbb : Below wr.heap.size wr W8 := hb.trans (hb8.mono hb.size)
  have hrow8 := h.res.below hbb
  have hl1 : (rs ++ [r]).length = rs.length + 1 := by simp
  obtain ⟨i0, hi0, hz0, hz1, hz2⟩ := info_parts Try.infoRes
  have hcells : ∀ q u, (r.cells.toList)[q]? = some u → W8.cell? ((⟨g, 0, none⟩ : Addr).add q) = some u := fun q u hu => by
    rw [add_none, Nat.zero_add, hg.cell q]
    simpa using hu
  obtain ⟨vq, w9, hrun, hrw, hgr, hat, -⟩ := run_append_rw (P := Try.prog) W8 53 ty 46 i0 _ 15 152 Try.underlying53 hi0 hz0 hz1 hz2 rfl (.slice ra rs.length rc) rs.length (rss rs) hrow8 (.slice (some ⟨g, 0, none⟩) 1 1) 1 r.cells.toList rfl (Or.inl ⟨⟨g, 0, none⟩, 1, rfl, hcells⟩) (rs_one r) (by unfold maxLen; omega) (by omega)
  obtain ⟨qa, qc, rfl, -, -⟩ := hrw.shape
  have hk9 : Kp (Value.slice ra rs.length rc).ownBlock.toList W8 w9 := Kp.of_grown hgr (fun k hk => Or.inl (by rw [hk]; simp))
  have hkp9 : Kp [] w w9 := (h.kp.bel hbb).trans hk9 (fun q hq => Or.inr (h.rnew q (by simpa using hq)))
  have hrd' : ∀ it ∈ m', RdI w it := fun it hi => by
    rcases hD.mem it hi with h1 | h1
    · exact h.rd it h1
    · rw [h1]; exact hrc
  have hE : RsE w w5 r := by
    refine ⟨?_, ?_, hD.res.row, fun it hi => h.rd it (hD.res.mem it hi)⟩
    · rcases hD.res.vb with ⟨h1, -, h3⟩ | ⟨it, hi, h1, -, h3⟩
      · exact Or.inl ⟨h1, h3⟩
      · rw [← h1, ← h3]; exact (h.rd it hi).1
    · rcases hD.res.vb with ⟨h1, h2, -⟩ | ⟨it, hi, h1, h2, -⟩
      · exact fun _ => h2
      · intro h9
        rw [← h2]
        exact (h.rd it hi).2 (h1.trans h9)
  have hlen' : m'.length ≤ m.length + 1 := by
    have h1 := congrArg List.length hm
    rw [List.length_map] at h1
    have := wrote_len cs[j] m
    omega
  refine ⟨qa, qc, w9, hrun, ?_, hrd', fun it hi => ?_, hkp9, ?_, fun k hk => ?_, fun z hz => ?_, ?_, by have := h.len; omega, by rw [hl1, h.rlen], ?_⟩
  · rcases hD.row with ⟨rfl, rfl⟩ | ⟨h1, -⟩
    · rcases h.row with h2 | h2
      · exact Or.inl h2
      · exact Or.inr ((h2.below hbb).keepI hrow8 hk9)
    · exact Or.inr ((h1.below hb8).keepI hrow8 hk9)
  · rcases hD.mem it hi with h1 | h1
    · exact h.kx it h1
    · rw [h1]; exact hkc
  · have e : rss (rs ++ [r]) = rss rs ++ r.cells.toList := by simp [rss]
    rw [e, hl1]
    exact hrw
  · rw [hl1] at hk
    rcases hat with e | e
    · exact h.rnew k (by rw [← e]; exact hk)
    · rw [e] at hk
      injection hk with hk
      have := h.kp.size
      have := hbb.size
      omega
  · have hz8 : RsE w W8 z := by
      rcases List.mem_append.1 hz with hz | hz
      · exact (h.rok z hz).below hbb
      · simp at hz
        rw [hz]
        exact hE.below hb8
    exact ⟨hz8.rd, hz8.vn, hz8.row.keepI hrow8 hk9, hz8.mem⟩
  · rw [okM_iff, hm]
    exact wrote_ok h.ok hc
  · have e1 : runs (cs.drop (j + 1)) m' = runs (cs.drop (j + 1)) (up (cs[j].wrote m)) := runs_congr (by rw [hm, up_val]) _
    rw [h.is, List.drop_eq_getElem_cons hj, e1]
    simp [runs, hc, hr]

set_option maxHeartbeats 4000000 in
set_option maxRecDepth 100000 in
theorem rrun_any (v vs : Value) (l : List It) (hl : l.length ≤ 1000) (hkm : ∀ it ∈ l, it.k ≤ 18446744073709551615) (cs : List Ca) (hcl : cs.length ≤ 1000) (hck : ∀ c ∈ cs, c.key ≤ 18446744073709551615) (w : World) (h : Sl w v l) (hcs : Cs w vs cs) :
    Calls Try.prog 29 #[v, vs] w fun e w' => ∃ v' m vr rs E, e = .returned (.tuple #[v', vr, .int .i64 E]) ∧ Sl w' v' m ∧ Rw w' 46 15 vr rs.length (rss rs) ∧ (∀ r ∈ rs, RsRd w' r) ∧ (m.map It.val, rs.map Rs.val, E) = runE l cs ∧ Below w.heap.size w w' := by
  have CK := hide (rcheck_any v l (by omega) w h)
  by_cases ho : okM l
  rotate_left
  · have HN := hide ho
    rw [ckE_no ho] at CK
    clear h hcs ho hkm hck
    go_enter Try.func29, Try.ntmps29
    go_wp2_with fail
    refine CK.out.mono ?_
    rintro e w1 ⟨rfl, hb⟩
    have B1 := hide hb
    clear hb
    go_wp2
    go_ret3
    exact ⟨_, [], _, [], _, rfl, Sl.nil _, ⟨rfl, Or.inl ⟨rfl, rfl⟩⟩, by simp, by rw [runE_no HN.out]; rfl, B1.out⟩
  have HOK := hide ho
  rw [ckE_yes ho] at CK
  have H1 := hide h
  have HC := hide hcs
  have HCK := hide hck
  have HKM := hide hkm
  clear h hcs ho hkm hck
  obtain ⟨sa, sc, rfl⟩ : ∃ sa sc, vs = .slice sa cs.length sc := by
    obtain ⟨⟨a, c, e, -⟩, -⟩ := HC.out
    exact ⟨a, c, e⟩
  generalize hn : cs.length = n at *
  replace hn := hide hn
  go_enter Try.func29, Try.ntmps29
  go_wp2_with fail
  refine CK.out.mono ?_
  rintro e w2 ⟨rfl, hb⟩
  have HI0 : Hid (RJ w w2 v l cs 0 v l none 0 []) := ⟨Or.inl ⟨rfl, rfl⟩, H1.out.2, HKM.out, Kp.of_below hb, ⟨rfl, Or.inl ⟨rfl, rfl⟩⟩, fun k hk => (by cases hk), by simp, HOK.out, by omega, rfl, by rw [List.drop_zero]; rfl⟩
  clear hb CK
  go_wp2
  go_loopw [0, 7, 8] (fun mv rv i wr => ∃ (j : Nat) (vj : Value) (m : List It) (ra : Option Addr) (rc : Nat) (rs : List Rs), j ≤ n ∧ i = .int .i64 (j : Int) ∧ vj = mv ∧ rv = .slice ra rs.length rc ∧ Hid (RJ w wr v l cs j vj m ra rc rs)) (fun _ _ i _ => n - (intOf i).toNat)
  case atStart => exact ⟨0, _, _, _, _, [], by omega, rfl, rfl, rfl, HI0.out⟩
  case round =>
    obtain ⟨j, vj, m, ra, rc, rs, hj, rfl, rfl, rfl, RX⟩ := hrel
    clear HI0
    by_cases hlt : j < n
    · have hjl : j < cs.length := by rw [hn.out]; exact hlt
      obtain ⟨g, o, hsa, q0, q1, q2, q3⟩ := (HC.out.below RX.out.bel).cells j hjl
      subst hsa
      have HRd := hide (HC.out.2 _ (List.getElem_mem hjl))
      have HKC := hide (HCK.out _ (List.getElem_mem hjl))
      obtain ⟨C, hC⟩ : ∃ C, cs[j] = C := ⟨_, rfl⟩
      rw [hC] at q0 q1 q2 q3 HRd HKC
      replace hC := hide hC
      obtain ⟨kd, key, high, ca, cc, cb⟩ := C
      simp only [] at q0 q1 q2 q3
      have DO := rdo_any vj m (by have := RX.out.len; omega) RX.out.kx kd key high ca cc cb wr (RX.out.sl H1.out) (HRd.out.below RX.out.bel)
      obtain ⟨cn, hcn⟩ : ∃ z, cb.length = z := ⟨_, rfl⟩
      rw [hcn] at q3 DO
      replace hcn := hide hcn
      replace DO := hide DO
      go_wp2_with fail
      clear q0 q1 q2 q3
      refine DO.out.mono ?_
      rintro e w5 ⟨v5, m5, r, E, rfl, hD, he, hb⟩
      have HD := hide hD
      have HE := hide he
      have HB5 := hide hb
      clear hD he hb DO
      have hdrop : Hid (cs.drop j = (⟨kd, key, high, ca, cc, cb⟩ : Ca) :: cs.drop (j + 1)) := by
        show _ = _
        rw [List.drop_eq_getElem_cons hjl, hC.out]
      obtain ⟨re, rk, rva, rvc, rvb, ria, ric, ril, rf⟩ := r
      simp only [Rs.cells]
      generalize hrvn : rvb.length = rvn
      generalize hrin : ril.length = rin
      replace hrvn := hide hrvn
      replace hrin := hide hrin
      have Rb := hide (IsB.new w5 #[.int .i64 re, .int .u64 rk, .slice rva rvn rvc, .slice ria rin ric, .int .i64 0, .int .i64 0, .int .u64 0, .int .i64 0, .int .u64 0, .int .i64 0, .int .i64 0, .int .u64 0, .int .i64 0, .int .u64 0, .bool rf] 46)
      have B6 := hide ((Below.refl w5.heap.size w5).alloc (Nat.le_refl _) (.cells #[.int .i64 re, .int .u64 rk, .slice rva rvn rvc, .slice ria rin ric, .int .i64 0, .int .i64 0, .int .u64 0, .int .i64 0, .int .u64 0, .int .i64 0, .int .i64 0, .int .u64 0, .int .i64 0, .int .u64 0, .bool rf] 46))
      cases hok : Ca.ok (⟨kd, key, high, ca, cc, cb⟩ : Ca) with
      | false =>
        have hE4 : E = 104 := by
          have h9 := HE.out
          unfold doE at h9
          rw [if_pos RX.out.ok, hok] at h9
          injection h9 with _ h9
          injection h9 with _ h9
        subst hE4
        have RXB := hide RX.out
        go_wp2
        go_ret3
        refine ⟨_, m, _, rs, 104, rfl, (RXB.out.sl H1.out).below (HB5.out.trans (B6.out.mono HB5.out.size)), (RXB.out.res.below (HB5.out.trans (B6.out.mono HB5.out.size))), fun r hr => ((RXB.out.rok r hr).rds RXB.out.bel).below (HB5.out.trans (B6.out.mono HB5.out.size)), ?_, RXB.out.bel.trans ((HB5.out.trans (B6.out.mono HB5.out.size)).mono RXB.out.bel.size)⟩
        rw [runE_yes HOK.out, RXB.out.is, hdrop.out]
        simp [runs, hok]
      | true =>
        have hD3 := HE.out
        rw [doE_yes RX.out.ok hok] at hD3
        injection hD3 with hm5 hD3
        injection hD3 with hr5 hE0
        subst hE0
        have b8 := B6.out.trans (((Below.refl (w5.alloc (.cells #[.int .i64 re, .int .u64 rk, .slice rva rvn rvc, .slice ria rin ric, .int .i64 0, .int .i64 0, .int .u64 0, .int .i64 0, .int .u64 0, .int .i64 0, .int .i64 0, .int .u64 0, .int .i64 0, .int .u64 0, .bool rf] 46)).heap.size (w5.alloc (.cells #[.int .i64 re, .int .u64 rk, .slice rva rvn rvc, .slice ria rin ric, .int .i64 0, .int .i64 0, .int .u64 0, .int .i64 0, .int .u64 0, .int .i64 0, .int .i64 0, .int .u64 0, .int .i64 0, .int .u64 0, .bool rf] 46))).alloc (Nat.le_refl _) (.cells #[.int .i64 re, .int .u64 rk, .slice rva rvn rvc, .slice ria rin ric, .int .i64 0, .int .i64 0, .int .u64 0, .int .i64 0, .int .u64 0, .int .i64 0, .int .i64 0, .int .u64 0, .int .i64 0, .int .u64 0, .bool rf] 46)).mono B6.out.size)
        have N8 : IsB ((w5.alloc (.cells #[.int .i64 re, .int .u64 rk, .slice rva rvn rvc, .slice ria rin ric, .int .i64 0, .int .i64 0, .int .u64 0, .int .i64 0, .int .u64 0, .int .i64 0, .int .i64 0, .int .u64 0, .int .i64 0, .int .u64 0, .bool rf] 46)).alloc (.cells #[.int .i64 re, .int .u64 rk, .slice rva rvn rvc, .slice ria rin ric, .int .i64 0, .int .i64 0, .int .u64 0, .int .i64 0, .int .u64 0, .int .i64 0, .int .i64 0, .int .u64 0, .int .i64 0, .int .u64 0, .bool rf] 46)) (w5.heap.size + 1) (Rs.cells (⟨re, rk, rva, rvc, rvb, ria, ric, ril, rf⟩ : Rs)) 46 := by
          have := IsB.new (w5.alloc (.cells #[.int .i64 re, .int .u64 rk, .slice rva rvn rvc, .slice ria rin ric, .int .i64 0, .int .i64 0, .int .u64 0, .int .i64 0, .int .u64 0, .int .i64 0, .int .i64 0, .int .u64 0, .int .i64 0, .int .u64 0, .bool rf] 46)) #[.int .i64 re, .int .u64 rk, .slice rva rvn rvc, .slice ria rin ric, .int .i64 0, .int .i64 0, .int .u64 0, .int .i64 0, .int .u64 0, .int .i64 0, .int .i64 0, .int .u64 0, .int .i64 0, .int .u64 0, .bool rf] 46
          simp only [Rs.cells]
          rw [hrvn.out, hrin.out]
          rwa [World.size_alloc] at this
        obtain ⟨ra9, rc9, w9, hap, hRJ⟩ := RX.out.next hjl (by rw [hC.out]; exact hok) (by rw [hC.out]; exact HRd.out) (by rw [hC.out]; exact HKC.out) v5 m5 (⟨re, rk, rva, rvc, rvb, ria, ric, ril, rf⟩ : Rs) (by rw [hC.out]; exact HD.out) (by rw [hC.out]; exact hm5) (by rw [hC.out]; exact hr5) HB5.out (w5.heap.size + 1) _ b8 N8 (by have := RX.out.rlen; omega) 53
        have HAP := hide hap
        have RX9 := hide hRJ
        have LD := hide (load_res Rb.out rfl)
        clear hap hRJ b8 N8 hm5 hr5 HE HD
        go_wp2_with (first | ((with_reducible refine wpList_load_w ?hw 46 (.tmp 10) ?ho ?hx LD.out ?h); (case ho => rfl); (case hw => rfl); (case hx => rfl)) | (at_builtin; refine wpList_append_eq rfl (.tmp 37) (.tmp 39) 53 rfl _ _ (.slice ra9 (rs.length + 1) rc9) w9 rfl rfl HAP.out ?_))
        exact ⟨⟨j + 1, v5, m5, ra9, rc9, rs ++ [(⟨re, rk, rva, rvc, rvb, ria, ric, ril, rf⟩ : Rs)], by omega, by simp, rfl, by simp, RX9.out⟩, by simp [intOf]; omega⟩
    · obtain rfl : j = n := by omega
      go_wp2
      go_ret3
      refine ⟨_, m, _, rs, _, rfl, RX.out.sl H1.out, RX.out.res, fun r hr => (RX.out.rok r hr).rds RX.out.bel, ?_, RX.out.bel⟩
      have hd : cs.drop j = [] := List.drop_eq_nil_of_le (by rw [hn.out]; exact Nat.le_refl _)
      rw [runE_yes HOK.out, RX.out.is, hd]
      simp [runs]

end Go.Proofs.Ytfnpapaibgbjpaa
