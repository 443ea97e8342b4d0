/- One act on both networks: Twin, Take of a place that is. -/
import Derived.Test.YtoinjmddmahpkaaZM
namespace Go.Proofs.Ytoinjmddmahpkaa
open Go.RowKit Go.Maps

set_option maxHeartbeats 4000000 in
set_option maxRecDepth 100000 in
theorem step_twin_ok {L : List Nat} {w1 w : World} {b m rb : Nat} {v rv : Value} {ps qs : List Pc} {c rc : Cnt} {k rk : Nat} (hk : k < 1000000) (hrk : rk < 1000000) (h : Two L w1 w b m rb v rv ps qs c rc k rk) (hl : Like ps qs) (i : Nat) (hi : i < ps.length) (hj : i < qs.length) (us : List UInt8) (hus : ps[i].bs = nums us) (fa : Bool) (fn : Int) (ta : Bool) (tn : Int) (a : Option Addr) (len cap : Nat) (K : Int) :
    Calls Try.prog 9 #[.pointer (some ⟨b, 0, none⟩), .pointer (some ⟨rb, 0, none⟩), .agg #[.int .i64 3, .bool fa, .int .i64 fn, .bool ta, .int .i64 tn, .slice a len cap, .int .i64 (i : Int), .int .i64 K]] w fun e w' => e = .returned (.bool true) ∧ ∃ v' rv', Two L w1 w' b m rb v' rv' ps qs { c with l := c.l + 1 } { rc with l := rc.l + 1 } (k + 1) (rk + 1) := by
  have bel := (Below.refl w.heap.size w).alloc (Nat.le_refl _) (.cells #[.int .i64 3, .bool fa, .int .i64 fn, .bool ta, .int .i64 tn, .slice a len cap, .int .i64 (i : Int), .int .i64 K] 37)
  have O0 := hide (IsB.new w #[.int .i64 3, .bool fa, .int .i64 fn, .bool ta, .int .i64 tn, .slice a len cap, .int .i64 (i : Int), .int .i64 K] 37)
  have hA : Hid (w.heap.size ∉ foot b m v) := fun hm => by have := h.ns.lt _ hm; omega
  have H0 := hide (h.bel bel)
  have hkey := hide (hl.at_ i hi hj)
  have hQ := hide (h.rs.row.by_ qs[i] (List.getElem_mem hj))
  have hlen : Hid (us.length = ps[i].bs.length) := by
    show _ = _
    rw [hus]; simp [nums]
  have C1 := hide (twin_ok b m v ps c k hk _ H0.out.ns i hi)
  have C2 := hide (fun W (hh : RS W rb rv qs rc rk) => rtwin_ok rb rv qs rc rk hrk W hh i hj)
  have hQ1 := hide (hQ.out.below bel)
  clear h hl hQ bel
  generalize ps[i] = p at *
  generalize qs[i] = q at *
  obtain ⟨f1, g1, f2, g2, pa, pc, bs⟩ := p
  obtain ⟨r1, s1, r2, s2, qa, qc, bs'⟩ := q
  obtain ⟨rfl, rfl, rfl, rfl, rfl⟩ : f1 = r1 ∧ g1 = s1 ∧ f2 = r2 ∧ g2 = s2 ∧ bs = bs' := by
    have := hkey.out
    simp only [Pc.key, Prod.mk.injEq] at this
    exact this
  simp only [] at hus
  clear hkey
  go_enter Try.func9, Try.ntmps9
  go_wp2_with fail
  refine C1.out.mono ?_
  rintro e W ⟨x, rfl, ⟨a', c', rfl, hby, -, hnil⟩, hx⟩
  simp only [] at hby hlen hQ1
  generalize hbl : bs.length = bl at *
  have O1 := O0.out.kp hx.kp hA.out
  have H1 := H0.out.callN hx
  have hA2 : Hid (W.heap.size ∉ rfoot rb rv) := fun hm => by have := H1.rs.lt _ hm; omega
  have belz := (Below.refl W.heap.size W).alloc (Nat.le_refl _) (.cells #[.bool f1, .int .i64 g1, .bool f2, .int .i64 g2, .slice a' bl c'] 35)
  have o6 := (O1.below belz).cell 6
  simp at o6
  have P1 := hide (IsB.new W #[.bool f1, .int .i64 g1, .bool f2, .int .i64 g2, .slice a' bl c'] 35)
  have H2 := hide (H1.bel belz)
  have Y2 := hide (hby.below belz)
  have Q2 := hide ((hQ1.out.kp hx.kp H0.out.ns.noBy).below belz)
  replace hnil := hide hnil
  replace hbl := hide hbl
  replace hus := hide hus
  clear hx H0 O0 O1 belz C1 hby hQ1 H1 hA
  go_wp2_with fail
  refine (C2.out _ H2.out.rs).mono ?_
  rintro e W2 ⟨rfl, hx⟩
  simp only [Pc.v5, hbl.out]
  have belz := (Below.refl W2.heap.size W2).alloc (Nat.le_refl _) (.cells #[.bool f1, .int .i64 g1, .bool f2, .int .i64 g2, .slice qa bl qc] 35)
  have P3 := (P1.out.kp hx.kp hA2.out).below belz
  have B4 := hide ((H2.out.callR hx).bel belz)
  have Y4 := hide ((Y2.out.kp hx.kp H2.out.rs.noBy).below belz)
  have Q4 := hide ((Q2.out.kp hx.kp H2.out.rs.noBy).below belz)
  have p0 := P3.cell 0
  have p1 := P3.cell 1
  have p2 := P3.cell 2
  have p3 := P3.cell 3
  have p4 := P3.cell 4
  simp at p0 p1 p2 p3 p4
  clear hx H2 P1 belz P3 o6 C2 Y2 Q2 hA2
  generalize W.heap.size = A2 at *
  go_wp2_with fail
  refine (same_len f1 f1 g1 g1 f2 f2 g2 g2 a' qa c' qc bl bl us us hlen.out hlen.out hnil.out Q4.out.nil _ (hus.out ▸ Y4.out.rd) (hus.out ▸ Q4.out.rd)).mono ?_
  rintro e W3 ⟨⟨t, rfl, ht⟩, hb⟩
  obtain rfl := ht rfl rfl rfl rfl rfl
  have B5 := hide (B4.out.bel hb)
  clear hb B4 p0 p1 p2 p3 p4
  go_wp2
  go_ret
  exact ⟨rfl, _, _, B5.out⟩

set_option maxHeartbeats 4000000 in
set_option maxRecDepth 100000 in
theorem step_take_ok {L : List Nat} {w1 w : World} {b m rb : Nat} {v rv : Value} {ps qs : List Pc} {c rc : Cnt} {k rk : Nat} (hk : k < 1000000) (hrk : rk < 1000000) (h : Two L w1 w b m rb v rv ps qs c rc k rk) (hl : Like ps qs) (i : Nat) (hi : i < ps.length) (hj : i < qs.length) (us : List UInt8) (hus : ps[i].bs = nums us) (fa : Bool) (fn : Int) (ta : Bool) (tn : Int) (a : Option Addr) (len cap : Nat) (K : Int) :
    Calls Try.prog 9 #[.pointer (some ⟨b, 0, none⟩), .pointer (some ⟨rb, 0, none⟩), .agg #[.int .i64 2, .bool fa, .int .i64 fn, .bool ta, .int .i64 tn, .slice a len cap, .int .i64 (i : Int), .int .i64 K]] w fun e w' => e = .returned (.bool true) ∧ ∃ v' rv', Two L w1 w' b m rb v' rv' (ps.eraseIdx i) (qs.eraseIdx i) { c with l := c.l + 1 } { rc with l := rc.l + 1 } (k + 1) (rk + 1) := by
  have bel := (Below.refl w.heap.size w).alloc (Nat.le_refl _) (.cells #[.int .i64 2, .bool fa, .int .i64 fn, .bool ta, .int .i64 tn, .slice a len cap, .int .i64 (i : Int), .int .i64 K] 37)
  have O0 := hide (IsB.new w #[.int .i64 2, .bool fa, .int .i64 fn, .bool ta, .int .i64 tn, .slice a len cap, .int .i64 (i : Int), .int .i64 K] 37)
  have hA : Hid (w.heap.size ∉ foot b m v) := fun hm => by have := h.ns.lt _ hm; omega
  have H0 := hide (h.bel bel)
  have hkey := hide (hl.at_ i hi hj)
  have hQ := hide (h.rs.row.by_ qs[i] (List.getElem_mem hj))
  have hlen : Hid (us.length = ps[i].bs.length) := by
    show _ = _
    rw [hus]; simp [nums]
  have C1 := hide (take_ok b m v ps c k hk _ H0.out.ns i hi)
  have C2 := hide (fun W (hh : RS W rb rv qs rc rk) => rtake_ok rb rv qs rc rk hrk W hh i hj)
  have hQ1 := hide (hQ.out.below bel)
  clear h hl hQ bel
  generalize ps[i] = p at *
  generalize qs[i] = q at *
  obtain ⟨f1, g1, f2, g2, pa, pc, bs⟩ := p
  obtain ⟨r1, s1, r2, s2, qa, qc, bs'⟩ := q
  obtain ⟨rfl, rfl, rfl, rfl, rfl⟩ : f1 = r1 ∧ g1 = s1 ∧ f2 = r2 ∧ g2 = s2 ∧ bs = bs' := by
    have := hkey.out
    simp only [Pc.key, Prod.mk.injEq] at this
    exact this
  simp only [] at hus
  clear hkey
  go_enter Try.func9, Try.ntmps9
  go_wp2_with fail
  refine C1.out.mono ?_
  rintro e W ⟨x, v', rfl, ⟨a', c', rfl, hby, -, hnil⟩, hx⟩
  simp only [] at hby hlen hQ1
  generalize hbl : bs.length = bl at *
  have O1 := O0.out.kp hx.kp hA.out
  have H1 := H0.out.callN hx
  have hA2 : Hid (W.heap.size ∉ rfoot rb rv) := fun hm => by have := H1.rs.lt _ hm; omega
  have belz := (Below.refl W.heap.size W).alloc (Nat.le_refl _) (.cells #[.bool f1, .int .i64 g1, .bool f2, .int .i64 g2, .slice a' bl c'] 35)
  have o6 := (O1.below belz).cell 6
  simp at o6
  have P1 := hide (IsB.new W #[.bool f1, .int .i64 g1, .bool f2, .int .i64 g2, .slice a' bl c'] 35)
  have H2 := hide (H1.bel belz)
  have Y2 := hide (hby.below belz)
  have Q2 := hide ((hQ1.out.kp hx.kp H0.out.ns.noBy).below belz)
  replace hnil := hide hnil
  replace hbl := hide hbl
  replace hus := hide hus
  clear hx H0 O0 O1 belz C1 hby hQ1 H1 hA
  go_wp2_with fail
  refine (C2.out _ H2.out.rs).mono ?_
  rintro e W2 ⟨rfl, rv', hx⟩
  simp only [Pc.v5, hbl.out]
  have belz := (Below.refl W2.heap.size W2).alloc (Nat.le_refl _) (.cells #[.bool f1, .int .i64 g1, .bool f2, .int .i64 g2, .slice qa bl qc] 35)
  have P3 := (P1.out.kp hx.kp hA2.out).below belz
  have B4 := hide ((H2.out.callR hx).bel belz)
  have Y4 := hide ((Y2.out.kp hx.kp H2.out.rs.noBy).below belz)
  have Q4 := hide ((Q2.out.kp hx.kp H2.out.rs.noBy).below belz)
  have p0 := P3.cell 0
  have p1 := P3.cell 1
  have p2 := P3.cell 2
  have p3 := P3.cell 3
  have p4 := P3.cell 4
  simp at p0 p1 p2 p3 p4
  clear hx H2 P1 belz P3 o6 C2 Y2 Q2 hA2
  generalize W.heap.size = A2 at *
  go_wp2_with fail
  refine (same_len f1 f1 g1 g1 f2 f2 g2 g2 a' qa c' qc bl bl us us hlen.out hlen.out hnil.out Q4.out.nil _ (hus.out ▸ Y4.out.rd) (hus.out ▸ Q4.out.rd)).mono ?_
  rintro e W3 ⟨⟨t, rfl, ht⟩, hb⟩
  obtain rfl := ht rfl rfl rfl rfl rfl
  have B5 := hide (B4.out.bel hb)
  clear hb B4 p0 p1 p2 p3 p4
  go_wp2
  go_ret
  exact ⟨rfl, _, _, B5.out⟩

end Go.Proofs.Ytoinjmddmahpkaa
