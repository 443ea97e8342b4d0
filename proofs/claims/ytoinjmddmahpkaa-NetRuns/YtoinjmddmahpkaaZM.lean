/- One act on both networks: At of a place that is. -/
import Derived.Test.YtoinjmddmahpkaaZL
namespace Go.Proofs.Ytoinjmddmahpkaa
open Go.RowKit Go.Maps

theorem same_len (fa ga : Bool) (fn gn : Int) (ta ha : Bool) (tn hn : Int) (a a' : Option Addr) (c c' n1 n2 : Nat) (us vs : List UInt8) (e1 : us.length = n1) (e2 : vs.length = n2) (h1 : a = none → c = 0) (h2 : a' = none → c' = 0) (w : World) (hr : Rd8 w a (nums us)) (hs : Rd8 w a' (nums vs)) :
    Calls Try.prog 15 #[.agg #[.bool fa, .int .i64 fn, .bool ta, .int .i64 tn, .slice a n1 c], .agg #[.bool ga, .int .i64 gn, .bool ha, .int .i64 hn, .slice a' n2 c']] w fun e w' => SameR fa ga fn gn ta ha tn hn us vs e ∧ Below w.heap.size w w' := by
  subst e1 e2
  exact same_any fa ga fn gn ta ha tn hn a a' c c' us vs h1 h2 w hr hs

set_option maxHeartbeats 4000000 in
set_option maxRecDepth 100000 in
theorem step_at_ok {L : List Nat} {w1 w : World} {b m rb : Nat} {v rv : Value} {ps qs : List Pc} {c rc : Cnt} {k rk : Nat} (h : Two L w1 w b m rb v rv ps qs c rc k rk) (hl : Like ps qs) (i : Nat) (hi : i < ps.length) (hj : i < qs.length) (us : List UInt8) (hus : ps[i].bs = nums us) (fa : Bool) (fn : Int) (ta : Bool) (tn : Int) (a : Option Addr) (len cap : Nat) (K : Int) :
    Calls Try.prog 9 #[.pointer (some ⟨b, 0, none⟩), .pointer (some ⟨rb, 0, none⟩), .agg #[.int .i64 7, .bool fa, .int .i64 fn, .bool ta, .int .i64 tn, .slice a len cap, .int .i64 (i : Int), .int .i64 K]] w fun e w' => e = .returned (.bool true) ∧ Below w.heap.size w w' := by
  have bel := (Below.refl w.heap.size w).alloc (Nat.le_refl _) (.cells #[.int .i64 7, .bool fa, .int .i64 fn, .bool ta, .int .i64 tn, .slice a len cap, .int .i64 (i : Int), .int .i64 K] 37)
  have O0 := hide (IsB.new w #[.int .i64 7, .bool fa, .int .i64 fn, .bool ta, .int .i64 tn, .slice a len cap, .int .i64 (i : Int), .int .i64 K] 37)
  have H0 := hide (h.bel bel)
  have hkey := hide (hl.at_ i hi hj)
  have hQ := hide (h.rs.row.by_ qs[i] (List.getElem_mem hj))
  have hlen : Hid (us.length = ps[i].bs.length) := by
    show _ = _
    rw [hus]; simp [nums]
  have C1 := hide (at_ok b m v ps c k _ H0.out.ns i hi)
  have C2 := hide (fun W (hh : RS W rb rv qs rc rk) => rat_ok rb rv qs rc rk W hh i hj)
  have hQ1 := hide (hQ.out.below bel)
  replace bel := hide bel
  clear h hl hQ
  generalize ps[i] = p at *
  generalize qs[i] = q at *
  obtain ⟨f1, g1, f2, g2, pa, pc, bs⟩ := p
  obtain ⟨r1, s1, r2, s2, qa, qc, bs'⟩ := q
  obtain ⟨rfl, rfl, rfl, rfl, rfl⟩ : f1 = r1 ∧ g1 = s1 ∧ f2 = r2 ∧ g2 = s2 ∧ bs = bs' := by
    have := hkey.out
    simp only [Pc.key, Prod.mk.injEq] at this
    exact this
  simp only [] at hus
  clear hkey
  go_enter Try.func9, Try.ntmps9
  go_wp2_with fail
  refine C1.out.mono ?_
  rintro e W ⟨x, rfl, ⟨a', c', rfl, hby, -, hnil⟩, hb⟩
  simp only [] at hby hlen hQ1
  generalize hbl : bs.length = bl at *
  have B1 := hide (bel.out.trans (hb.mono bel.out.size))
  have O1 := O0.out.below hb
  have belz := (Below.refl W.heap.size W).alloc (Nat.le_refl _) (.cells #[.bool f1, .int .i64 g1, .bool f2, .int .i64 g2, .slice a' bl c'] 35)
  have o6 := (O1.below belz).cell 6
  simp at o6
  have P1 := hide (IsB.new W #[.bool f1, .int .i64 g1, .bool f2, .int .i64 g2, .slice a' bl c'] 35)
  have H2 := hide ((H0.out.bel hb).bel belz)
  have B2 := hide (B1.out.trans (belz.mono B1.out.size))
  have Y2 := hide (hby.below belz)
  have Q2 := hide ((hQ1.out.below hb).below belz)
  replace hnil := hide hnil
  replace hbl := hide hbl
  replace hus := hide hus
  clear hb H0 bel O0 O1 belz B1 C1 hby hQ1
  go_wp2_with fail
  refine (C2.out _ H2.out.rs).mono ?_
  rintro e W2 ⟨rfl, hb⟩
  simp only [Pc.v5, hbl.out]
  have belz := (Below.refl W2.heap.size W2).alloc (Nat.le_refl _) (.cells #[.bool f1, .int .i64 g1, .bool f2, .int .i64 g2, .slice qa bl qc] 35)
  have P3 := (P1.out.below hb).below belz
  have B3 := B2.out.trans (hb.mono B2.out.size)
  have B4 := hide (B3.trans (belz.mono B3.size))
  have Y4 := hide ((Y2.out.below hb).below belz)
  have Q4 := hide ((Q2.out.below hb).below belz)
  have p0 := P3.cell 0
  have p1 := P3.cell 1
  have p2 := P3.cell 2
  have p3 := P3.cell 3
  have p4 := P3.cell 4
  simp at p0 p1 p2 p3 p4
  clear hb H2 P1 B2 belz P3 B3 o6 C2 Y2 Q2
  generalize W.heap.size = A2 at *
  go_wp2_with fail
  refine (same_len f1 f1 g1 g1 f2 f2 g2 g2 a' qa c' qc bl bl us us hlen.out hlen.out hnil.out Q4.out.nil _ (hus.out ▸ Y4.out.rd) (hus.out ▸ Q4.out.rd)).mono ?_
  rintro e W3 ⟨⟨t, rfl, ht⟩, hb⟩
  obtain rfl := ht rfl rfl rfl rfl rfl
  have B5 := hide (B4.out.trans (hb.mono B4.out.size))
  clear hb B4 p0 p1 p2 p3 p4
  go_wp2
  go_ret
  exact ⟨rfl, B5.out⟩

end Go.Proofs.Ytoinjmddmahpkaa
