/- Package model: Key, Same. -/
import Derived.Test.YtfnpapaibgbjpaaZD
namespace Go.Proofs.Ytfnpapaibgbjpaa
open Go.RowKit Go.Maps

set_option maxHeartbeats 4000000 in
set_option maxRecDepth 100000 in
theorem key1_any (K0 : Nat) (k x : Int) (xa : Option Addr) (xn xc : Nat) (w : World) (h1 : w.cell? ⟨K0, 0, none⟩ = some (.int .u64 k)) :
    Calls Try.prog 32 #[.agg #[.int .u64 x, .slice xa xn xc], .pointer (some ⟨K0, 0, none⟩)] w fun e w' => e = .returned (.bool (x == k)) ∧ Below w.heap.size w w' := by
  have fin := hide ((Below.refl w.heap.size w).alloc (Nat.le_refl _) (.cells #[.int .u64 x, .slice xa xn xc] 61))
  have h2 := (((Below.refl w.heap.size w).alloc (Nat.le_refl _) (.cells #[.int .u64 x, .slice xa xn xc] 61)).cell (lt_of_cell h1)).trans h1
  go_enter Try.func32, Try.ntmps32
  go_wp2
  go_ret
  exact ⟨rfl, fin.out⟩

/-- Where the first item of a key stands; below 0: nowhere. -/
def kI (x : Int) (l : List It) : Int := if (l.findIdx fun it => it.k == x) < l.length then ((l.findIdx fun it => it.k == x : Nat) : Int) else -1
theorem kI_at {x : Int} {l : List It} {j : Nat} (hj : j < l.length) (he : l[j].k = x) (hn : ∀ q (_ : q < j) (hq : q < l.length), l[q].k ≠ x) : kI x l = (j : Int) := by
  have e : (l.findIdx fun it => it.k == x) = j := by
    rw [List.findIdx_eq hj]
    exact ⟨by simpa using he, fun q hq => by simpa using hn q hq (by omega)⟩
  unfold kI
  rw [e, if_pos hj]
theorem kI_no {x : Int} {l : List It} (hn : ∀ q (hq : q < l.length), l[q].k ≠ x) : kI x l = -1 := by
  unfold kI
  rw [if_neg]
  intro h
  have := List.findIdx_getElem (w := h)
  exact hn _ h (by simpa using this)

set_option maxHeartbeats 4000000 in
set_option maxRecDepth 100000 in
theorem indexFunc_any (v : Value) (l : List It) (hl : l.length ≤ 100000) (k : Int) (K0 : Nat) (w : World) (h : Sl w v l) (h1 : w.cell? ⟨K0, 0, none⟩ = some (.int .u64 k)) :
    Calls Try.prog 31 #[v, .func (.func 32) #[] #[.pointer (some ⟨K0, 0, none⟩)]] w fun e w' => e = .returned (.int .i64 (kI k l)) ∧ Below w.heap.size w w' := by
  obtain ⟨va, vc, rfl, -, -⟩ := h.shape
  have H1 := hide h
  have HK := hide h1
  clear h h1
  generalize hn : l.length = n at *
  replace hn := hide hn
  go_enter Try.func31, Try.ntmps31
  go_wp2
  go_loopw [8] (fun i wr => ∃ j : Nat, j ≤ n ∧ i = .int .i64 (j : Int) ∧ Hid (Below w.heap.size w wr) ∧ Hid (∀ q (_ : q < j) (hq : q < l.length), l[q].k ≠ k)) (fun i _ => n - (intOf i).toNat)
  case atStart => exact ⟨0, by omega, rfl, Below.refl _ _, fun q h _ => by omega⟩
  case round =>
    obtain ⟨j, hj, rfl, HB, HQ⟩ := hrel
    by_cases hlt : j < n
    · have hjl : j < l.length := by rw [hn.out]; exact hlt
      obtain ⟨g, o, c, ev, -, -, h2, h3⟩ := (H1.out.below HB.out).cells j hjl
      injection ev with ev el ec
      clear el
      subst ev ec
      have hk1 := (HB.out.cell (lt_of_cell HK.out)).trans HK.out
      have CL := hide (key1_any K0 k l[j].k l[j].a l[j].bs.length l[j].c wr hk1)
      clear hk1
      by_cases hk : l[j].k = k
      · have hE : Hid (kI k l = (j : Int)) := kI_at hjl hk HQ.out
        have hb : (l[j].k == k) = true := by simpa using hk
        rw [hb] at CL
        clear hk hb
        generalize l[j].k = x at *
        generalize l[j].a = xa at *
        generalize l[j].bs.length = xn at *
        generalize l[j].c = xc at *
        go_wp2_with fail
        refine CL.out.mono ?_
        rintro e w2 ⟨rfl, hb⟩
        have B2 := hide (HB.out.trans (hb.mono HB.out.size))
        clear hb
        go_wp2
        go_ret
        exact ⟨by rw [hE.out]; rfl, B2.out⟩
      · have HQ2 : Hid (∀ q (_ : q < j + 1) (hq : q < l.length), l[q].k ≠ k) := fun q h1 h2 => by
          by_cases e : q = j
          · subst e; exact hk
          · exact HQ.out q (by omega) h2
        have hb : (l[j].k == k) = false := by simpa using hk
        rw [hb] at CL
        clear hk hb
        generalize l[j].k = x at *
        generalize l[j].a = xa at *
        generalize l[j].bs.length = xn at *
        generalize l[j].c = xc at *
        go_wp2_with fail
        refine CL.out.mono ?_
        rintro e w2 ⟨rfl, hb⟩
        have B2 := hide (HB.out.trans (hb.mono HB.out.size))
        clear hb
        go_wp2
        exact ⟨⟨j + 1, by omega, by simp, B2.out, HQ2⟩, by simp [intOf]; omega⟩
    · have hE : Hid (kI k l = -1) := kI_no fun q hq => HQ.out q (by rw [hn.out] at hq; omega) hq
      go_wp2
      go_ret
      exact ⟨by rw [hE.out]; rfl, HB.out⟩

theorem kI_cases (x : Int) (l : List It) : (kI x l = -1 ∧ kfind x l = none) ∨ ∃ j, ∃ hj : j < l.length, kI x l = (j : Int) ∧ kfind x l = some l[j] := by
  cases h : kfind x l with
  | none =>
    refine Or.inl ⟨kI_no fun q hq he => ?_, rfl⟩
    unfold kfind at h
    rw [List.find?_eq_none] at h
    exact h _ (List.getElem_mem hq) (by simpa using he)
  | some it =>
    unfold kfind at h
    rw [List.find?_eq_some_iff_getElem] at h
    obtain ⟨h1, j, hj, rfl, h2⟩ := h
    exact Or.inr ⟨j, hj, kI_at hj (by simpa using h1) (fun q hq _ => by simpa using h2 q hq), rfl⟩

set_option maxHeartbeats 4000000 in
set_option maxRecDepth 100000 in
theorem key_any (v : Value) (l : List It) (hl : l.length ≤ 100000) (hlb : ∀ it ∈ l, it.bs.length ≤ 140737488355328) (k : Int) (w : World) (h : Sl w v l) :
    Calls Try.prog 10 #[v, .int .u64 k] w fun e w' => ∃ a c, e = .returned (.tuple #[.slice a (kS k l).length c, .bool (kB k l)]) ∧ Rd8 w' a (kS k l) ∧ (a = none → c = 0) ∧ Below w.heap.size w w' := by
  have b1 := (Below.refl w.heap.size w).alloc (Nat.le_refl _) (.cells #[.int .u64 k] 24)
  have i0 := (IsB.new w #[.int .u64 k] 24).cell 0
  have SL := hide (h.below b1)
  have IX := hide (indexFunc_any v l hl k w.heap.size _ (h.below b1) i0)
  have B1 := hide b1
  clear b1 i0 h
  obtain ⟨va, vc, rfl, -, -⟩ := SL.out.shape
  rcases kI_cases k l with ⟨e1, e2⟩ | ⟨j, hj, e1, e2⟩
  · rw [e1] at IX
    have HE : Hid (kS k l = [] ∧ kB k l = false) := ⟨by unfold kS; rw [e2], by unfold kB; rw [e2]; rfl⟩
    clear e1 e2
    generalize l.length = n at *
    go_enter Try.func10, Try.ntmps10
    go_wp2_with fail
    refine IX.out.mono ?_
    rintro e w2 ⟨rfl, hb⟩
    have B2 := hide (B1.out.trans (hb.mono B1.out.size))
    clear hb IX
    go_wp2
    go_ret2
    exact ⟨none, 0, by rw [HE.out.1, HE.out.2]; rfl, by rw [HE.out.1]; exact Or.inl ⟨rfl, rfl⟩, fun _ => rfl, B2.out⟩
  · rw [e1] at IX
    have HE : Hid (kS k l = l[j].bs ∧ kB k l = true) := ⟨by unfold kS; rw [e2], by unfold kB; rw [e2]; rfl⟩
    clear e1 e2
    have hb0 := hide (hlb _ (List.getElem_mem hj))
    have hjn : j < l.length := hj
    generalize hn : l.length = n at SL IX hl hjn ⊢
    replace hn := hide hn
    go_enter Try.func10, Try.ntmps10
    go_wp2_with fail
    refine IX.out.mono ?_
    rintro e w2 ⟨rfl, hb⟩
    have B2 := hide (B1.out.trans (hb.mono B1.out.size))
    have SL2 := SL.out.below hb
    obtain ⟨g, o, c, ev, -, -, -, h3⟩ := SL2.cells j hj
    injection ev with ev el ec
    clear el
    subst ev ec
    have RX := hide (SL2.2 _ (List.getElem_mem hj))
    have CB := bclone_any l[j].a l[j].c l[j].bs hb0.out RX.out.2 w2 RX.out.1
    clear hb IX SL2
    obtain ⟨xn, hxn⟩ : ∃ z, l[j].bs.length = z := ⟨_, rfl⟩
    rw [hxn] at h3 CB
    replace hxn := hide hxn
    replace CB := hide CB
    have hd : decide ((j : Int) < 0) = false := by simp
    generalize l[j].a = xa at *
    generalize l[j].c = xc at *
    go_wp2_with fail
    refine CB.out.mono ?_
    rintro e w3 ⟨da, dc, rfl, hby, -, hdn, hb⟩
    have B3 := hide (B2.out.trans (hb.mono B2.out.size))
    have RD := hide hby.rd
    have DN := hide hdn
    clear hby hb hdn
    go_wp2
    go_ret2
    refine ⟨da, dc, ?_, ?_, DN.out, B3.out⟩
    · rw [HE.out.1, HE.out.2, hxn.out]; rfl
    · rw [HE.out.1]; exact RD.out

set_option maxHeartbeats 4000000 in
set_option maxRecDepth 100000 in
theorem sameItem_any (x y : Int) (xa ya : Option Addr) (xc yc : Nat) (xb yb : List UInt8) (w : World) (h1 : Rd8 w xa xb) (n1 : xa = none → xc = 0) (h2 : Rd8 w ya yb) (n2 : ya = none → yc = 0) :
    Calls Try.prog 35 #[.agg #[.int .u64 x, .slice xa xb.length xc], .agg #[.int .u64 y, .slice ya yb.length yc]] w fun e w' => e = .returned (.bool (decide (x = y ∧ xb = yb))) ∧ Below w.heap.size w w' := by
  obtain ⟨xn, hxn⟩ : ∃ z, xb.length = z := ⟨_, rfl⟩
  obtain ⟨yn, hyn⟩ : ∃ z, yb.length = z := ⟨_, rfl⟩
  have b1 := ((Below.refl w.heap.size w).alloc (Nat.le_refl _) (.cells #[.int .u64 x, .slice xa xb.length xc] 61)).alloc (by simp) (.cells #[.int .u64 y, .slice ya yb.length yc] 61)
  have EQ := equal_any xa ya xc yc xb yb _ (h1.below b1) n1 (h2.below b1) n2
  rw [hxn, hyn] at b1 EQ ⊢
  have B1 := hide b1
  replace EQ := hide EQ
  clear b1 h1 h2 n1 n2 hxn hyn
  by_cases hk : x = y
  · subst hk
    have hE : Hid (decide (x = x ∧ xb = yb) = (xb == yb)) := by
      show _ = _
      by_cases hb : xb = yb <;> simp [hb]
    rw [hE.out]
    generalize (xb == yb) = Eb at *
    go_enter Try.func35, Try.ntmps35
    go_wp2_with fail
    refine EQ.out.mono ?_
    intro e w2 hE2
    obtain ⟨rfl, hw2⟩ := hE2
    rw [hw2]
    go_wp2
    go_ret
    exact ⟨rfl, B1.out⟩
  · have hE : Hid (decide (x = y ∧ xb = yb) = false) := by
      show _ = _
      simp [hk]
    rw [hE.out]
    have hkb : (x == y) = false := by simpa using hk
    clear EQ
    go_enter Try.func35, Try.ntmps35
    go_wp2
    go_ret
    exact ⟨rfl, B1.out⟩

set_option maxHeartbeats 4000000 in
set_option maxRecDepth 100000 in
theorem equalFunc_any (v v2 : Value) (l m : List It) (hl : l.length ≤ 100000) (w : World) (h : Sl w v l) (hm : Sl w v2 m) :
    Calls Try.prog 34 #[v, v2, .func (.func 35) #[] #[]] w fun e w' => e = .returned (.bool (sameL l m)) ∧ Below w.heap.size w w' := by
  obtain ⟨va, vc, rfl, -, -⟩ := h.shape
  obtain ⟨va2, vc2, rfl, -, -⟩ := hm.shape
  have H1 := hide h
  have H2 := hide hm
  clear h hm
  by_cases hlm : l.length = m.length
  rotate_left
  · have hE : Hid (sameL l m = false) := sameL_len hlm
    have hd : ((l.length : Int) == (m.length : Int)) = false := by simp; omega
    clear H1 H2
    generalize l.length = n at *
    generalize m.length = n2 at *
    go_enter Try.func34, Try.ntmps34
    go_wp2
    go_ret
    exact ⟨by rw [hE.out]; rfl, Below.refl _ _⟩
  have HL := hide hlm
  rw [← hlm] at H2 ⊢
  clear hlm
  generalize hn : l.length = n at *
  replace hn := hide hn
  go_enter Try.func34, Try.ntmps34
  go_wp2
  go_loopw [17] (fun i wr => ∃ j : Nat, j ≤ n ∧ i = .int .i64 (j : Int) ∧ Hid (Below w.heap.size w wr) ∧ Hid (∀ q (_ : q < j) (h1 : q < l.length) (h2 : q < m.length), l[q].k = m[q].k ∧ l[q].bs = m[q].bs)) (fun i _ => n - (intOf i).toNat)
  case atStart => exact ⟨0, by omega, rfl, Below.refl _ _, fun q h _ _ => by omega⟩
  case round =>
    obtain ⟨j, hj, rfl, HB, HQ⟩ := hrel
    by_cases hlt : j < n
    · have hjl : j < l.length := by rw [hn.out]; exact hlt
      have hjm : j < m.length := by rw [← HL.out]; exact hlt
      obtain ⟨g, k, c, ev, -, -, h2, h3⟩ := (H1.out.below HB.out).cells j hjl
      injection ev with ev el ec
      clear el
      subst ev ec
      obtain ⟨g2, k2, c2, ev2, -, -, h4, h5⟩ := (H2.out.below HB.out).cells j hjm
      injection ev2 with ev2 el2 ec2
      clear el2
      subst ev2 ec2
      have r1 := (H1.out.below HB.out).2 _ (List.getElem_mem hjl)
      have r2 := (H2.out.below HB.out).2 _ (List.getElem_mem hjm)
      have b6 := ((Below.refl wr.heap.size wr).alloc (Nat.le_refl _) (.cells #[.int .u64 l[j].k, .slice l[j].a l[j].bs.length l[j].c] 61)).alloc (by simp) (.cells #[.int .u64 m[j].k, .slice m[j].a m[j].bs.length m[j].c] 61)
      have SI := sameItem_any l[j].k m[j].k l[j].a m[j].a l[j].c m[j].c l[j].bs m[j].bs _ (r1.1.below b6) r1.2 (r2.1.below b6) r2.2
      have h4' := (((Below.refl wr.heap.size wr).alloc (Nat.le_refl _) (.cells #[.int .u64 l[j].k, .slice l[j].a l[j].bs.length l[j].c] 61)).cell (lt_of_cell h4)).trans h4
      have h5' := (((Below.refl wr.heap.size wr).alloc (Nat.le_refl _) (.cells #[.int .u64 l[j].k, .slice l[j].a l[j].bs.length l[j].c] 61)).cell (lt_of_cell h5)).trans h5
      have HBB := hide (HB.out.trans (b6.mono HB.out.size))
      clear r1 r2 b6 h4 h5
      by_cases hsm : l[j].k = m[j].k ∧ l[j].bs = m[j].bs
      · have HQ2 : Hid (∀ q (_ : q < j + 1) (h1 : q < l.length) (h2 : q < m.length), l[q].k = m[q].k ∧ l[q].bs = m[q].bs) := fun q h1 h2 h3 => by
          by_cases e : q = j
          · subst e; exact hsm
          · exact HQ.out q (by omega) h2 h3
        rw [decide_eq_true hsm] at SI
        replace SI := hide SI
        clear hsm
        generalize l[j].k = x at *
        generalize m[j].k = y at *
        generalize l[j].a = xa at *
        generalize l[j].bs.length = xn at *
        generalize l[j].c = xc at *
        generalize m[j].a = ya at *
        generalize m[j].bs.length = yn at *
        generalize m[j].c = yc at *
        go_wp2_with fail
        refine SI.out.mono ?_
        rintro e w2 ⟨rfl, hb⟩
        have B2 := hide (HBB.out.trans (hb.mono HBB.out.size))
        clear hb
        go_wp2
        exact ⟨⟨j + 1, by omega, by simp, B2.out, HQ2⟩, by simp [intOf]; omega⟩
      · have hE : Hid (sameL l m = false) := sameL_at hjl hjm hsm
        rw [decide_eq_false hsm] at SI
        replace SI := hide SI
        clear hsm
        generalize l[j].k = x at *
        generalize m[j].k = y at *
        generalize l[j].a = xa at *
        generalize l[j].bs.length = xn at *
        generalize l[j].c = xc at *
        generalize m[j].a = ya at *
        generalize m[j].bs.length = yn at *
        generalize m[j].c = yc at *
        go_wp2_with fail
        refine SI.out.mono ?_
        rintro e w2 ⟨rfl, hb⟩
        have B2 := hide (HBB.out.trans (hb.mono HBB.out.size))
        clear hb
        go_wp2
        go_ret
        exact ⟨by rw [hE.out]; rfl, B2.out⟩
    · have hE : Hid (sameL l m = true) := sameL_all (hn.out.trans HL.out) (fun q h1 h2 => HQ.out q (by rw [hn.out] at h1; omega) h1 h2)
      go_wp2
      go_ret
      exact ⟨by rw [hE.out]; rfl, HB.out⟩

set_option maxHeartbeats 4000000 in
set_option maxRecDepth 100000 in
theorem same_any (v v2 : Value) (l m : List It) (hl : l.length ≤ 100000) (w : World) (h : Sl w v l) (hm : Sl w v2 m) :
    Calls Try.prog 18 #[v, v2] w fun e w' => e = .returned (.bool (sameL l m)) ∧ Below w.heap.size w w' := by
  have EF := hide (equalFunc_any v v2 l m hl w h hm)
  clear h hm
  generalize sameL l m = Eb at *
  go_enter Try.func18, Try.ntmps18
  go_wp2_with fail
  refine EF.out.mono ?_
  rintro e w2 ⟨rfl, hb⟩
  have B2 := hide hb
  clear hb
  go_wp2
  go_ret
  exact ⟨rfl, B2.out⟩

end Go.Proofs.Ytfnpapaibgbjpaa
