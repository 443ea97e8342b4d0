/- Package net: keep and Cut. -/
import Derived.Test.YtoinjmddmahpkaaNN
import Derived.Laws.StructEq
namespace Go.Proofs.Ytoinjmddmahpkaa
open Go.RowKit Go.Maps

theorem addr_ne (x y : Bool) (n m : Int) (w : World) : (binOp .neq 32 (.agg #[.bool x, .int .i64 n]) (.agg #[.bool y, .int .i64 m])).run Try.prog w = .ok (.bool (!(x == y && n == m))) w := by
  have u3 := Try.underlying4
  have a3 := Try.isAgg4
  have z3 := Try.sizeOf4
  have u4 := Try.underlying3
  have a4 := Try.isAgg3
  have z4 := Try.sizeOf3
  have hS : Try.prog.underlying 32 = some (.struct (Try.prog.fieldsOf 32)) := by kernel_rfl
  have hp : Try.prog.stoodInHeld 32 = false := by kernel_rfl
  rw [run_neq_struct, show (10000 : Nat) = 9999 + 1 from rfl, run_equalIn_agg w 9999 32 _ _ hS hp]
  simp only [Program.fieldsOf, Try.underlying32]
  go_simp
  by_cases h1 : x = y <;> by_cases h2 : n = m <;> simp [h1, h2]
theorem addr_eq (x y : Bool) (n m : Int) (w : World) : (binOp .eql 32 (.agg #[.bool x, .int .i64 n]) (.agg #[.bool y, .int .i64 m])).run Try.prog w = .ok (.bool (x == y && n == m)) w := by
  have u3 := Try.underlying4
  have a3 := Try.isAgg4
  have z3 := Try.sizeOf4
  have u4 := Try.underlying3
  have a4 := Try.isAgg3
  have z4 := Try.sizeOf3
  have hS : Try.prog.underlying 32 = some (.struct (Try.prog.fieldsOf 32)) := by kernel_rfl
  have hp : Try.prog.stoodInHeld 32 = false := by kernel_rfl
  rw [run_eql_struct, show (10000 : Nat) = 9999 + 1 from rfl, run_equalIn_agg w 9999 32 _ _ hS hp]
  simp only [Program.fieldsOf, Try.underlying32]
  go_simp
  by_cases h1 : x = y <;> by_cases h2 : n = m <;> simp [h1, h2]

/-- Is a parcel neither from nor to this address? -/
def stay (ga : Bool) (gn : Int) (p : Pc) : Bool := !(p.fa == ga && p.fn == gn) && !(p.ta == ga && p.tn == gn)

set_option maxHeartbeats 2000000 in
set_option maxRecDepth 100000 in
theorem stays_any (fa : Bool) (fn : Int) (ta : Bool) (tn : Int) (a : Option Addr) (len cap : Nat) (A : Nat) (ga : Bool) (gn : Int) (w : World) (hA : IsB w A #[.bool ga, .int .i64 gn] 32) :
    Calls Try.prog 40 #[.agg #[.bool fa, .int .i64 fn, .bool ta, .int .i64 tn, .slice a len cap], .pointer (some ⟨A, 0, none⟩)] w fun e w' => e = .returned (.bool (!(fa == ga && fn == gn) && !(ta == ga && tn == gn))) ∧ Below w.heap.size w w' := by
  have hn := addr_ne
  have a0 := hA.cell 0
  have a1 := hA.cell 1
  have alt := hA.lt
  simp at a0 a1
  clear hA
  have fin : Hid (Below w.heap.size w (w.alloc (.cells #[.bool fa, .int .i64 fn, .bool ta, .int .i64 tn, .slice a len cap] 35))) := (Below.refl _ _).alloc (Nat.le_refl _) _
  generalize hb : (!(ta == ga && tn == gn)) = B at *
  generalize hc : (!(fa == ga && fn == gn)) = C at *
  cases C
  · go_enter Try.func40, Try.ntmps40
    go_wp2
    go_ret
    exact ⟨rfl, fin.out⟩
  · go_enter Try.func40, Try.ntmps40
    go_wp2
    go_ret
    exact ⟨rfl, fin.out⟩

theorem filter_take_succ {α : Type} (f : α → Bool) (l : List α) (j : Nat) (hj : j < l.length) : (l.take (j + 1)).filter f = (l.take j).filter f ++ (if f l[j] then [l[j]] else []) := by
  rw [List.take_succ_eq_append_getElem hj, List.filter_append, List.filter_cons, List.filter_nil]

set_option maxHeartbeats 8000000 in
set_option maxRecDepth 100000 in
theorem keep_any (b m : Nat) (v : Value) (ps : List Pc) (c : Cnt) (k : Nat) (w : World) (h : NS w b m v ps c k) (A : Nat) (ga : Bool) (gn : Int) (hA : IsB w A #[.bool ga, .int .i64 gn] 32) (hAb : A ∉ foot b m v) :
    Calls Try.prog 39 #[.pointer (some ⟨b, 0, none⟩), .func (.func 40) #[] #[.pointer (some ⟨A, 0, none⟩)]] w fun e w' => e = .returned (.int .i64 ((ps.length - (ps.filter (stay ga gn)).length : Nat) : Int)) ∧ ∃ v', Nx w w' b m v v' (ps.filter (stay ga gn)) c k := by
  obtain ⟨va, vc, rfl, hvc, hvm⟩ := h.row.row.shape
  have hb0 := h.blk.cell 0
  simp at hb0
  have hlen := h.len
  obtain ⟨i0, hi0, hz0, hz1, hz2⟩ := info_parts Try.infoP
  replace h := hide h
  replace hA := hide hA
  replace hAb := hide hAb
  go_enter Try.func39, Try.ntmps39
  go_wp2
  go_loopw [5, 14] (fun u i wr => ∃ j : Nat, j ≤ ps.length ∧ i = .int .i64 (j : Int) ∧ Hid (Rw wr 35 5 u ((ps.take j).filter (stay ga gn)).length (pcs ((ps.take j).filter (stay ga gn)))) ∧ Hid (∀ q, u.ownBlock = some q → w.heap.size ≤ q) ∧ Hid (Below w.heap.size w wr)) (fun _ i _ => ps.length - (intOf i).toNat)
  case atStart => exact ⟨0, by omega, rfl, ⟨rfl, Or.inl ⟨rfl, rfl⟩⟩, (by intro q hq; simp [Value.ownBlock] at hq), Below.refl _ _⟩
  case round =>
    obtain ⟨j, hj, rfl, HR, HO, HB⟩ := hrel
    by_cases hlt : j < ps.length
    · obtain ⟨g, cap, hv, -, -, c0, c1, c2, c3, c4⟩ := h.out.cells j hlt
      injection hv with hv1 _ hv3
      subst hv1
      subst hv3
      have d0 := (HB.out.cell (lt_of_cell c0)).trans c0
      have d1 := (HB.out.cell (lt_of_cell c1)).trans c1
      have d2 := (HB.out.cell (lt_of_cell c2)).trans c2
      have d3 := (HB.out.cell (lt_of_cell c3)).trans c3
      have d4 := (HB.out.cell (lt_of_cell c4)).trans c4
      have HFT := hide (filter_take_succ (stay ga gn) ps j hlt)
      clear c0 c1 c2 c3 c4
      generalize ps[j] = p at *
      obtain ⟨fa, fn, ta, tn, pa, pc, bs⟩ := p
      simp only [] at d0 d1 d2 d3 d4
      have hst : Hid (stay ga gn ⟨fa, fn, ta, tn, pa, pc, bs⟩ = (!(fa == ga && fn == gn) && !(ta == ga && tn == gn))) := rfl
      generalize hpl : bs.length = pl at *
      have bel := (Below.refl wr.heap.size wr).alloc (Nat.le_refl _) (.cells #[.bool fa, .int .i64 fn, .bool ta, .int .i64 tn, .slice pa pl pc] 35)
      have I2 := hide (IsB.new wr #[.bool fa, .int .i64 fn, .bool ta, .int .i64 tn, .slice pa pl pc] 35)
      have hA2 := hide ((hA.out.below HB.out).below bel)
      have B2 := hide (HB.out.trans (bel.mono HB.out.size))
      have R2 := hide (HR.out.below bel)
      have glt : g < wr.heap.size := lt_of_cell d0
      replace hpl := hide hpl
      clear bel
      go_wp2_with fail
      clear d0 d1 d2 d3 d4 glt
      refine (stays_any fa fn ta tn pa pl pc A ga gn _ hA2.out).mono ?_; rintro e w2 ⟨rfl, hb⟩
      generalize hBB : (!(fa == ga && fn == gn) && !(ta == ga && tn == gn)) = BB at *
      replace hBB := hide hBB
      have B3 := hide (B2.out.trans (hb.mono B2.out.size))
      have R3 := hide (R2.out.below hb)
      have I3 := hide (I2.out.below hb)
      clear hb R2 I2 B2 hA2
      cases BB
      · rw [hst.out, if_neg (by simp)] at HFT
        rw [List.append_nil] at HFT
        go_wp2
        exact ⟨⟨j + 1, by omega, by simp, by rw [HFT.out]; exact R3, HO, B3⟩, by simp [intOf]; omega⟩
      · rw [hst.out, if_pos rfl] at HFT
        obtain ⟨e0, e1, e2, e3, e4⟩ := I3.out.cells5
        generalize wr.heap.size = L at *
        have bel := (Below.refl w2.heap.size w2).alloc (Nat.le_refl _) (.cells #[.bool fa, .int .i64 fn, .bool ta, .int .i64 tn, .slice pa pl pc] 35)
        have I4 := IsB.new w2 #[.bool fa, .int .i64 fn, .bool ta, .int .i64 tn, .slice pa pl pc] 35
        have hnews : ∀ jj x, (pcs [(⟨fa, fn, ta, tn, pa, pc, bs⟩ : Pc)])[jj]? = some x → (w2.alloc (.cells #[.bool fa, .int .i64 fn, .bool ta, .int .i64 tn, .slice pa pl pc] 35)).cell? ((⟨w2.heap.size, 0, none⟩ : Addr).add jj) = some x := by
          intro jj x hu
          rw [add_none, Nat.zero_add, I4.cell jj]
          simp only [pcs, Pc.cs, List.flatMap_cons, List.flatMap_nil, List.append_nil] at hu
          rw [← hpl.out]
          simpa using hu
        have hfl : ((ps.take j).filter (stay ga gn)).length ≤ j := Nat.le_trans (List.length_filter_le _ _) (by rw [List.length_take]; omega)
        obtain ⟨v', w4, hrun, hrw, hgr, hat, -⟩ := run_append_rw (P := Try.prog) (w2.alloc (.cells #[.bool fa, .int .i64 fn, .bool ta, .int .i64 tn, .slice pa pl pc] 35)) 26 26 35 i0 _ 5 56 Try.underlying26 hi0 hz0 hz1 hz2 rfl
          _ _ _ (R3.out.below bel) (.slice (some ⟨w2.heap.size, 0, none⟩) 1 1) 1 (pcs [⟨fa, fn, ta, tn, pa, pc, bs⟩]) (by rfl) (Or.inl ⟨_, _, rfl, hnews⟩) (pcs_one _) (by unfold maxLen; omega) (by omega)
        have B4 := hide ((B3.out.trans (bel.mono B3.out.size)).grown hgr (Nat.le_trans B3.out.size bel.size) (fun q hq => HO.out q hq))
        have HO4 : Hid (∀ q, v'.ownBlock = some q → w.heap.size ≤ q) := fun q hq => by
          rcases hat with h1 | h1
          · exact HO.out q (by rw [← h1]; exact hq)
          · rw [hq] at h1
            have := Option.some.inj h1
            have h3 := B3.out.size
            simp at this
            omega
        have R4 : Hid (Rw w4 35 5 v' ((ps.take (j + 1)).filter (stay ga gn)).length (pcs ((ps.take (j + 1)).filter (stay ga gn)))) := by
          show Rw _ _ _ _ _ _
          rw [HFT.out, List.length_append, pcs_app]
          exact hrw
        have HRUN := hide hrun
        obtain ⟨ua, un, uc, rfl⟩ : ∃ ua un uc, v' = .slice ua un uc := by
          obtain ⟨x, y, z, -, -⟩ := hrw.shape
          exact ⟨_, _, _, z⟩
        clear hrun hrw hgr hat hnews I4 bel hfl HFT
        go_wp2_with (at_builtin; refine wpList_append_eq rfl (.tmp 21) (.tmp 23) 26 rfl _ _ (.slice ua un uc) w4 rfl rfl HRUN.out ?_)
        exact ⟨⟨j + 1, by omega, by simp, R4, HO4, B4⟩, by simp [intOf]; omega⟩
    · obtain rfl : j = ps.length := by omega
      rw [List.take_length] at HR
      obtain ⟨ua, uc, hu, -, -⟩ := HR.out.shape
      subst hu
      have hfl : (ps.filter (stay ga gn)).length ≤ ps.length := List.length_filter_le _ _
      have hB1 := h.out.blk.below HB.out
      have e0 := hB1.cell 0
      have f0 := hB1.free 0
      simp at e0
      replace hB1 := hide hB1
      generalize hfn : (ps.filter (stay ga gn)).length = fl at *
      replace hfn := hide hfn
      go_wp2
      go_ret
      refine ⟨by rw [hfn.out]; simp; omega, .slice ua fl uc, ?_⟩
      have hblt : b < w.heap.size := h.out.blk.lt
      have hkS : Kp [b] wr (wr.setCell ⟨b, 0, none⟩ (.slice ua fl uc)) := (Kp.refl _ wr).set _ _ (Or.inl (by simp))
      have hnb : NoBy wr [b] := fun q hq => (h.out.below HB.out).noBy q (by simp at hq; subst hq; simp [foot])
      refine ⟨⟨?_, (h.out.map.below HB.out).kept (Below.heap_setCell _ _ _ _ (Ne.symm (h.out.map.ne h.out.blk))), ⟨?_, ?_⟩, by rw [hfn.out]; omega, h.out.c0, h.out.c1⟩, (Kp.of_below HB.out).set _ _ (Or.inl (by simp [foot])), fun q hq => Or.inr (HO.out q hq)⟩
      · have := hB1.out.set 0 (.slice ua fl uc)
        simpa using this
      · rw [hfn.out]
        exact HR.out.kept fun q hq => Below.heap_setCell _ _ _ _ (by have := HO.out q hq; simp only []; omega)
      · intro p hp
        exact ((h.out.row.by_ p (List.mem_filter.1 hp).1).below HB.out).kp hkS hnb

set_option maxHeartbeats 2000000 in
set_option maxRecDepth 100000 in
theorem cut_bad (b m : Nat) (v : Value) (ps : List Pc) (c : Cnt) (k : Nat) (w : World) (h : NS w b m v ps c k) (ga : Bool) (gn : Int) (hg : okA gn = false) :
    Calls Try.prog 23 #[.pointer (some ⟨b, 0, none⟩), .agg #[.bool ga, .int .i64 gn]] w fun e w' => e = .returned (.tuple #[.int .i64 0, .int .i64 50]) ∧ Below w.heap.size w w' := by
  have bel := (Below.refl w.heap.size w).alloc (Nat.le_refl _) (.cells #[.bool ga, .int .i64 gn] 32)
  have h2 := hide (h.below bel)
  replace bel := hide bel
  clear h
  go_enter Try.func23, Try.ntmps23
  go_wp2_with fail
  refine (made_yes b m _ _ h2.out.blk).mono ?_; rintro e w1 ⟨rfl, rfl⟩
  go_wp2_with fail
  refine (check_any ga gn _).mono ?_; rintro e w2 ⟨rfl, hb⟩
  rw [if_neg (by rw [hg]; simp)]
  have HB := hide (bel.out.trans (hb.mono bel.out.size))
  clear hb h2
  go_wp2
  go_ret2
  exact ⟨rfl, HB.out⟩

set_option maxHeartbeats 4000000 in
set_option maxRecDepth 100000 in
theorem cut_ok (b m : Nat) (v : Value) (ps : List Pc) (c : Cnt) (k : Nat) (hk : k < 1000000) (w : World) (h : NS w b m v ps c k) (ga : Bool) (gn : Int) (hg : okA gn = true) :
    Calls Try.prog 23 #[.pointer (some ⟨b, 0, none⟩), .agg #[.bool ga, .int .i64 gn]] w fun e w' => e = .returned (.tuple #[.int .i64 ((ps.length - (ps.filter (stay ga gn)).length : Nat) : Int), .int .i64 0]) ∧
      ∃ v', Nx w w' b m v v' (ps.filter (stay ga gn)) { c with d := c.d + ((ps.length - (ps.filter (stay ga gn)).length : Nat) : Int) } (k + 1) := by
  have bel := (Below.refl w.heap.size w).alloc (Nat.le_refl _) (.cells #[.bool ga, .int .i64 gn] 32)
  have h2 := hide (h.below bel)
  have hA := hide (IsB.new w #[.bool ga, .int .i64 gn] 32)
  have hAf : Hid (w.heap.size ∉ foot b m v) := fun hm => by have := h.lt _ hm; omega
  have hlen := h.len
  replace h := hide h
  replace bel := hide bel
  go_enter Try.func23, Try.ntmps23
  go_wp2_with fail
  refine (made_yes b m _ _ h2.out.blk).mono ?_; rintro e w1 ⟨rfl, rfl⟩
  go_wp2_with fail
  refine (check_any ga gn _).mono ?_; rintro e w2 ⟨rfl, hb⟩
  rw [if_pos hg]
  have HB := hide (bel.out.trans (hb.mono bel.out.size))
  have N2 := hide (h2.out.below hb)
  have A2 := hide (hA.out.below hb)
  clear hb h2 hA
  go_wp2_with fail
  refine (keep_any b m v ps c k _ N2.out w.heap.size ga gn A2.out hAf.out).mono ?_
  rintro e w3 ⟨rfl, v', hx⟩
  have X3 := (h.out.nx HB.out).trans hx
  have hb1 := hx.ns.blk.cell 1
  simp at hb1
  have hlk := hx.ns.map.look.2.2.1
  have q0 := hx.ns.c0.2.2.1
  have q1 := hx.ns.c1.2.2.1
  generalize hlo : ps.length - (ps.filter (stay ga gn)).length = lo at *
  have hlo2 : lo ≤ 4096 := by omega
  obtain ⟨w4, hrun, hM4, hg4⟩ := hx.ns.map.put2 (by omega) (c.d + (lo : Int)) (by omega) (by omega)
  have X4 := hide (X3.trans (hx.ns.counted hM4 hg4 ⟨hx.ns.c0.1, hx.ns.c0.2.1, by simp only []; omega, hx.ns.c0.2.2.2⟩ ⟨by have := hx.ns.c1.1; simp only []; omega, by have := hx.ns.c1.2.1; simp only []; omega, by simp only []; omega, by have := hx.ns.c1.2.2.2; simp only []; omega⟩))
  clear hx X3 hM4 hg4
  replace hlo := hide hlo
  generalize hcd : c.d = cd at *
  replace hcd := hide hcd
  go_wp2
  go_ret2
  rw [hcd.out, hlo.out]
  exact ⟨rfl, v', X4.out⟩

end Go.Proofs.Ytoinjmddmahpkaa
