/- Package graph: level. -/
import Derived.Test.YtfcmmchppcffmaaDoorGG
namespace Go.Proofs.YtfcmmchppcffmaaDoor
open Go.RowKit Go.Maps Go.ChangeMaps

theorem wpList_entry {P : Program} {ops : Array Oper} {rest : List Oper} {o : Oper} {a : Act} {w w' : World} {Q : Exit → Act → World → Prop} (hw : Region.wanted o (yielded ops a.tmps) = true) (t : TypeId) (x y : Operand) (ho : o.op = .mapEntry t x y) {X Y v : Value} (hx : a.eval x = X) (hy : a.eval y = Y) (hl : (Instr.mapEntry t X Y).run P w = .ok v w')
    (h : wpList P ops Q rest (a.put o.dst v) w') : wpList P ops Q (o :: rest) a w := by
  refine wpList_ex hw ?_ h
  simp [execOp, ho, hx, hy, hl, Result.andThen]
theorem wpList_estore {P : Program} {ops : Array Oper} {rest : List Oper} {o : Oper} {a : Act} {w w' : World} {Q : Exit → Act → World → Prop} (hw : Region.wanted o (yielded ops a.tmps) = true) (t : TypeId) (x y z : Operand) (ho : o.op = .entryStore t x y z) {X Y Z : Value} (hx : a.eval x = X) (hy : a.eval y = Y) (hz : a.eval z = Z) (hl : (Instr.entryStore t X Y Z).run P w = .ok () w')
    (h : wpList P ops Q rest (a.put o.dst undef) w') : wpList P ops Q (o :: rest) a w := by
  unfold wpList
  rw [if_pos hw]
  refine Or.inl ?_
  unfold Oper.wp
  have e : (execOp a.eval o).run P w = .ok .skip w' := by simp [execOp, ho, hx, hy, hz, hl, Result.andThen]
  rw [e]
  exact h
theorem make_map (w : World) : (Instr.makeMap 70 none).run Tryd.prog w = .ok (.map (some w.heap.size)) (w.alloc (.map #[] 0)) := by kernel_rfl
theorem mayR_rt {h : Int} {r : Rf} (hm : mayR h r = true) : rt r.ln r.bt = true ∧ r.ln = h := by
  unfold mayR at hm
  simp at hm
  exact ⟨hm.2.2.2.1, hm.2.2.2.2⟩

set_option maxHeartbeats 4000000 in
set_option maxRecDepth 100000 in
theorem level_any (h k : Int) (a : Option Addr) (c : Nat) (m : List Rf) (hl : m.length ≤ 1000) (hok : ∀ r ∈ m, mayR h r = true ∧ 0 ≤ r.bt) (h32 : h ≤ 32) (h0 : 0 ≤ k) (h1 : k ≤ h) (w : World) (hs : RSl w (.slice a m.length c) m) :
    Calls Tryd.prog 29 #[.agg (gcs h a m.length c), .int .i64 k] w fun e w' => ∃ b E, e = .returned (.map (some b)) ∧ Lv w' w.heap.size b k m E ∧ Below w.heap.size w w' := by
  unfold gcs
  have hmk := make_map
  have b1 := (Below.refl w.heap.size w).alloc (Nat.le_refl _) (.cells #[.int .i64 h, .int .i64 0, .int .i64 1, .int .u64 0, .int .i64 h, .int .u64 0, .int .i64 1, .int .i64 3, .int .u64 0, .int .i64 h, .int .u64 0, .slice a m.length c] 55)
  have b2 := b1.alloc (by simp) (.map #[] 0)
  have MM : Hid (MV ((w.alloc (.cells #[.int .i64 h, .int .i64 0, .int .i64 1, .int .u64 0, .int .i64 h, .int .u64 0, .int .i64 1, .int .i64 3, .int .u64 0, .int .i64 h, .int .u64 0, .slice a m.length c] 55)).alloc (.map #[] 0)) (w.heap.size + 1) []) := by
    have := MV.made (w.alloc (.cells #[.int .i64 h, .int .i64 0, .int .i64 1, .int .u64 0, .int .i64 h, .int .u64 0, .int .i64 1, .int .i64 3, .int .u64 0, .int .i64 h, .int .u64 0, .slice a m.length c] 55))
    rwa [World.size_alloc] at this
  have HS := hide hs
  have HOK := hide hok
  have B := hide b2
  have hge := b2.size
  clear b1 b2 hs hok
  have L0 : Hid (Lv ((w.alloc (.cells #[.int .i64 h, .int .i64 0, .int .i64 1, .int .u64 0, .int .i64 h, .int .u64 0, .int .i64 1, .int .i64 3, .int .u64 0, .int .i64 h, .int .u64 0, .slice a m.length c] 55)).alloc (.map #[] 0)) w.heap.size (w.heap.size + 1) k [] []) := ⟨MM.out, by omega, by simp, by simp, by simp, by simp, by simp, by simp⟩
  clear MM hge
  generalize hn : m.length = n at *
  replace hn := hide hn
  go_enter Tryd.func29, Tryd.ntmps29
  go_wp2
  generalize ((w.alloc (.cells #[.int .i64 h, .int .i64 0, .int .i64 1, .int .u64 0, .int .i64 h, .int .u64 0, .int .i64 1, .int .i64 3, .int .u64 0, .int .i64 h, .int .u64 0, .slice a n c] 55)).alloc (.map #[] 0)) = W1 at *
  generalize hH : w.heap.size = H at L0 ⊢
  replace hH := hide hH
  go_loopw [14] (fun i wr => ∃ j : Nat, j ≤ n ∧ i = .int .i64 (j : Int) ∧ Hid (Below w.heap.size w wr) ∧ Hid (∃ E, Lv wr H (H + 1) k (m.take j) E)) (fun i _ => n - (intOf i).toNat)
  case atStart => exact ⟨0, by omega, rfl, B.out, ⟨[], by rw [List.take_zero]; exact L0.out⟩⟩
  case round =>
    obtain ⟨j, hj, rfl, HB, HE⟩ := hrel
    by_cases hlt : j < n
    · have hjl : j < m.length := by rw [hn.out]; exact hlt
      obtain ⟨E, hLv⟩ := HE.out
      clear HE
      obtain ⟨g, o, c', ev, -, -, x0h, x1h, x2h, x3h, x4h⟩ := (HS.out.below HB.out).cells j hjl
      injection ev with ev el ec
      clear el
      subst ev ec
      have hr := HOK.out _ (List.getElem_mem hjl)
      have hrt := mayR_rt hr.1
      have hkk : k ≤ m[j].ln := by rw [hrt.2]; exact h1
      have hokv : okV (prV k m[j]) := okV_prV hrt.1 h0 (by omega)
      have hbt := hr.2
      have HTK : Hid (m.take (j + 1) = m.take j ++ [m[j]]) := List.take_succ_eq_append_getElem hjl
      have hPV : Hid (prV k m[j] = (k, ((pre m[j].ln.toNat m[j].bt.toNat k.toNat : Nat) : Int))) := rfl
      have PX := prefix_ok m[j].ln m[j].bt k hrt.1 hbt h0 hkk
      have hML : (m.take j).length ≤ 100000 := by rw [List.length_take]; omega
      have hRC : Hid (m[j].cells = #[.int .i64 m[j].id, .int .i64 m[j].rk, .int .u64 m[j].kn, .int .i64 m[j].ln, .int .u64 m[j].bt]) := rfl
      have LV := hide hLv
      replace PX := hide PX
      have HKV := hide hokv
      clear hLv hr hrt hkk hbt hokv
      generalize ((pre m[j].ln.toNat m[j].bt.toNat k.toNat : Nat) : Int) = P at PX hPV
      have b3 := (Below.refl wr.heap.size wr).alloc (Nat.le_refl _) (.cells #[.int .i64 m[j].id, .int .i64 m[j].rk, .int .u64 m[j].kn, .int .i64 m[j].ln, .int .u64 m[j].bt] 30)
      have Rb := hide (IsB.new wr #[.int .i64 m[j].id, .int .i64 m[j].rk, .int .u64 m[j].kn, .int .i64 m[j].ln, .int .u64 m[j].bt] 30)
      replace LV := hide (LV.out.below b3)
      replace HB := hide (HB.out.trans (b3.mono HB.out.size))
      clear b3
      generalize m[j] = r at *
      obtain ⟨x0, x1, x2, x3, x4⟩ := r
      simp only [] at x0h x1h x2h x3h x4h PX Rb LV HB hRC
      go_wp2_with fail
      generalize wr.alloc (.cells #[.int .i64 x0, .int .i64 x1, .int .u64 x2, .int .i64 x3, .int .u64 x4] 30) = W3 at *
      generalize wr.heap.size = R at Rb ⊢
      refine (PX.out W3).mono ?_
      rintro e w4 ⟨rfl, hb⟩
      replace LV := hide (LV.out.below hb)
      replace HB := hide (HB.out.trans (hb.mono HB.out.size))
      replace Rb := hide (Rb.out.below hb)
      clear hb PX
      have b5 := ((Below.refl w4.heap.size w4).alloc (Nat.le_refl _) (.cells #[.int .i64 k, .int .u64 P] 28)).alloc (by simp) (.cells #[.int .i64 x0, .int .i64 x1, .int .u64 x2, .int .i64 x3, .int .u64 x4] 30)
      have b4 := (Below.refl w4.heap.size w4).alloc (Nat.le_refl _) (.cells #[.int .i64 k, .int .u64 P] 28)
      have Nb : Hid (IsB ((w4.alloc (.cells #[.int .i64 k, .int .u64 P] 28)).alloc (.cells #[.int .i64 x0, .int .i64 x1, .int .u64 x2, .int .i64 x3, .int .u64 x4] 30)) (w4.heap.size + 1) #[.int .i64 x0, .int .i64 x1, .int .u64 x2, .int .i64 x3, .int .u64 x4] 30) := by
        have := IsB.new (w4.alloc (.cells #[.int .i64 k, .int .u64 P] 28)) #[.int .i64 x0, .int .i64 x1, .int .u64 x2, .int .i64 x3, .int .u64 x4] 30
        rwa [World.size_alloc] at this
      replace LV := hide (LV.out.below b5)
      replace HB := hide (HB.out.trans (b5.mono HB.out.size))
      have R4 := Rb.out.below b4
      have m0 := R4.cell 0
      have m1 := R4.cell 1
      have m2 := R4.cell 2
      have m3 := R4.cell 3
      have m4 := R4.cell 4
      simp at m0 m1 m2 m3 m4
      clear b5 b4 R4
      obtain ⟨v0, st, w5, v6, w6, w7, E', hr1, hr2, hr3, hL7, hB7⟩ := LV.out.step (⟨x0, x1, x2, x3, x4⟩ : Rf) HKV.out hML (w4.heap.size + 1) Nb.out (by have := HB.out.size; have := hH.out; omega)
      rw [hPV.out] at hr1
      have HR1 : Hid ((Instr.mapEntry 70 (.map (some (H + 1))) (.agg #[.int .i64 k, .int .u64 P])).run Tryd.prog ((w4.alloc (.cells #[.int .i64 k, .int .u64 P] 28)).alloc (.cells #[.int .i64 x0, .int .i64 x1, .int .u64 x2, .int .i64 x3, .int .u64 x4] 30)) = .ok (.tuple #[v0, .int .i64 (st : Int)]) w5) := hr1
      have HR2 := hide hr2
      have HR3 : (Instr.entryStore 70 (.map (some (H + 1))) (.int .i64 (st : Int)) v6).run Tryd.prog w6 = .ok () w7 := hr3
      have L7 := hide hL7
      have B7 : Hid (Below w.heap.size w w7) := HB.out.trans (by rw [hH.out]; exact hB7)
      clear hr1 hr2 hr3 hL7 hB7
      go_wp2_with (first | ((with_reducible refine wpList_entry ?hw 70 (.tmp 25) (.tmp 26) ?ho ?hx ?hy HR1.out ?h); (case ho => rfl); (case hw => rfl); (case hx => rfl); (case hy => rfl)) | (at_builtin; refine wpList_append_eq rfl (.tmp 27) (.tmp 29) 22 rfl _ _ v6 w6 rfl rfl HR2.out ?_))
      exact ⟨⟨j + 1, by omega, by simp, B7.out, ⟨E', by rw [HTK.out]; exact L7.out⟩⟩, by simp [intOf]; omega⟩
    · have hjn : j = n := by omega
      obtain ⟨E, hLv⟩ := HE.out
      have e : m.take j = m := List.take_of_length_le (by rw [hn.out]; omega)
      rw [e] at hLv
      have LV := hide hLv
      clear hLv HE
      go_wp2
      go_ret
      exact ⟨H + 1, E, rfl, by rw [hH.out]; exact LV.out, HB.out⟩

end Go.Proofs.YtfcmmchppcffmaaDoor
