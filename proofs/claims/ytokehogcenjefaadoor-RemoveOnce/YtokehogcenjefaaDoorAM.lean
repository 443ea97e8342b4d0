/- RemoveOnce walked. -/
import Derived.Test.YtokehogcenjefaaDoorAL
import Derived.Test.YtokehogcenjefaaDoorAE
import Derived.Test.YtokehogcenjefaaDoorSW
namespace Go.Proofs.YtokehogcenjefaaDoor
open Go.RowKit Go.Maps Go.ChangeMaps

theorem AnSl.at3 {w : World} {v : Value} {l : List An} (h : AnSl w v l) (j : Nat) (hj : j < l.length) : ∃ g o c, v = .slice (some ⟨g, o, none⟩) l.length c ∧ (∀ w', Below w.heap.size w w' → w'.cell? ⟨g, o + j * 13, none⟩ = some (.int .i64 l[j].k)) ∧ ∀ w', Below w.heap.size w w' → (Instr.loadAt 55 (.pointer (some ⟨g, o + j * 13, none⟩))).run Tryd.prog w' = .ok (.agg (anL l[j]).toArray) w' := by
  obtain ⟨g, o, c, ev, hx⟩ := h.at2 j hj
  refine ⟨g, o, c, ev, fun w' hb => ?_, hx⟩
  rcases h with ⟨rfl, -⟩ | ⟨g', o', c', rfl, h1, h2, h3, h4⟩
  · cases ev
  · injection ev with e1 e2 e3
    injection e1 with e1
    injection e1 with e4 e5 e6
    subst e4 e5
    have := h4 j hj 0 (by decide)
    rw [Nat.add_zero] at this
    rw [hb.cell h3, this]
    rfl
theorem rn_n (w : World) : (binOp .eql 36 (.pointer none) (.pointer none)).run Tryd.prog w = .ok (.bool true) w := by kernel_rfl
theorem kguard2 : Tryd.prog.eqGuardType Tryd.prog.depth 25 = false := by kernel_rfl
theorem nek0 (x y : Int) (w : World) : (binOp .neq 25 (.agg #[.int .i64 (x), .int .u64 (y)]) (.agg #[.int .i64 (x), .int .u64 (y)])).run Tryd.prog w = .ok (.bool false) w := by
  have u1 := Tryd.underlying22
  have a1 := Tryd.isAgg22
  have z1 := Tryd.sizeOf22
  have u2 := Tryd.underlying23
  have a2 := Tryd.isAgg23
  have z2 := Tryd.sizeOf23
  have hS : Tryd.prog.underlying 25 = some (.struct (Tryd.prog.fieldsOf 25)) := by kernel_rfl
  have hp : Tryd.prog.stoodInHeld 25 = false := by kernel_rfl
  rw [run_neq_struct, show (10000 : Nat) = 9999 + 1 from rfl, run_equalIn_agg w 9999 25 _ _ hS hp]
  simp only [Program.fieldsOf, Tryd.underlying25]
  go_simp
theorem step_ld {w : World} {T : Nat} {k : Int} {r : Rf} {q x y : Int} {tl : List Value} (I : IsB w T (hdL k r q x y ++ tl).toArray 50) :
    w.cell? ⟨T, 0, none⟩ = some (.int .i64 k) ∧ w.cell? ⟨T, 6, none⟩ = some (.int .i64 q) ∧ w.cell? ⟨T, 7, none⟩ = some (.int .i64 x) ∧ (Instr.loadAt 25 (.pointer (some ⟨T, 2, none⟩))).run Tryd.prog w = .ok (.agg #[.int .i64 (r.rk), .int .u64 (r.kn)]) w ∧ (Instr.loadAt 29 (.pointer (some ⟨T, 1, none⟩))).run Tryd.prog w = .ok (.agg #[.int .i64 r.id, .int .i64 r.rk, .int .u64 r.kn, .int .i64 r.ln, .int .u64 r.bt]) w :=
  ⟨I.cell 0, I.cell 6, I.cell 7, load_mid I 2 _ [.int .i64 r.rk, .int .u64 r.kn] _ rfl Tryd.underlying25 rfl (by kernel_rfl), load_mid I 1 _ r.cs _ rfl Tryd.underlying29 rfl (by kernel_rfl)⟩
theorem ld_rconf {w : World} {b : Nat} {h : Int} {st : Rf} {k oa oo : Int} (I : IsB w b (rcL h st k oa oo).toArray 33) : (Instr.loadAt 33 (.pointer (some ⟨b, 0, none⟩))).run Tryd.prog w = .ok (.agg (rcL h st k oa oo).toArray) w := load_mid I 0 _ (rcL h st k oa oo) _ rfl Tryd.underlying33 rfl (by kernel_rfl)

set_option maxHeartbeats 2000000 in
set_option maxRecDepth 100000 in
theorem once_bad (h : Int) (st : Rf) (k oa oo : Int) (v : Value) (l : List An) (hb0 : 0 ≤ st.bt) (hm : mayC h st 2 k = false) (w : World) (hR : Ranks w) (hO : AnSl w v l) : Calls Tryd.prog 3 #[.agg (rcL h st k oa oo).toArray, v] w fun e w' => e = .returned (.bool true) ∧ Below w.heap.size w w' := by
  obtain ⟨va, vc, rfl, -, -⟩ := hO.shape
  clear hO
  generalize hn : l.length = n at *
  clear hn
  have b1 := gb1 w (.cells (rcL h st k oa oo).toArray 33)
  have CB := hide (IsB.new w (rcL h st k oa oo).toArray 33)
  have HR := hide (hR.below b1)
  have B := hide b1
  clear b1 hR
  go_enter Tryd.func3, Tryd.ntmps3
  go_wp2_with fail
  refine (rawake_any _ HR.out).mono ?_
  rintro e w0 ⟨rfl, hb⟩
  replace CB := hide (CB.out.below hb)
  replace HR := hide (HR.out.below hb)
  replace B := hide (B.out.trans (hb.mono B.out.size))
  clear hb
  have L0 := hide (ld_rconf CB.out)
  have NB := hide (rnew_bad h st k oa oo hb0 hm w0 HR.out)
  go_wp2_with (first | (focus ((with_reducible refine wpList_load_w ?_ 33 (.tmp 2) ?_ ?_ L0.out ?_); rotate_left; rfl; rfl; rotate_left; rfl)))
  refine NB.out.mono ?_
  rintro e w2 ⟨rfl, hb⟩
  replace B := hide (B.out.trans (hb.mono B.out.size))
  clear hb NB L0 CB
  have n1 := rn_n w2
  go_wp2
  go_ret
  exact ⟨rfl, B.out⟩

set_option maxHeartbeats 2000000 in
set_option maxRecDepth 100000 in
theorem once_own (h : Int) (st : Rf) (k oa oo : Int) (v : Value) (l : List An) (hb0 : 0 ≤ st.bt) (hm : mayC h st 2 k = true) (ho : okO oa oo = false) (w : World) (hR : Ranks w) (hO : AnSl w v l) : Calls Tryd.prog 3 #[.agg (rcL h st k oa oo).toArray, v] w fun e w' => e = .returned (.bool true) ∧ Below w.heap.size w w' := by
  obtain ⟨va, vc, rfl, -, -⟩ := hO.shape
  clear hO
  generalize hn : l.length = n at *
  clear hn
  have b1 := gb1 w (.cells (rcL h st k oa oo).toArray 33)
  have CB := hide (IsB.new w (rcL h st k oa oo).toArray 33)
  have HR := hide (hR.below b1)
  have B := hide b1
  clear b1 hR
  go_enter Tryd.func3, Tryd.ntmps3
  go_wp2_with fail
  refine (rawake_any _ HR.out).mono ?_
  rintro e w0 ⟨rfl, hb⟩
  replace CB := hide (CB.out.below hb)
  replace HR := hide (HR.out.below hb)
  replace B := hide (B.out.trans (hb.mono B.out.size))
  clear hb
  have L0 := hide (ld_rconf CB.out)
  have NB := hide (rnew_own h st k oa oo hb0 hm ho w0 HR.out)
  go_wp2_with (first | (focus ((with_reducible refine wpList_load_w ?_ 33 (.tmp 2) ?_ ?_ L0.out ?_); rotate_left; rfl; rfl; rotate_left; rfl)))
  refine NB.out.mono ?_
  rintro e w2 ⟨rfl, hb⟩
  replace B := hide (B.out.trans (hb.mono B.out.size))
  clear hb NB L0 CB
  have n1 := rn_n w2
  go_wp2
  go_ret
  exact ⟨rfl, B.out⟩

set_option maxHeartbeats 2000000 in
set_option maxRecDepth 100000 in
theorem once_good (h : Int) (st : Rf) (k oa oo : Int) (v : Value) (l : List An) (hb0 : 0 ≤ st.bt) (hi : (Lit.int .i64 st.id).wf = true) (hl : ∀ q ∈ l, AOk q ∧ ABt q) (hm : mayC h st 2 k = true) (ho : okO oa oo = true) (w : World) (hg0 : (0 : Nat) < w.heap.size) (hR : Ranks w) (hO : AnSl w v l) : Calls Tryd.prog 3 #[.agg (rcL h st k oa oo).toArray, v] w fun e w' => e = .returned (.bool true) ∧ Below w.heap.size w w' := by
  obtain ⟨va, vc, rfl, -, -⟩ := hO.shape
  have mixed : Tryd.prog.follows .mixedOrders = true := by kernel_rfl
  have OP := hide hO
  have hgw := hide hg0
  clear hO hg0
  have b1 := gb1 w (.cells (rcL h st k oa oo).toArray 33)
  have CB := hide (IsB.new w (rcL h st k oa oo).toArray 33)
  have HR := hide (hR.below b1)
  have B := hide b1
  clear b1 hR
  go_enter Tryd.func3, Tryd.ntmps3
  go_wp2_with fail
  refine (rawake_any _ HR.out).mono ?_
  rintro e w0 ⟨rfl, hb⟩
  replace CB := hide (CB.out.below hb)
  replace HR := hide (HR.out.below hb)
  replace B := hide (B.out.trans (hb.mono B.out.size))
  clear hb
  have L0 := hide (ld_rconf CB.out)
  have NB := hide (rv_new h st k oa oo hb0 hm ho w0 HR.out)
  have hti := hide (TI.new h st k oa oo (unewS 0 0 zr 0 0) hm hb0 hi)
  generalize hn : l.length = n at *
  replace hn := hide hn
  replace hl := hide hl
  clear hm ho hi
  go_wp2_with (first | (focus ((with_reducible refine wpList_load_w ?_ 33 (.tmp 2) ?_ ?_ L0.out ?_); rotate_left; rfl; rfl; rotate_left; rfl)))
  refine NB.out.mono ?_
  rintro e w2 ⟨b, rfl, X0, hb⟩
  obtain ⟨base, hbase⟩ : ∃ base, w0.heap.size = base := ⟨_, rfl⟩
  rw [hbase] at X0
  have hwb : Hid (w.heap.size ≤ base) := hbase ▸ B.out.size
  have hg : Hid ((0 : Nat) < base) := Nat.lt_of_lt_of_le hgw.out hwb.out
  replace CB := hide (CB.out.below hb)
  replace HR := hide (HR.out.below hb)
  replace B := hide (B.out.trans (hb.mono B.out.size))
  have X := hide X0
  clear hb NB L0 X0 hbase
  go_wp2
  go_loopw [7, 8, 9, 10] (fun v7 v8 v9 v10 wr => ∃ (j : Nat) (T : Rv) (mk last : Int) (qa : Option Addr) (qc : Nat), j ≤ n ∧ j ≤ 300 ∧ v10 = .int .i64 (j : Int) ∧ v9 = .slice qa T.held.length qc ∧ v7 = .int .i64 mk ∧ v8 = .int .i64 last ∧ Hid (TI k T mk last) ∧ Hid (RvAt base wr b T) ∧ Hid (Ro base wr (.slice qa T.held.length qc) T.held) ∧ Hid (IsB wr w.heap.size (rcL h st k oa oo).toArray 33) ∧ Hid (Ranks wr) ∧ Hid (Below w.heap.size w wr)) (fun _ _ _ v10 _ => n - (intOf v10).toNat)
  case atStart => exact ⟨0, ⟨newR oa oo, newS h st 2 k, [], unewS 0 0 zr 0 0⟩, 0, 99, none, 0, by omega, by omega, rfl, rfl, rfl, rfl, hti, X, Ro.nil _ _, CB, HR, B⟩
  case round =>
    clear X CB B HR hti
    obtain ⟨j, T, mk, last, qa, qc, hj, hj3, rfl, rfl, rfl, rfl, ti, X, RO, CB, HR, B⟩ := hrel
    by_cases hlt0 : j < n ∧ j < 300
    rotate_left
    · clear RO X CB
      by_cases h300 : j < n
      rotate_left
      · have d1 : decide ((j : Int) < n) = false := by simp; omega
        go_wp2
        go_ret
        exact ⟨rfl, B.out⟩
      · obtain rfl : j = 300 := by omega
        have i1 : ((300 : Nat) : Int) < n := by omega
        have i2 : decide (((300 : Nat) : Int) < n) = true := decide_eq_true i1
        go_wp2
        go_ret
        exact ⟨rfl, B.out⟩
    obtain ⟨i1, i2⟩ := hlt0
    have i3 : (j : Int) < n := by omega
    have i4 : decide ((j : Int) < 300) = true := decide_eq_true (by omega)
    have hjl : j < l.length := by rw [hn.out]; exact i1
    have haj := hide (hl.out l[j] (List.getElem_mem hjl))
    obtain ⟨g0, o, c, ev, OC0, OA0⟩ := OP.out.at3 j hjl
    injection ev with ev el ec
    clear el
    subst ev ec
    have OA := hide OA0
    have OC := hide OC0
    clear OA0 OC0
    generalize l[j] = aj at *
    clear hjl
    obtain ⟨kk, r, q, x, y, tl, hs, htl0, h10, tn⟩ := turn ti.out
    have htl := hide htl0
    have h1 : Hid (T.step.toArray.all (·.oneCell') = true) := by show _ = _; rw [List.all_toArray]; exact List.all_eq_true.2 h10
    clear htl0 h10
    have hln : Hid (T.held.length ≤ 100000) := Nat.le_trans ti.out.held_len (by decide)
    have hl2 : Hid (T.held.length ≤ 1000) := Nat.le_trans ti.out.held_len (by decide)
    have NX := hide (rv_next base b ti.out wr X.out)
    go_wp2_with fail
    rcases tn with ⟨kk, r, q, x, hk0, hh0, hw0, ht⟩ | ⟨r, x, ht⟩ | ⟨r, x, h0, h20, hK0, ht⟩ | ⟨r, x, hm0, ht⟩ | ⟨r, q, x, hq0, hm0, ht⟩ | ⟨r, x, hm0, hx0, ht⟩ | ⟨r, x, ht⟩
    · have hk := hide hk0
      have hh := hide hh0
      have hw := hide hw0
      have tt := hide (ht aj haj.out.1 haj.out.2)
      clear hk0 hh0 hw0 ht
      rw [hs] at NX h1
      refine NX.out.mono ?_
      rintro e w1 ⟨rfl, hb⟩
      replace X := hide (X.out.below hb)
      replace RO := hide (RO.out.below hb)
      replace CB := hide (CB.out.below hb)
      replace HR := hide (HR.out.below hb)
      replace B := hide (B.out.trans (hb.mono B.out.size))
      clear hb NX
      have b3 := gb1 w1 (.cells (hdL kk r q x y ++ tl).toArray 50)
      have SN := hide (store_step w1 (hdL kk r q x y ++ tl).toArray (by simp [htl.out, hdL]) h1.out)
      have TB := hide (IsB.new w1 (hdL kk r q x y ++ tl).toArray 50)
      replace X := hide (X.out.below b3)
      replace RO := hide (RO.out.below b3)
      replace CB := hide (CB.out.below b3)
      replace HR := hide (HR.out.below b3)
      replace B := hide (B.out.trans (b3.mono B.out.size))
      clear b3 h1
      obtain ⟨t0, t6, t7, t2, t1⟩ := step_ld TB.out
      have hz0 : T.held.length = 0 := by rw [hh.out]; rfl
      rw [hz0]
      have dk : decide (kk = 1) = false := decide_eq_false hk.out
      have dk2 : (kk == 1) = false := by simpa using hk.out
      have dk3 : (kk != 1) = true := by simpa using hk.out
      have dk4 : ¬kk = 1 := hk.out
      clear t2 t1 t7
      go_wp2_with (first | (focus ((with_reducible refine wpList_store_w ?_ 50 (.tmp 11) (.tmp 34) ?_ ?_ ?_ SN.out ?_); rotate_left; rfl; rfl; rfl; rotate_left; rfl)))
      refine (rv_wake base b T _ X.out).mono ?_
      rintro e w4 ⟨rfl, X4, F4⟩
      have sz4 := X.out.sz
      have BB4 := F4.below sz4.1
      replace RO := hide (F4.ro RO.out)
      replace CB := hide (F4.blk CB.out (by decide) (by decide) (by decide))
      replace HR := hide (Ranks.base HR.out hg.out BB4)
      replace B := hide (B.out.trans (BB4.mono hwb.out))
      replace X := hide X4
      clear X4 F4 BB4 sz4 TB SN t0 t6
      have LAA := hide (OA.out _ B.out)
      have hbw := hide X.out.sz.1
      rw [hh.out] at RO
      go_wp2_with (first | (focus ((with_reducible refine wpList_load_w ?_ 55 (.tmp 46) ?_ ?_ LAA.out ?_); rotate_left; rfl; rfl; rotate_left; rfl)))
      clear LAA
      refine (rv_tell base b hw.out aj haj.out.1 _ HR.out hbw.out X.out).mono ?_
      rintro e w9 ⟨rfl, X9, F9⟩
      obtain ⟨ti2, hh⟩ := tt.out
      have BB9 := F9.below hbw.out
      replace RO := hide (F9.ro RO.out)
      replace CB := hide (F9.blk CB.out (by decide) (by decide) (by decide))
      replace HR := hide (Ranks.base HR.out hg.out BB9)
      replace B := hide (B.out.trans (BB9.mono hwb.out))
      replace X := hide X9
      replace ti := hide ti2
      clear X9 F9 BB9 ti2 tt
      go_wp2
      exact ⟨⟨j + 1, T.wake.tell aj, mk, last, qa, qc, by omega, by omega, by simp, by rw [hh]; try simp, rfl, rfl, ti, X, by rw [hh]; exact RO, CB, HR, B⟩, by simp [intOf]; omega⟩
    · have tt := hide (ht aj haj.out.1 haj.out.2)
      clear ht
      rw [hs] at NX h1
      refine NX.out.mono ?_
      rintro e w1 ⟨rfl, hb⟩
      replace X := hide (X.out.below hb)
      replace RO := hide (RO.out.below hb)
      replace CB := hide (CB.out.below hb)
      replace HR := hide (HR.out.below hb)
      replace B := hide (B.out.trans (hb.mono B.out.size))
      clear hb NX
      have b3 := gb1 w1 (.cells (hdL 1 r 1 x y ++ tl).toArray 50)
      have SN := hide (store_step w1 (hdL 1 r 1 x y ++ tl).toArray (by simp [htl.out, hdL]) h1.out)
      have TB := hide (IsB.new w1 (hdL 1 r 1 x y ++ tl).toArray 50)
      replace X := hide (X.out.below b3)
      replace RO := hide (RO.out.below b3)
      replace CB := hide (CB.out.below b3)
      replace HR := hide (HR.out.below b3)
      replace B := hide (B.out.trans (b3.mono B.out.size))
      clear b3 h1
      obtain ⟨t0, t6, t7, t2, t1⟩ := step_ld TB.out
      clear t2 t1 t7
      have LAA := hide (OA.out _ B.out)
      have hbw := hide X.out.sz.1
      go_wp2_with (first | (focus ((with_reducible refine wpList_store_w ?_ 50 (.tmp 11) (.tmp 34) ?_ ?_ ?_ SN.out ?_); rotate_left; rfl; rfl; rfl; rotate_left; rfl)) | (focus ((with_reducible refine wpList_load_w ?_ 55 (.tmp 118) ?_ ?_ LAA.out ?_); rotate_left; rfl; rfl; rotate_left; rfl)))
      clear LAA TB SN t0 t6
      refine (rv_tell base b ti.out aj haj.out.1 _ HR.out hbw.out X.out).mono ?_
      rintro e w9 ⟨rfl, X9, F9⟩
      obtain ⟨ti2, hh⟩ := tt.out
      have BB9 := F9.below hbw.out
      replace RO := hide (F9.ro RO.out)
      replace CB := hide (F9.blk CB.out (by decide) (by decide) (by decide))
      replace HR := hide (Ranks.base HR.out hg.out BB9)
      replace B := hide (B.out.trans (BB9.mono hwb.out))
      replace X := hide X9
      replace ti := hide ti2
      clear X9 F9 BB9 ti2 tt
      go_wp2
      exact ⟨⟨j + 1, T.tell aj, mk, last, qa, qc, by omega, by omega, by simp, by rw [hh], rfl, rfl, ti, X, by rw [hh]; exact RO, CB, HR, B⟩, by simp [intOf]; omega⟩
    · have h2 := hide h20
      have hKey := hide hK0
      have tt := hide (ht aj haj.out.1 haj.out.2)
      clear h20 hK0 ht
      rw [hs] at NX h1
      refine NX.out.mono ?_
      rintro e w1 ⟨rfl, hb⟩
      replace X := hide (X.out.below hb)
      replace RO := hide (RO.out.below hb)
      replace CB := hide (CB.out.below hb)
      replace HR := hide (HR.out.below hb)
      replace B := hide (B.out.trans (hb.mono B.out.size))
      clear hb NX
      have b3 := gb1 w1 (.cells (hdL 1 r 9 x y ++ tl).toArray 50)
      have SN := hide (store_step w1 (hdL 1 r 9 x y ++ tl).toArray (by simp [htl.out, hdL]) h1.out)
      have TB := hide (IsB.new w1 (hdL 1 r 9 x y ++ tl).toArray 50)
      replace X := hide (X.out.below b3)
      replace RO := hide (RO.out.below b3)
      replace CB := hide (CB.out.below b3)
      replace HR := hide (HR.out.below b3)
      replace B := hide (B.out.trans (b3.mono B.out.size))
      clear b3 h1
      obtain ⟨t0, t6, t7, t2, t1⟩ := step_ld TB.out
      clear t1 t7 t2
      subst h0
      go_wp2_with (first | (focus ((with_reducible refine wpList_store_w ?_ 50 (.tmp 11) (.tmp 34) ?_ ?_ ?_ SN.out ?_); rotate_left; rfl; rfl; rfl; rotate_left; rfl)))
      have dr := (Below.refl (w1.alloc (.cells (hdL 1 r 9 x y ++ tl).toArray 50)).heap.size (w1.alloc (.cells (hdL 1 r 9 x y ++ tl).toArray 50))).drew
      have TD := hide (TB.out.below dr)
      replace X := hide (X.out.below dr)
      replace RO := hide (RO.out.below dr)
      replace CB := hide (CB.out.below dr)
      replace HR := hide (HR.out.below dr)
      replace B := hide (B.out.trans (dr.mono B.out.size))
      clear dr TB t0 t6 SN
      refine regionL 11 (fun w' => IsB w' w1.heap.size (hdL 1 r 9 x y ++ tl).toArray 50 ∧ IsB w' w.heap.size (rcL h st k oa oo).toArray 33) mixed ⟨TD.out, CB.out⟩ (fun hHeld => ?_)
      generalize (w1.alloc (.cells (hdL 1 r 9 x y ++ tl).toArray 50)).drew = WD at *
      refine pickA (v := ?_) 0 (some 59) rfl rfl (by kernel_rfl) (by kernel_rfl) (by kernel_rfl) (by decide) (fun _ _ _ h => h) (by rfl) ?_ (by assumption) ?_
      rotate_left
      · intro w'
        go_simp
        try with_reducible rfl
      try simp only [Act.put, List.setIfInBounds_toArray, List.set_cons_zero, List.set_cons_succ]
      refine pickA (v := .bool false) 1 (some 60) rfl rfl (by kernel_rfl) (by kernel_rfl) (by kernel_rfl) (by decide) (fun _ _ _ h => h) (by rfl) ?_ (by assumption) ?_
      · intro w'
        go_simp
        try rfl
      try simp only [Act.put, List.setIfInBounds_toArray, List.set_cons_zero, List.set_cons_succ]
      refine pickA (v := ?_) 2 (some 61) rfl rfl (by kernel_rfl) (by kernel_rfl) (by kernel_rfl) (by decide) (fun _ _ _ h => h) (by rfl) ?_ (by assumption) ?_
      rotate_left
      · intro w'
        go_simp
        try with_reducible rfl
      try simp only [Act.put, List.setIfInBounds_toArray, List.set_cons_zero, List.set_cons_succ]
      refine pickA (v := ?_) 3 (some 62) rfl rfl (by kernel_rfl) (by kernel_rfl) (by kernel_rfl) (by decide) (fun _ _ _ h => h) (by rfl) ?_ (by assumption) ?_
      rotate_left
      · intro w'
        go_simp
        try with_reducible rfl
      try simp only [Act.put, List.setIfInBounds_toArray, List.set_cons_zero, List.set_cons_succ]
      refine pickA (v := ?_) 4 (some 63) rfl rfl (by kernel_rfl) (by kernel_rfl) (by kernel_rfl) (by decide) (fun _ _ _ h => h) (by rfl) ?_ (by assumption) ?_
      rotate_left
      · intro w'
        go_simp
        try with_reducible rfl
      try simp only [Act.put, List.setIfInBounds_toArray, List.set_cons_zero, List.set_cons_succ]
      refine pickT (v := (.agg #[.int .i64 (2), .int .u64 (k)])) 5 (some 64) rfl rfl (by kernel_rfl) (by kernel_rfl) (by kernel_rfl) (by decide) (by kernel_rfl) (by kernel_rfl) (by kernel_rfl) (fun _ _ _ h => h) (by rfl) ?_ (by assumption) ?_
      · intro w' hSw
        obtain ⟨q0, q1⟩ := hSw
        have zz := (step_ld q0).2.2.2.1
        rw [h2.out, hKey.out] at zz
        exact exec_load rfl rfl zz
      try simp only [Act.put, List.setIfInBounds_toArray, List.set_cons_zero, List.set_cons_succ]
      refine pickA (v := ?_) 6 (some 65) rfl rfl (by kernel_rfl) (by kernel_rfl) (by kernel_rfl) (by decide) (fun _ _ _ h => h) (by rfl) ?_ (by assumption) ?_
      rotate_left
      · intro w'
        go_simp
        try with_reducible rfl
      try simp only [Act.put, List.setIfInBounds_toArray, List.set_cons_zero, List.set_cons_succ]
      refine pickT (v := .int .u64 k) 7 (some 66) rfl rfl (by kernel_rfl) (by kernel_rfl) (by kernel_rfl) (by decide) (by kernel_rfl) (by kernel_rfl) (by kernel_rfl) (fun _ _ _ h => h) (by rfl) ?_ (by assumption) ?_
      · intro w' hSw
        obtain ⟨q0, q1⟩ := hSw
        have yy : w'.cell? ⟨w.heap.size, 6, none⟩ = some (.int .u64 k) := q1.cell 6
        go_simp
      try simp only [Act.put, List.setIfInBounds_toArray, List.set_cons_zero, List.set_cons_succ]
      refine oneL (i := 8) (by kernel_rfl) rfl (fun K hK => ?_)
      go_simp
      refine (at2_any k WD).mono ?_
      rintro e' w3 ⟨rfl, hb3⟩
      replace TD := hide (TD.out.below hb3)
      replace X := hide (X.out.below hb3)
      replace RO := hide (RO.out.below hb3)
      replace CB := hide (CB.out.below hb3)
      replace HR := hide (HR.out.below hb3)
      replace B := hide (B.out.trans (hb3.mono B.out.size))
      clear hb3
      refine hK.out _ _ ?_ ?_
      · exact ⟨TD.out, CB.out⟩
      clear hK K
      try simp only [Act.put, List.setIfInBounds_toArray, List.set_cons_zero, List.set_cons_succ]
      clear hHeld
      have hHeld : (fun w' => IsB w' w1.heap.size (hdL 1 r 9 x y ++ tl).toArray 50 ∧ IsB w' w.heap.size (rcL h st k oa oo).toArray 33) w3 := ⟨TD.out, CB.out⟩
      refine pickA (v := .bool false) 9 (some 68) rfl rfl (by kernel_rfl) (by kernel_rfl) (by kernel_rfl) (by decide) (fun _ _ _ h => h) (by rfl) ?_ (by assumption) ?_
      · intro w'
        exact exec_bin kguard2 rfl rfl rfl (nek0 2 k _)
      try simp only [Act.put, List.setIfInBounds_toArray, List.set_cons_zero, List.set_cons_succ]
      refine pickA (v := ?_) 10 (some 69) rfl rfl (by kernel_rfl) (by kernel_rfl) (by kernel_rfl) (by decide) (fun _ _ _ h => h) (by rfl) ?_ (by assumption) ?_
      rotate_left
      · intro w'
        go_simp
        try with_reducible rfl
      try simp only [Act.put, List.setIfInBounds_toArray, List.set_cons_zero, List.set_cons_succ]
      refine doneL (by kernel_rfl) ?_ _
      clear hHeld
      have LAA := hide (OA.out _ B.out)
      have hbw := hide X.out.sz.1
      go_wp2_with (first | (focus ((with_reducible refine wpList_load_w ?_ 55 (.tmp 118) ?_ ?_ LAA.out ?_); rotate_left; rfl; rfl; rotate_left; rfl)))
      clear LAA TD
      refine (rv_tell base b ti.out aj haj.out.1 _ HR.out hbw.out X.out).mono ?_
      rintro e w9 ⟨rfl, X9, F9⟩
      obtain ⟨ti2, hh⟩ := tt.out
      have BB9 := F9.below hbw.out
      replace RO := hide (F9.ro RO.out)
      replace CB := hide (F9.blk CB.out (by decide) (by decide) (by decide))
      replace HR := hide (Ranks.base HR.out hg.out BB9)
      replace B := hide (B.out.trans (BB9.mono hwb.out))
      replace X := hide X9
      replace ti := hide ti2
      clear X9 F9 BB9 ti2 tt
      go_wp2
      exact ⟨⟨j + 1, T.tell aj, 1, last, qa, qc, by omega, by omega, by simp, by rw [hh], rfl, rfl, ti, X, by rw [hh]; exact RO, CB, HR, B⟩, by simp [intOf]; omega⟩
    · have hm := hide hm0
      have tt := hide (ht aj haj.out.1 haj.out.2)
      clear hm0 ht
      rw [hs] at NX h1
      refine NX.out.mono ?_
      rintro e w1 ⟨rfl, hb⟩
      replace X := hide (X.out.below hb)
      replace RO := hide (RO.out.below hb)
      replace CB := hide (CB.out.below hb)
      replace HR := hide (HR.out.below hb)
      replace B := hide (B.out.trans (hb.mono B.out.size))
      clear hb NX
      have b3 := gb1 w1 (.cells (hdL 1 r 3 x y ++ tl).toArray 50)
      have SN := hide (store_step w1 (hdL 1 r 3 x y ++ tl).toArray (by simp [htl.out, hdL]) h1.out)
      have TB := hide (IsB.new w1 (hdL 1 r 3 x y ++ tl).toArray 50)
      replace X := hide (X.out.below b3)
      replace RO := hide (RO.out.below b3)
      replace CB := hide (CB.out.below b3)
      replace HR := hide (HR.out.below b3)
      replace B := hide (B.out.trans (b3.mono B.out.size))
      clear b3 h1
      obtain ⟨t0, t6, t7, t2, t1⟩ := step_ld TB.out
      clear t2 t7
      have hbw := hide X.out.sz.1
      go_wp2_with (first | (focus ((with_reducible refine wpList_store_w ?_ 50 (.tmp 11) (.tmp 34) ?_ ?_ ?_ SN.out ?_); rotate_left; rfl; rfl; rfl; rotate_left; rfl)))
      refine (rv_marked base b T _ X.out).mono ?_
      rw [hm.out]
      rintro e w4 ⟨rfl, hw⟩
      rw [hw]
      clear hw
      clear SN
      generalize (w1.alloc (.cells (hdL 1 r 3 x y ++ tl).toArray 50)) = W2 at *
      generalize w1.heap.size = TP at *
      have y0 := OC.out _ B.out
      by_cases hk1 : aj.k = 1
      · rw [hk1] at y0
        have hml : T.held.length ≤ 100000 := hln.out
        obtain ⟨ra, rc, wA, hap, hRo, hKp⟩ := RO.out.push r hml hbw.out 40
        have HAP : Hid (_) := hap
        have nN := RO.out.new
        have BBA := hKp.to_below hbw.out (fun k hk => nN k (by simpa using hk))
        have nX := X.out.sz
        have XA : Hid (RvAt base wA b T) := RvAt.kpr X.out hKp (fun k hk => (RO.out.row.lt k (by simpa using hk)).2)
        have nC := RO.out.ne CB.out (by decide)
        have CA := hide (CB.out.kp hKp (fun hm => nC _ hm rfl))
        have HRA := hide (Ranks.base HR.out hg.out BBA)
        have BA := hide (B.out.trans (BBA.mono hwb.out))
        have ROA : Hid (Ro base wA (.slice ra (T.held ++ [r]).length rc) (T.held ++ [r])) := by rw [List.length_append]; exact hRo
        have LAA := hide (OA.out _ BA.out)
        clear hap hRo hKp nN BBA nX nC hml
        have LT := hide t1
        generalize hmn : T.held.length = mn at *
        replace hmn := hide hmn
        go_wp2_with (first | (focus ((with_reducible refine wpList_load_w ?_ 29 (.tmp 111) ?_ ?_ LT.out ?_); rotate_left; rfl; rfl; rotate_left; rfl)) | (at_builtin; refine wpList_append_eq rfl (.tmp 110) (.tmp 113) 40 rfl _ _ (.slice ra (mn + 1) rc) wA rfl rfl HAP.out ?_) | (focus ((with_reducible refine wpList_load_w ?_ 55 (.tmp 118) ?_ ?_ LAA.out ?_); rotate_left; rfl; rfl; rotate_left; rfl)))
        clear X CB RO B HR HAP LT y0 t6 t1 TB LAA hbw
        have X := XA
        have CB := CA
        have RO := ROA
        have B := BA
        have HR := HRA
        have hbw := hide X.out.sz.1
        clear XA CA ROA BA HRA
        rw [if_pos hk1] at tt
        refine (rv_tell base b ti.out aj haj.out.1 _ HR.out hbw.out X.out).mono ?_
        rintro e w9 ⟨rfl, X9, F9⟩
        obtain ⟨ti2, hh⟩ := tt.out
        have BB9 := F9.below hbw.out
        replace RO := hide (F9.ro RO.out)
        replace CB := hide (F9.blk CB.out (by decide) (by decide) (by decide))
        replace HR := hide (Ranks.base HR.out hg.out BB9)
        replace B := hide (B.out.trans (BB9.mono hwb.out))
        replace X := hide X9
        replace ti := hide ti2
        clear X9 F9 BB9 ti2 tt
        go_wp2
        exact ⟨⟨j + 1, T.tell aj, mk, last, ra, rc, by omega, by omega, by simp, by rw [hh]; simp [hmn.out], rfl, rfl, ti, X, by rw [hh]; exact RO, CB, HR, B⟩, by simp [intOf]; omega⟩
      · have k1 : decide (aj.k = 1) = false := decide_eq_false hk1
        have LAA := hide (OA.out _ B.out)
        go_wp2_with (first | (focus ((with_reducible refine wpList_load_w ?_ 55 (.tmp 118) ?_ ?_ LAA.out ?_); rotate_left; rfl; rfl; rotate_left; rfl)))
        clear LAA TB t0 t6 y0 t1
        rw [if_neg hk1] at tt
        refine (rv_tell base b ti.out aj haj.out.1 _ HR.out hbw.out X.out).mono ?_
        rintro e w9 ⟨rfl, X9, F9⟩
        obtain ⟨ti2, hh⟩ := tt.out
        have BB9 := F9.below hbw.out
        replace RO := hide (F9.ro RO.out)
        replace CB := hide (F9.blk CB.out (by decide) (by decide) (by decide))
        replace HR := hide (Ranks.base HR.out hg.out BB9)
        replace B := hide (B.out.trans (BB9.mono hwb.out))
        replace X := hide X9
        replace ti := hide ti2
        clear X9 F9 BB9 ti2 tt
        go_wp2
        exact ⟨⟨j + 1, T.tell aj, mk, last, qa, qc, by omega, by omega, by simp, by rw [hh], rfl, rfl, ti, X, by rw [hh]; exact RO, CB, HR, B⟩, by simp [intOf]; omega⟩
    · have hm := hide hm0
      have tt := hide (ht aj haj.out.1 haj.out.2)
      clear hm0 ht
      rcases hq0 with rfl | rfl
      · rw [hs] at NX h1
        refine NX.out.mono ?_
        rintro e w1 ⟨rfl, hb⟩
        replace X := hide (X.out.below hb)
        replace RO := hide (RO.out.below hb)
        replace CB := hide (CB.out.below hb)
        replace HR := hide (HR.out.below hb)
        replace B := hide (B.out.trans (hb.mono B.out.size))
        clear hb NX
        have b3 := gb1 w1 (.cells (hdL 1 r 5 x y ++ tl).toArray 50)
        have SN := hide (store_step w1 (hdL 1 r 5 x y ++ tl).toArray (by simp [htl.out, hdL]) h1.out)
        have TB := hide (IsB.new w1 (hdL 1 r 5 x y ++ tl).toArray 50)
        replace X := hide (X.out.below b3)
        replace RO := hide (RO.out.below b3)
        replace CB := hide (CB.out.below b3)
        replace HR := hide (HR.out.below b3)
        replace B := hide (B.out.trans (b3.mono B.out.size))
        clear b3 h1
        obtain ⟨t0, t6, t7, t2, t1⟩ := step_ld TB.out
        clear t2 t1 t7
        have LAA := hide (OA.out _ B.out)
        have hbw := hide X.out.sz.1
        go_wp2_with (first | (focus ((with_reducible refine wpList_store_w ?_ 50 (.tmp 11) (.tmp 34) ?_ ?_ ?_ SN.out ?_); rotate_left; rfl; rfl; rfl; rotate_left; rfl)))
        refine (rv_marked base b T _ X.out).mono ?_
        rw [hm.out]
        rintro e w4 ⟨rfl, hw⟩
        rw [hw]
        clear hw
        go_wp2_with (first | (focus ((with_reducible refine wpList_load_w ?_ 55 (.tmp 118) ?_ ?_ LAA.out ?_); rotate_left; rfl; rfl; rotate_left; rfl)))
        clear LAA TB SN t0 t6
        refine (rv_tell base b ti.out aj haj.out.1 _ HR.out hbw.out X.out).mono ?_
        rintro e w9 ⟨rfl, X9, F9⟩
        obtain ⟨ti2, hh⟩ := tt.out
        have BB9 := F9.below hbw.out
        replace RO := hide (F9.ro RO.out)
        replace CB := hide (F9.blk CB.out (by decide) (by decide) (by decide))
        replace HR := hide (Ranks.base HR.out hg.out BB9)
        replace B := hide (B.out.trans (BB9.mono hwb.out))
        replace X := hide X9
        replace ti := hide ti2
        clear X9 F9 BB9 ti2 tt
        go_wp2
        exact ⟨⟨j + 1, T.tell aj, mk, last, qa, qc, by omega, by omega, by simp, by rw [hh], rfl, rfl, ti, X, by rw [hh]; exact RO, CB, HR, B⟩, by simp [intOf]; omega⟩
      · rw [hs] at NX h1
        refine NX.out.mono ?_
        rintro e w1 ⟨rfl, hb⟩
        replace X := hide (X.out.below hb)
        replace RO := hide (RO.out.below hb)
        replace CB := hide (CB.out.below hb)
        replace HR := hide (HR.out.below hb)
        replace B := hide (B.out.trans (hb.mono B.out.size))
        clear hb NX
        have b3 := gb1 w1 (.cells (hdL 1 r 6 x y ++ tl).toArray 50)
        have SN := hide (store_step w1 (hdL 1 r 6 x y ++ tl).toArray (by simp [htl.out, hdL]) h1.out)
        have TB := hide (IsB.new w1 (hdL 1 r 6 x y ++ tl).toArray 50)
        replace X := hide (X.out.below b3)
        replace RO := hide (RO.out.below b3)
        replace CB := hide (CB.out.below b3)
        replace HR := hide (HR.out.below b3)
        replace B := hide (B.out.trans (b3.mono B.out.size))
        clear b3 h1
        obtain ⟨t0, t6, t7, t2, t1⟩ := step_ld TB.out
        clear t2 t1 t7
        have LAA := hide (OA.out _ B.out)
        have hbw := hide X.out.sz.1
        go_wp2_with (first | (focus ((with_reducible refine wpList_store_w ?_ 50 (.tmp 11) (.tmp 34) ?_ ?_ ?_ SN.out ?_); rotate_left; rfl; rfl; rfl; rotate_left; rfl)))
        refine (rv_marked base b T _ X.out).mono ?_
        rw [hm.out]
        rintro e w4 ⟨rfl, hw⟩
        rw [hw]
        clear hw
        go_wp2_with (first | (focus ((with_reducible refine wpList_load_w ?_ 55 (.tmp 118) ?_ ?_ LAA.out ?_); rotate_left; rfl; rfl; rotate_left; rfl)))
        clear LAA TB SN t0 t6
        refine (rv_tell base b ti.out aj haj.out.1 _ HR.out hbw.out X.out).mono ?_
        rintro e w9 ⟨rfl, X9, F9⟩
        obtain ⟨ti2, hh⟩ := tt.out
        have BB9 := F9.below hbw.out
        replace RO := hide (F9.ro RO.out)
        replace CB := hide (F9.blk CB.out (by decide) (by decide) (by decide))
        replace HR := hide (Ranks.base HR.out hg.out BB9)
        replace B := hide (B.out.trans (BB9.mono hwb.out))
        replace X := hide X9
        replace ti := hide ti2
        clear X9 F9 BB9 ti2 tt
        go_wp2
        exact ⟨⟨j + 1, T.tell aj, mk, last, qa, qc, by omega, by omega, by simp, by rw [hh], rfl, rfl, ti, X, by rw [hh]; exact RO, CB, HR, B⟩, by simp [intOf]; omega⟩
    · have hm := hide hm0
      have hx := hide hx0
      have tt := hide (ht aj haj.out.1 haj.out.2)
      clear hm0 hx0 ht
      rw [hs] at NX h1
      refine NX.out.mono ?_
      rintro e w1 ⟨rfl, hb⟩
      replace X := hide (X.out.below hb)
      replace RO := hide (RO.out.below hb)
      replace CB := hide (CB.out.below hb)
      replace HR := hide (HR.out.below hb)
      replace B := hide (B.out.trans (hb.mono B.out.size))
      clear hb NX
      have b3 := gb1 w1 (.cells (hdL 1 r 8 x y ++ tl).toArray 50)
      have SN := hide (store_step w1 (hdL 1 r 8 x y ++ tl).toArray (by simp [htl.out, hdL]) h1.out)
      have TB := hide (IsB.new w1 (hdL 1 r 8 x y ++ tl).toArray 50)
      replace X := hide (X.out.below b3)
      replace RO := hide (RO.out.below b3)
      replace CB := hide (CB.out.below b3)
      replace HR := hide (HR.out.below b3)
      replace B := hide (B.out.trans (b3.mono B.out.size))
      clear b3 h1
      obtain ⟨t0, t6, t7, t2, t1⟩ := step_ld TB.out
      clear t2
      have hbw := hide X.out.sz.1
      have LT := hide t1
      have dl : decide (last < x) = false := decide_eq_false (by have := hx.out; omega)
      go_wp2_with (first | (focus ((with_reducible refine wpList_store_w ?_ 50 (.tmp 11) (.tmp 34) ?_ ?_ ?_ SN.out ?_); rotate_left; rfl; rfl; rfl; rotate_left; rfl)))
      refine (rv_marked base b T _ X.out).mono ?_
      rw [hm.out]
      rintro e w4 ⟨rfl, hw⟩
      rw [hw]
      clear hw
      go_wp2_with (first | (focus ((with_reducible refine wpList_load_w ?_ 29 (.tmp 90) ?_ ?_ LT.out ?_); rotate_left; rfl; rfl; rotate_left; rfl)))
      have hml : T.held.length ≤ 1000 := hl2.out
      refine (drop_any _ T.held hml r _ RO.out.row).mono ?_
      rintro e w5 ⟨v5, rfl, RO5, hb⟩
      obtain ⟨ra, rc, ev5, -, -⟩ := RO5.shape
      subst ev5
      have RO6 : Hid (Ro base w5 _ _) := ⟨RO5.row, fun k hk => Nat.le_trans hbw.out (RO5.new k hk)⟩
      replace X := hide (X.out.below hb)
      replace CB := hide (CB.out.below hb)
      replace HR := hide (HR.out.below hb)
      replace B := hide (B.out.trans (hb.mono B.out.size))
      clear RO RO5 hb LT TB
      have RO := RO6
      clear RO6 hbw
      have hbw := hide X.out.sz.1
      have LAA := hide (OA.out _ B.out)
      go_wp2_with (first | (focus ((with_reducible refine wpList_load_w ?_ 55 (.tmp 118) ?_ ?_ LAA.out ?_); rotate_left; rfl; rfl; rotate_left; rfl)))
      clear LAA
      clear t0 t6 t7 SN t1
      refine (rv_tell base b ti.out aj haj.out.1 _ HR.out hbw.out X.out).mono ?_
      rintro e w9 ⟨rfl, X9, F9⟩
      obtain ⟨ti2, hh⟩ := tt.out
      have BB9 := F9.below hbw.out
      replace RO := hide (F9.ro RO.out)
      replace CB := hide (F9.blk CB.out (by decide) (by decide) (by decide))
      replace HR := hide (Ranks.base HR.out hg.out BB9)
      replace B := hide (B.out.trans (BB9.mono hwb.out))
      replace X := hide X9
      replace ti := hide ti2
      clear X9 F9 BB9 ti2 tt
      go_wp2
      exact ⟨⟨j + 1, T.tell aj, mk, x, ra, rc, by omega, by omega, by simp, by rw [hh]; try simp, rfl, rfl, ti, X, by rw [hh]; exact RO, CB, HR, B⟩, by simp [intOf]; omega⟩
    · have tt := hide (ht aj haj.out.1 haj.out.2)
      clear ht
      rw [hs] at NX h1
      refine NX.out.mono ?_
      rintro e w1 ⟨rfl, hb⟩
      replace X := hide (X.out.below hb)
      replace RO := hide (RO.out.below hb)
      replace CB := hide (CB.out.below hb)
      replace HR := hide (HR.out.below hb)
      replace B := hide (B.out.trans (hb.mono B.out.size))
      clear hb NX
      have b3 := gb1 w1 (.cells (hdL 1 r 4 x y ++ tl).toArray 50)
      have SN := hide (store_step w1 (hdL 1 r 4 x y ++ tl).toArray (by simp [htl.out, hdL]) h1.out)
      have TB := hide (IsB.new w1 (hdL 1 r 4 x y ++ tl).toArray 50)
      replace X := hide (X.out.below b3)
      replace RO := hide (RO.out.below b3)
      replace CB := hide (CB.out.below b3)
      replace HR := hide (HR.out.below b3)
      replace B := hide (B.out.trans (b3.mono B.out.size))
      clear b3 h1
      obtain ⟨t0, t6, t7, t2, t1⟩ := step_ld TB.out
      clear t2 t7
      have hbw := hide X.out.sz.1
      have LT := hide t1
      go_wp2_with (first | (focus ((with_reducible refine wpList_store_w ?_ 50 (.tmp 11) (.tmp 34) ?_ ?_ ?_ SN.out ?_); rotate_left; rfl; rfl; rfl; rotate_left; rfl)) | (focus ((with_reducible refine wpList_load_w ?_ 29 (.tmp 96) ?_ ?_ LT.out ?_); rotate_left; rfl; rfl; rotate_left; rfl)))
      have hml : T.held.length ≤ 1000 := hl2.out
      refine (drop_any _ T.held hml r _ RO.out.row).mono ?_
      rintro e w5 ⟨v5, rfl, RO5, hb⟩
      obtain ⟨ra, rc, ev5, -, -⟩ := RO5.shape
      subst ev5
      have RO6 : Hid (Ro base w5 _ _) := ⟨RO5.row, fun k hk => Nat.le_trans hbw.out (RO5.new k hk)⟩
      replace X := hide (X.out.below hb)
      replace CB := hide (CB.out.below hb)
      replace HR := hide (HR.out.below hb)
      replace B := hide (B.out.trans (hb.mono B.out.size))
      clear RO RO5 hb LT TB
      have RO := RO6
      clear RO6 hbw
      have hbw := hide X.out.sz.1
      have LAA := hide (OA.out _ B.out)
      go_wp2_with (first | (focus ((with_reducible refine wpList_load_w ?_ 55 (.tmp 118) ?_ ?_ LAA.out ?_); rotate_left; rfl; rfl; rotate_left; rfl)))
      clear LAA
      clear t0 t6 SN t1
      refine (rv_tell base b ti.out aj haj.out.1 _ HR.out hbw.out X.out).mono ?_
      rintro e w9 ⟨rfl, X9, F9⟩
      obtain ⟨ti2, hh⟩ := tt.out
      have BB9 := F9.below hbw.out
      replace RO := hide (F9.ro RO.out)
      replace CB := hide (F9.blk CB.out (by decide) (by decide) (by decide))
      replace HR := hide (Ranks.base HR.out hg.out BB9)
      replace B := hide (B.out.trans (BB9.mono hwb.out))
      replace X := hide X9
      replace ti := hide ti2
      clear X9 F9 BB9 ti2 tt
      go_wp2
      exact ⟨⟨j + 1, T.tell aj, mk, last, ra, rc, by omega, by omega, by simp, by rw [hh]; try simp, rfl, rfl, ti, X, by rw [hh]; exact RO, CB, HR, B⟩, by simp [intOf]; omega⟩

theorem once_any (h : Int) (st : Rf) (k oa oo : Int) (v : Value) (l : List An) (hb0 : 0 ≤ st.bt) (hi : (Lit.int .i64 st.id).wf = true) (hl : ∀ q ∈ l, AOk q ∧ ABt q) (w : World) (hR : Ranks w) (hO : AnSl w v l) : Calls Tryd.prog 3 #[.agg (rcL h st k oa oo).toArray, v] w fun e w' => e = .returned (.bool true) ∧ Below w.heap.size w w' := by
  cases hm : mayC h st 2 k with
  | false => exact once_bad h st k oa oo v l hb0 hm w hR hO
  | true =>
    cases ho : okO oa oo with
    | false => exact once_own h st k oa oo v l hb0 hm ho w hR hO
    | true => exact once_good h st k oa oo v l hb0 hi hl hm ho w (lt_of_cell hR.1) hR hO

end Go.Proofs.YtokehogcenjefaaDoor
