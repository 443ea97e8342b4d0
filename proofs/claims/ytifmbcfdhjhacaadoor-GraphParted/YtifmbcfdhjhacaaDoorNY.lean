/- GraphParted walked. -/
import Derived.Test.YtifmbcfdhjhacaaDoorNYM
import Derived.Test.YtifmbcfdhjhacaaDoorNF
namespace Go.Proofs.YtifmbcfdhjhacaaDoor
open Go.RowKit Go.Maps Go.ChangeMaps

theorem ld_vecp {w : World} {b : Nat} {x y : Int} (I : IsB w b #[.int .i64 x, .int .u64 y] 24) : (Instr.loadAt 24 (.pointer (some ⟨b, 0, none⟩))).run Tryd.prog w = .ok (.agg #[.int .i64 (x), .int .u64 (y)]) w := load_mid (cs := [.int .i64 x, .int .u64 y]) I 0 _ [.int .i64 x, .int .u64 y] _ rfl Tryd.underlying24 rfl (by kernel_rfl)
theorem wrap_nn (x : Int) (h0 : 0 ≤ x) (h1 : x < 9223372036854775808) : IntKind.i64.wrap x = x := by
  have h2 : x % 18446744073709551616 = x := Int.emod_eq_of_lt h0 (by omega)
  have h3 : ¬ (9223372036854775808 ≤ x) := by omega
  simp [IntKind.wrap, IntKind.bits, IntKind.signed, h2, h3]
theorem gb1 (w : World) (o : Obj) : Below w.heap.size w (w.alloc o) := (Below.refl _ _).alloc (Nat.le_refl _) o
theorem eqr_same (r : Rf) (w : World) : (binOp .eql 40 (.agg #[.int .i64 r.id, .int .i64 r.rk, .int .u64 r.kn, .int .i64 r.ln, .int .u64 r.bt]) (.agg #[.int .i64 r.id, .int .i64 r.rk, .int .u64 r.kn, .int .i64 r.ln, .int .u64 r.bt])).run Tryd.prog w = .ok (.bool true) w := by
  rw [eqr]
  simp
theorem eqr_not (r s : Rf) (h : r ≠ s) (w : World) : (binOp .eql 40 (.agg #[.int .i64 r.id, .int .i64 r.rk, .int .u64 r.kn, .int .i64 r.ln, .int .u64 r.bt]) (.agg #[.int .i64 s.id, .int .i64 s.rk, .int .u64 s.kn, .int .i64 s.ln, .int .u64 s.bt])).run Tryd.prog w = .ok (.bool false) w := by
  rw [eqr]
  congr 2
  obtain ⟨a, b, c, d, e⟩ := r
  obtain ⟨a', b', c', d', e'⟩ := s
  simp only [Rf.mk.injEq, ne_eq] at h
  rw [Bool.eq_false_iff]
  intro hc
  simp only [Bool.and_eq_true, beq_iff_eq] at hc
  apply h
  simp_all
theorem join_0 (g : Nat) (x y : Int) (hy : 0 ≤ y) (hr : rt x y = true) (hx : x < 32) (w : World) (I : IsB w g #[.int .i64 x, .int .u64 y, .int .i64 1, .int .u64 0] 24) : Calls Tryd.prog 8 #[.slice (some ⟨g, 0, none⟩) 2 2] w fun e w' => e = .returned (.tuple #[(.agg #[.int .i64 (x + 1), .int .u64 (2 * y)]), .int .i64 0]) ∧ Below w.heap.size w w' := by
  have h := join_bit g x y 0 hy hr hx (Or.inl rfl) w I.lt (I.cell 0) (I.cell 1) (I.cell 2) (I.cell 3)
  rwa [Int.add_zero] at h
theorem join_1 (g : Nat) (x y : Int) (hy : 0 ≤ y) (hr : rt x y = true) (hx : x < 32) (w : World) (I : IsB w g #[.int .i64 x, .int .u64 y, .int .i64 1, .int .u64 1] 24) : Calls Tryd.prog 8 #[.slice (some ⟨g, 0, none⟩) 2 2] w fun e w' => e = .returned (.tuple #[(.agg #[.int .i64 (x + 1), .int .u64 (2 * y + 1)]), .int .i64 0]) ∧ Below w.heap.size w w' :=
  join_bit g x y 1 hy hr hx (Or.inr rfl) w I.lt (I.cell 0) (I.cell 1) (I.cell 2) (I.cell 3)
theorem rt_bit {x y c : Int} (hr : rt x y = true) (hy : 0 ≤ y) (hx : x < 32) (hc : c = 0 ∨ c = 1) : rt (x + 1) (2 * y + c) = true := by
  obtain ⟨n, b, rfl, rfl, hn, hb⟩ := rt_nat hr hy
  have e : (n : Int) + 1 = ((n + 1 : Nat) : Int) := by omega
  have hp : 2 ^ (n + 1) = 2 * 2 ^ n := by rw [Nat.pow_succ, Nat.mul_comm]
  rcases hc with rfl | rfl
  · have e2 : 2 * (b : Int) + 0 = ((2 * b : Nat) : Int) := by omega
    rw [e, e2]
    exact rt_of _ _ (by omega) (by omega)
  · have e2 : 2 * (b : Int) + 1 = ((2 * b + 1 : Nat) : Int) := by omega
    rw [e, e2]
    exact rt_of _ _ (by omega) (by omega)
/-- The members in their order, and the three rows. -/
theorem rows_of {h : Int} {l : List Rf} (hg : okG h l) : ∃ m : List Rf, m.Perm l ∧ m.Pairwise keyLt ∧ ∀ r ∈ m, mayR h r = true := by
  obtain ⟨h1, h2⟩ := sort_ok l [] List.Pairwise.nil (by simpa using hg.2.2)
  refine ⟨l.foldl insL [], by simpa using h2, h1, fun r hr => ?_⟩
  have hm : r ∈ l := (by simpa using h2 : (l.foldl insL []).Perm l).mem_iff.1 hr
  obtain ⟨q, hq, rfl⟩ := List.getElem_of_mem hm
  exact (okG_gd hg q hq).1
theorem flt_sorted {m : List Rf} (h : m.Pairwise keyLt) (k : Int) (u : Vc) : (flt k u m).Pairwise keyLt := h.filter _

set_option maxHeartbeats 8000000 in
set_option maxRecDepth 100000 in
theorem parted_any (h x y : Int) (hy : 0 ≤ y) (v : Value) (l0 : List Rf) (hbt : ∀ r ∈ l0, 0 ≤ r.bt) (w : World) (hR : Ranks w) (hs : RSl w v l0) : Calls Tryd.prog 3 #[.int .i64 h, (.agg #[.int .i64 (x), .int .u64 (y)]), v] w fun e w' => e = .returned (.bool true) ∧ Below w.heap.size w w' := by
  have mixed : Tryd.prog.follows .mixedOrders = true := by kernel_rfl
  obtain ⟨v2, hs2, FW⟩ := few_at v l0 w hs
  have hbt2 : ∀ r ∈ l0.take 12, 0 ≤ r.bt := fun r hr => hbt r (List.mem_of_mem_take hr)
  have hl12 : (l0.take 12).length ≤ 12 := by rw [List.length_take]; omega
  generalize l0.take 12 = l at *
  clear hs hbt
  have b1 := gb1 w (.cells #[.int .i64 x, .int .u64 y] 24)
  have IV := hide (IsB.new w #[.int .i64 x, .int .u64 y] 24)
  have HR := hide (hR.below b1)
  have LS := hide (hs2.below b1)
  have B := hide b1
  replace FW := hide FW
  have hbt3 := hide hbt2
  have hl3 := hide hl12
  clear b1 hR hbt2 hl12
  obtain ⟨va2, vc2, rfl, -, -⟩ := hs2.shape
  clear hs2
  go_enter Tryd.func3, Tryd.ntmps3
  go_wp2_with fail
  refine (FW.out _).mono ?_
  rintro e w2 ⟨rfl, hw⟩
  rw [hw]
  clear hw w2 FW
  go_wp2_with fail
  refine (check_doc h _ l (Nat.le_trans hl3.out (by decide)) _ LS.out).mono ?_
  rintro e w3 ⟨rfl, hb⟩
  replace IV := hide (IV.out.below hb)
  replace HR := hide (HR.out.below hb)
  replace LS := hide (LS.out.below hb)
  replace B := hide (B.out.trans (hb.mono B.out.size))
  clear hb
  by_cases hg : okG h l
  rotate_left
  · rw [chkE_no hg]
    go_wp2_with fail
    refine (alive_any _ HR.out).mono ?_
    rintro e w9 ⟨rfl, hb⟩
    replace B := hide (B.out.trans (hb.mono B.out.size))
    clear hb
    go_wp2
    go_ret
    exact ⟨rfl, B.out⟩
  rw [chkE_yes hg]
  replace hg := hide hg
  have LV := hide (ld_vecp IV.out)
  go_wp2_with (first | (focus ((with_reducible refine wpList_load_w ?_ 24 (.tmp 4) ?_ ?_ LV.out ?_); rotate_left; rfl; rfl; rotate_left; rfl)))
  refine (rright_any x y _).mono ?_
  rintro e w4 ⟨rfl, hb⟩
  replace IV := hide (IV.out.below hb)
  replace HR := hide (HR.out.below hb)
  replace LS := hide (LS.out.below hb)
  replace B := hide (B.out.trans (hb.mono B.out.size))
  clear hb LV
  cases hr : rt x y
  · go_wp2_with fail
    refine (alive_any _ HR.out).mono ?_
    rintro e w9 ⟨rfl, hb⟩
    replace B := hide (B.out.trans (hb.mono B.out.size))
    clear hb
    go_wp2
    go_ret
    exact ⟨rfl, B.out⟩
  · replace hr := hide hr
    have c0 : w4.cell? ⟨w.heap.size, 0, none⟩ = some (.int .i64 x) := IV.out.cell 0
    by_cases hxh : h ≤ x
    · have d1 : decide (h ≤ x) = true := decide_eq_true hxh
      go_wp2_with fail
      refine (alive_any _ HR.out).mono ?_
      rintro e w9 ⟨rfl, hb⟩
      replace B := hide (B.out.trans (hb.mono B.out.size))
      clear hb
      go_wp2
      go_ret
      exact ⟨rfl, B.out⟩
    have d1 : decide (h ≤ x) = false := decide_eq_false hxh
    replace hxh : x < h := by omega
    have hr2 := of_decide_eq_true hr.out
    have hx32 : Hid (x < 32) := by have := hg.out.1; show _ < _; omega
    have hxh2 := hide hxh
    have hx0 : Hid (0 ≤ x) := hr2.1
    clear hr2 hxh
    obtain ⟨m, hp, hso, hmr⟩ := rows_of hg.out
    have hpm := hide hp
    replace hso := hide hso
    replace hmr := hide hmr
    clear hp
    have LV := hide (ld_vecp IV.out)
    go_wp2_with (first | (focus ((with_reducible refine wpList_load_w ?_ 24 (.tmp 4) ?_ ?_ LV.out ?_); rotate_left; rfl; rfl; rotate_left; rfl)))
    have ba := gb1 w4 (.cells #[.int .i64 x, .int .u64 y, .int .i64 1, .int .u64 0] 24)
    have J := hide (IsB.new w4 #[.int .i64 x, .int .u64 y, .int .i64 1, .int .u64 0] 24)
    replace IV := hide (IV.out.below ba)
    replace HR := hide (HR.out.below ba)
    replace LS := hide (LS.out.below ba)
    replace B := hide (B.out.trans (ba.mono B.out.size))
    clear ba LV c0
    refine (join_0 _ x y hy hr.out hx32.out _ J.out).mono ?_
    rintro e w5 ⟨rfl, hb⟩
    replace IV := hide (IV.out.below hb)
    replace HR := hide (HR.out.below hb)
    replace LS := hide (LS.out.below hb)
    replace B := hide (B.out.trans (hb.mono B.out.size))
    clear hb J
    have bp := gb1 w5 (.cells #[.int .i64 (x + 1), .int .u64 (2 * y)] 24)
    have P7 := hide (IsB.new w5 #[.int .i64 (x + 1), .int .u64 (2 * y)] 24)
    replace IV := hide (IV.out.below bp)
    replace HR := hide (HR.out.below bp)
    replace LS := hide (LS.out.below bp)
    replace B := hide (B.out.trans (bp.mono B.out.size))
    clear bp
    have LV := hide (ld_vecp IV.out)
    go_wp2_with (first | (focus ((with_reducible refine wpList_load_w ?_ 24 (.tmp 4) ?_ ?_ LV.out ?_); rotate_left; rfl; rfl; rotate_left; rfl)))
    have hz6 : (w5.alloc (.cells #[.int .i64 (x + 1), .int .u64 (2 * y)] 24)).heap.size = w5.heap.size + 1 := World.size_alloc _ _
    generalize w5.alloc (.cells #[.int .i64 (x + 1), .int .u64 (2 * y)] 24) = w6 at *
    generalize w5.heap.size = g7 at *
    have ba := gb1 w6 (.cells #[.int .i64 x, .int .u64 y, .int .i64 1, .int .u64 1] 24)
    have J0 := IsB.new w6 #[.int .i64 x, .int .u64 y, .int .i64 1, .int .u64 1] 24
    rw [hz6] at J0
    have J := hide J0
    replace IV := hide (IV.out.below ba)
    replace HR := hide (HR.out.below ba)
    replace LS := hide (LS.out.below ba)
    replace P7 := hide (P7.out.below ba)
    replace B := hide (B.out.trans (ba.mono B.out.size))
    clear ba LV hz6 J0
    refine (join_1 _ x y hy hr.out hx32.out _ J.out).mono ?_
    rintro e w7 ⟨rfl, hb⟩
    replace IV := hide (IV.out.below hb)
    replace HR := hide (HR.out.below hb)
    replace LS := hide (LS.out.below hb)
    replace P7 := hide (P7.out.below hb)
    replace B := hide (B.out.trans (hb.mono B.out.size))
    clear hb J
    have bp := gb1 w7 (.cells #[.int .i64 (x + 1), .int .u64 (2 * y + 1)] 24)
    have P9 := hide (IsB.new w7 #[.int .i64 (x + 1), .int .u64 (2 * y + 1)] 24)
    replace IV := hide (IV.out.below bp)
    replace HR := hide (HR.out.below bp)
    replace LS := hide (LS.out.below bp)
    replace P7 := hide (P7.out.below bp)
    replace B := hide (B.out.trans (bp.mono B.out.size))
    clear bp
    have LV := hide (ld_vecp IV.out)
    go_wp2_with (first | (focus ((with_reducible refine wpList_load_w ?_ 24 (.tmp 4) ?_ ?_ LV.out ?_); rotate_left; rfl; rfl; rotate_left; rfl)))
    generalize w7.alloc (.cells #[.int .i64 (x + 1), .int .u64 (2 * y + 1)] 24) = w8 at *
    generalize w7.heap.size = g9 at *
    refine (members_ok h (x) (y) hy _ l (Nat.le_trans hl3.out (by decide)) hbt3.out hg.out m hpm.out hso.out hr.out (by have := hxh2.out; omega) _ LS.out).mono ?_
    rintro e wa ⟨va, rfl, QA0, hb⟩
    replace IV := hide (IV.out.below hb)
    replace HR := hide (HR.out.below hb)
    replace LS := hide (LS.out.below hb)
    replace P7 := hide (P7.out.below hb)
    replace P9 := hide (P9.out.below hb)
    replace B := hide (B.out.trans (hb.mono B.out.size))
    have QA := hide QA0
    obtain ⟨aQA, cQA, rfl, -, -⟩ := QA0.shape
    clear hb QA0
    clear LV
    have L7 := hide (ld_vecp P7.out)
    go_wp2_with (first | (focus ((with_reducible refine wpList_load_w ?_ 24 (.tmp 7) ?_ ?_ L7.out ?_); rotate_left; rfl; rfl; rotate_left; rfl)))
    refine (members_ok h (x + 1) (2 * y) (by omega) _ l (Nat.le_trans hl3.out (by decide)) hbt3.out hg.out m hpm.out hso.out (by have := rt_bit (c := 0) hr.out hy hx32.out (Or.inl rfl); rwa [Int.add_zero] at this) (by have := hxh2.out; omega) _ LS.out).mono ?_
    rintro e wb ⟨vb, rfl, QB0, hb⟩
    replace IV := hide (IV.out.below hb)
    replace HR := hide (HR.out.below hb)
    replace LS := hide (LS.out.below hb)
    replace P7 := hide (P7.out.below hb)
    replace P9 := hide (P9.out.below hb)
    replace QA := hide (QA.out.below hb)
    replace B := hide (B.out.trans (hb.mono B.out.size))
    have QB := hide QB0
    obtain ⟨aQB, cQB, rfl, -, -⟩ := QB0.shape
    clear hb QB0
    clear L7
    have L9 := hide (ld_vecp P9.out)
    go_wp2_with (first | (focus ((with_reducible refine wpList_load_w ?_ 24 (.tmp 9) ?_ ?_ L9.out ?_); rotate_left; rfl; rfl; rotate_left; rfl)))
    refine (members_ok h (x + 1) (2 * y + 1) (by omega) _ l (Nat.le_trans hl3.out (by decide)) hbt3.out hg.out m hpm.out hso.out (rt_bit (c := 1) hr.out hy hx32.out (Or.inr rfl)) (by have := hxh2.out; omega) _ LS.out).mono ?_
    rintro e wc ⟨vc, rfl, QC0, hb⟩
    replace HR := hide (HR.out.below hb)
    replace QA := hide (QA.out.below hb)
    replace QB := hide (QB.out.below hb)
    replace B := hide (B.out.trans (hb.mono B.out.size))
    have QC := hide QC0
    obtain ⟨aQC, cQC, rfl, -, -⟩ := QC0.shape
    clear hb QC0
    clear L9 P7 P9 IV LS
    obtain ⟨e1, e2⟩ := parts (y := y) hmr.out hx0.out hxh2.out
    have hsA := hide (flt_sorted hso.out x (x, y))
    have hA12 : (flt x (x, y) m).length ≤ 12 := Nat.le_trans (List.length_filter_le _ _) (by rw [hpm.out.length_eq]; exact hl3.out)
    clear hl3
    rw [e1] at QB ⊢
    rw [e2] at QC ⊢
    clear e1 e2 hpm hso hmr hbt3 hg hr hx32 hxh2 hx0
    generalize flt x (x, y) m = A at *
    generalize zrB x y = p at *
    have hsum := fl_len p A
    have hb12 : (A.filter p).length ≤ 12 := by omega
    have hc12 : (A.filter fun r => !p r).length ≤ 12 := by omega
    generalize hnA : A.length = nA at *
    generalize hnB : (A.filter p).length = nB at *
    generalize hnC : (A.filter fun r => !p r).length = nC at *
    replace hnA := hide hnA
    replace hnB := hide hnB
    replace hnC := hide hnC
    have hw9 : IntKind.i64.wrap ((nB : Int) + (nC : Int)) = (nA : Int) := by rw [wrap_nn _ (by omega) (by omega)]; omega
    replace hsum := hide hsum
    go_wp2_with fail
    clear hw9
    go_loopw [17, 18, 19] (fun v17 v18 v19 wr => ∃ (n i k : Nat), n ≤ nA ∧ i ≤ nB ∧ k ≤ nC ∧ v17 = .int .i64 (i : Int) ∧ v18 = .int .i64 (k : Int) ∧ v19 = .int .i64 (n : Int) ∧ Hid (((A.take n).filter p).length = i) ∧ Hid (((A.take n).filter fun r => !p r).length = k) ∧ Hid (RSl wr (.slice aQA nA cQA) A) ∧ Hid (RSl wr (.slice aQB nB cQB) (A.filter p)) ∧ Hid (RSl wr (.slice aQC nC cQC) (A.filter fun r => !p r)) ∧ Hid (Ranks wr) ∧ Hid (Below w.heap.size w wr)) (fun _ _ v19 _ => nA - (intOf v19).toNat)
    case atStart => exact ⟨0, 0, 0, by omega, by omega, by omega, rfl, rfl, rfl, rfl, rfl, QA, QB, QC, HR, B⟩
    case round =>
      clear QA QB QC HR B
      obtain ⟨n, i, k, hn, hi, hk, rfl, rfl, rfl, hI, hK, QA, QB, QC, HR, B⟩ := hrel
      by_cases hlt : n < nA
      rotate_left
      · obtain rfl : n = nA := by omega
        have d1 : decide ((n : Int) < (n : Int)) = false := by simp
        go_wp2_with fail
        refine (alive_any _ HR.out).mono ?_
        rintro e w9 ⟨rfl, hb⟩
        replace B := hide (B.out.trans (hb.mono B.out.size))
        clear hb
        go_wp2
        go_ret
        exact ⟨rfl, B.out⟩
      by_cases hz : n = 0
      · obtain ⟨ga, oa, ca, ev, -, -⟩ := QA.out.form (by rw [hnA.out]; omega)
        injection ev with ev el ec
        clear el
        subst ev ec
        have hjA : n < A.length := by rw [hnA.out]; exact hlt
        have iN : (n : Int) < nA := by omega
        have i0 : (0 : Int) ≤ n := by omega
        have dN : decide ((n : Int) < (nA : Int)) = true := decide_eq_true iN
        have KA := fl_at p A n hjA
        have KC := fl_at (fun r => !p r) A n hjA
        have SY := fl_yes p A n hjA
        have SN := fl_no p A n hjA
        have TY := fl_yes (fun r => !p r) A n hjA
        have TN := fl_no (fun r => !p r) A n hjA
        rw [hI.out] at KA SY SN
        rw [hK.out] at KC TY TN
        have dz : decide ((0 : Int) < (n : Int)) = false := decide_eq_false (by omega)
        have hzz := hide hz
        clear hz
        obtain ⟨a, ha⟩ : ∃ a, A[n] = a := ⟨_, rfl⟩
        have LDA : Hid (∀ w', Below wr.heap.size wr w' → (Instr.loadAt 40 (.pointer (some ⟨ga, oa + n * 5, none⟩))).run Tryd.prog w' = .ok (.agg #[.int .i64 a.id, .int .i64 a.rk, .int .u64 a.kn, .int .i64 a.ln, .int .u64 a.bt]) w') := fun w' hb => by rw [← ha]; exact (QA.out.below hb).ldr n hjA
        rw [ha] at KA KC SY SN TY TN
        clear ha
        cases hpa : p a
        · have KC2 := KC (by rw [hpa]; rfl)
          have TY2 := hide (TY (by rw [hpa]; rfl))
          have SN2 := hide (SN hpa)
          clear KA KC SY SN TY TN
          obtain ⟨hjC, hcv⟩ := List.getElem?_eq_some_iff.1 KC2
          clear KC2
          have hkC : k < nC := by rw [← hnC.out]; exact hjC
          have iC : (k : Int) < nC := by omega
          have ik0 : (0 : Int) ≤ k := by omega
          have dC : decide ((k : Int) < (nC : Int)) = true := decide_eq_true iC
          obtain ⟨gc, oc, cc, ev, -, -⟩ := QC.out.form (by omega)
          injection ev with ev el ec
          clear el
          subst ev ec
          have LDC : Hid (∀ w', Below wr.heap.size wr w' → (Instr.loadAt 40 (.pointer (some ⟨gc, oc + k * 5, none⟩))).run Tryd.prog w' = .ok (.agg #[.int .i64 a.id, .int .i64 a.rk, .int .u64 a.kn, .int .i64 a.ln, .int .u64 a.bt]) w') := fun w' hb => by rw [← hcv]; exact (QC.out.below hb).ldr k hjC
          clear hcv
          by_cases hiB : i < nB
          · have iB : (i : Int) < nB := by omega
            have ii0 : (0 : Int) ≤ i := by omega
            have dB : decide ((i : Int) < (nB : Int)) = true := decide_eq_true iB
            have hjB : i < (A.filter p).length := by rw [hnB.out]; exact hiB
            obtain ⟨gb, ob, cb, ev, -, -⟩ := QB.out.form (by omega)
            injection ev with ev el ec
            clear el
            subst ev ec
            obtain ⟨b9, hb9⟩ : ∃ b, (A.filter p)[i] = b := ⟨_, rfl⟩
            have LDB : Hid (∀ w', Below wr.heap.size wr w' → (Instr.loadAt 40 (.pointer (some ⟨gb, ob + i * 5, none⟩))).run Tryd.prog w' = .ok (.agg #[.int .i64 b9.id, .int .i64 b9.rk, .int .u64 b9.kn, .int .i64 b9.ln, .int .u64 b9.bt]) w') := fun w' hb => by rw [← hb9]; exact (QB.out.below hb).ldr i hjB
            have hba : Hid (b9 ≠ a) := by
              intro hc
              have := fl_in p A i b9 (by rw [List.getElem?_eq_getElem hjB, hb9])
              rw [hc, hpa] at this
              cases this
            clear hb9 hpa
            go_wp2_with fail
            have dr := (Below.refl wr.heap.size wr).drew
            replace QA := hide (QA.out.below dr)
            replace QB := hide (QB.out.below dr)
            replace QC := hide (QC.out.below dr)
            replace HR := hide (HR.out.below dr)
            replace B := hide (B.out.trans (dr.mono B.out.size))
            have BW := hide dr
            refine regionL 16 (fun w' => (Instr.loadAt 40 (.pointer (some ⟨gb, ob + i * 5, none⟩))).run Tryd.prog w' = .ok (.agg #[.int .i64 b9.id, .int .i64 b9.rk, .int .u64 b9.kn, .int .i64 b9.ln, .int .u64 b9.bt]) w' ∧ (Instr.loadAt 40 (.pointer (some ⟨ga, oa + n * 5, none⟩))).run Tryd.prog w' = .ok (.agg #[.int .i64 a.id, .int .i64 a.rk, .int .u64 a.kn, .int .i64 a.ln, .int .u64 a.bt]) w') mixed ⟨LDB.out _ dr, LDA.out _ dr⟩ (fun hHeld => ?_)
            generalize wr.drew = W1 at *
            refine pickA (v := ?_) 0 (some 100) rfl rfl (by kernel_rfl) (by kernel_rfl) (by kernel_rfl) (by decide) (fun _ _ _ h => h) (by rfl) ?_ (by assumption) ?_
            rotate_left
            · intro w'
              go_simp
              try with_reducible rfl
            try simp only [Act.put, List.setIfInBounds_toArray, List.set_cons_zero, List.set_cons_succ]
            refine pickA (v := ?_) 1 (some 101) rfl rfl (by kernel_rfl) (by kernel_rfl) (by kernel_rfl) (by decide) (fun _ _ _ h => h) (by rfl) ?_ (by assumption) ?_
            rotate_left
            · intro w'
              go_simp
              try with_reducible rfl
            try simp only [Act.put, List.setIfInBounds_toArray, List.set_cons_zero, List.set_cons_succ]
            refine pickA (v := ?_) 2 (some 102) rfl rfl (by kernel_rfl) (by kernel_rfl) (by kernel_rfl) (by decide) (fun _ _ _ h => h) (by rfl) ?_ (by assumption) ?_
            rotate_left
            · intro w'
              go_simp
              try with_reducible rfl
            try simp only [Act.put, List.setIfInBounds_toArray, List.set_cons_zero, List.set_cons_succ]
            refine pickA (v := .bool true) 3 (some 103) rfl rfl (by kernel_rfl) (by kernel_rfl) (by kernel_rfl) (by decide) (fun _ _ _ h => h) (by rfl) ?_ (by assumption) ?_
            · intro w'
              go_simp
              try rfl
            try simp only [Act.put, List.setIfInBounds_toArray, List.set_cons_zero, List.set_cons_succ]
            refine pickA (v := ?_) 4 (some 104) rfl rfl (by kernel_rfl) (by kernel_rfl) (by kernel_rfl) (by decide) (fun _ _ _ h => h) (by rfl) ?_ (by assumption) ?_
            rotate_left
            · intro w'
              go_simp
              try with_reducible rfl
            try simp only [Act.put, List.setIfInBounds_toArray, List.set_cons_zero, List.set_cons_succ]
            refine pickA (v := ?_) 5 (some 105) rfl rfl (by kernel_rfl) (by kernel_rfl) (by kernel_rfl) (by decide) (fun _ _ _ h => h) (by rfl) ?_ (by assumption) ?_
            rotate_left
            · intro w'
              go_simp
              try with_reducible rfl
            try simp only [Act.put, List.setIfInBounds_toArray, List.set_cons_zero, List.set_cons_succ]
            refine pickA (v := ?_) 6 (some 106) rfl rfl (by kernel_rfl) (by kernel_rfl) (by kernel_rfl) (by decide) (fun _ _ _ h => h) (by rfl) ?_ (by assumption) ?_
            rotate_left
            · intro w'
              go_simp
              try with_reducible rfl
            try simp only [Act.put, List.setIfInBounds_toArray, List.set_cons_zero, List.set_cons_succ]
            refine pickA (v := ?_) 7 (some 107) rfl rfl (by kernel_rfl) (by kernel_rfl) (by kernel_rfl) (by decide) (fun _ _ _ h => h) (by rfl) ?_ (by assumption) ?_
            rotate_left
            · intro w'
              go_simp
              try with_reducible rfl
            try simp only [Act.put, List.setIfInBounds_toArray, List.set_cons_zero, List.set_cons_succ]
            refine pickL (v := .agg #[.int .i64 b9.id, .int .i64 b9.rk, .int .u64 b9.kn, .int .i64 b9.ln, .int .u64 b9.bt]) 8 (some 108) rfl rfl (by kernel_rfl) (by kernel_rfl) (by kernel_rfl) (by decide) (by kernel_rfl) (by kernel_rfl) (fun _ _ _ h => h) (by rfl) ?_ (by assumption) ?_
            · intro w' hSw
              obtain ⟨q0, q1⟩ := hSw
              exact exec_load rfl rfl q0
            try simp only [Act.put, List.setIfInBounds_toArray, List.set_cons_zero, List.set_cons_succ]
            refine pickA (v := ?_) 9 (some 109) rfl rfl (by kernel_rfl) (by kernel_rfl) (by kernel_rfl) (by decide) (fun _ _ _ h => h) (by rfl) ?_ (by assumption) ?_
            rotate_left
            · intro w'
              go_simp
              try with_reducible rfl
            try simp only [Act.put, List.setIfInBounds_toArray, List.set_cons_zero, List.set_cons_succ]
            refine pickA (v := ?_) 10 (some 110) rfl rfl (by kernel_rfl) (by kernel_rfl) (by kernel_rfl) (by decide) (fun _ _ _ h => h) (by rfl) ?_ (by assumption) ?_
            rotate_left
            · intro w'
              go_simp
              try with_reducible rfl
            try simp only [Act.put, List.setIfInBounds_toArray, List.set_cons_zero, List.set_cons_succ]
            refine pickA (v := ?_) 11 (some 111) rfl rfl (by kernel_rfl) (by kernel_rfl) (by kernel_rfl) (by decide) (fun _ _ _ h => h) (by rfl) ?_ (by assumption) ?_
            rotate_left
            · intro w'
              go_simp
              try with_reducible rfl
            try simp only [Act.put, List.setIfInBounds_toArray, List.set_cons_zero, List.set_cons_succ]
            refine pickL (v := .agg #[.int .i64 a.id, .int .i64 a.rk, .int .u64 a.kn, .int .i64 a.ln, .int .u64 a.bt]) 12 (some 112) rfl rfl (by kernel_rfl) (by kernel_rfl) (by kernel_rfl) (by decide) (by kernel_rfl) (by kernel_rfl) (fun _ _ _ h => h) (by rfl) ?_ (by assumption) ?_
            · intro w' hSw
              obtain ⟨q0, q1⟩ := hSw
              exact exec_load rfl rfl q1
            try simp only [Act.put, List.setIfInBounds_toArray, List.set_cons_zero, List.set_cons_succ]
            refine pickA (v := .bool false) 13 (some 113) rfl rfl (by kernel_rfl) (by kernel_rfl) (by kernel_rfl) (by decide) (fun _ _ _ h => h) (by rfl) ?_ (by assumption) ?_
            · intro w'
              exact exec_bin rguard rfl rfl rfl (eqr_not b9 a hba.out _)
            try simp only [Act.put, List.setIfInBounds_toArray, List.set_cons_zero, List.set_cons_succ]
            refine pickA (v := ?_) 14 (some 114) rfl rfl (by kernel_rfl) (by kernel_rfl) (by kernel_rfl) (by decide) (fun _ _ _ h => h) (by rfl) ?_ (by assumption) ?_
            rotate_left
            · intro w'
              go_simp
              try with_reducible rfl
            try simp only [Act.put, List.setIfInBounds_toArray, List.set_cons_zero, List.set_cons_succ]
            refine pickA (v := ?_) 15 (some 99) rfl rfl (by kernel_rfl) (by kernel_rfl) (by kernel_rfl) (by decide) (fun _ _ _ h => h) (by rfl) ?_ (by assumption) ?_
            rotate_left
            · intro w'
              go_simp
              try with_reducible rfl
            try simp only [Act.put, List.setIfInBounds_toArray, List.set_cons_zero, List.set_cons_succ]
            refine doneL (by kernel_rfl) ?_ _
            clear hHeld
            clear LDB hba dr
            go_wp2_with fail
            have dr := (Below.refl W1.heap.size W1).drew
            replace QA := hide (QA.out.below dr)
            replace QB := hide (QB.out.below dr)
            replace QC := hide (QC.out.below dr)
            replace HR := hide (HR.out.below dr)
            replace B := hide (B.out.trans (dr.mono B.out.size))
            replace BW := hide (BW.out.trans (dr.mono BW.out.size))
            refine regionL 16 (fun w' => (Instr.loadAt 40 (.pointer (some ⟨gc, oc + k * 5, none⟩))).run Tryd.prog w' = .ok (.agg #[.int .i64 a.id, .int .i64 a.rk, .int .u64 a.kn, .int .i64 a.ln, .int .u64 a.bt]) w' ∧ (Instr.loadAt 40 (.pointer (some ⟨ga, oa + n * 5, none⟩))).run Tryd.prog w' = .ok (.agg #[.int .i64 a.id, .int .i64 a.rk, .int .u64 a.kn, .int .i64 a.ln, .int .u64 a.bt]) w') mixed ⟨LDC.out _ BW.out, LDA.out _ BW.out⟩ (fun hHeld => ?_)
            generalize W1.drew = W2 at *
            refine pickA (v := ?_) 0 (some 118) rfl rfl (by kernel_rfl) (by kernel_rfl) (by kernel_rfl) (by decide) (fun _ _ _ h => h) (by rfl) ?_ (by assumption) ?_
            rotate_left
            · intro w'
              go_simp
              try with_reducible rfl
            try simp only [Act.put, List.setIfInBounds_toArray, List.set_cons_zero, List.set_cons_succ]
            refine pickA (v := ?_) 1 (some 119) rfl rfl (by kernel_rfl) (by kernel_rfl) (by kernel_rfl) (by decide) (fun _ _ _ h => h) (by rfl) ?_ (by assumption) ?_
            rotate_left
            · intro w'
              go_simp
              try with_reducible rfl
            try simp only [Act.put, List.setIfInBounds_toArray, List.set_cons_zero, List.set_cons_succ]
            refine pickA (v := ?_) 2 (some 120) rfl rfl (by kernel_rfl) (by kernel_rfl) (by kernel_rfl) (by decide) (fun _ _ _ h => h) (by rfl) ?_ (by assumption) ?_
            rotate_left
            · intro w'
              go_simp
              try with_reducible rfl
            try simp only [Act.put, List.setIfInBounds_toArray, List.set_cons_zero, List.set_cons_succ]
            refine pickA (v := .bool true) 3 (some 121) rfl rfl (by kernel_rfl) (by kernel_rfl) (by kernel_rfl) (by decide) (fun _ _ _ h => h) (by rfl) ?_ (by assumption) ?_
            · intro w'
              go_simp
              try rfl
            try simp only [Act.put, List.setIfInBounds_toArray, List.set_cons_zero, List.set_cons_succ]
            refine pickA (v := ?_) 4 (some 122) rfl rfl (by kernel_rfl) (by kernel_rfl) (by kernel_rfl) (by decide) (fun _ _ _ h => h) (by rfl) ?_ (by assumption) ?_
            rotate_left
            · intro w'
              go_simp
              try with_reducible rfl
            try simp only [Act.put, List.setIfInBounds_toArray, List.set_cons_zero, List.set_cons_succ]
            refine pickA (v := ?_) 5 (some 123) rfl rfl (by kernel_rfl) (by kernel_rfl) (by kernel_rfl) (by decide) (fun _ _ _ h => h) (by rfl) ?_ (by assumption) ?_
            rotate_left
            · intro w'
              go_simp
              try with_reducible rfl
            try simp only [Act.put, List.setIfInBounds_toArray, List.set_cons_zero, List.set_cons_succ]
            refine pickA (v := ?_) 6 (some 124) rfl rfl (by kernel_rfl) (by kernel_rfl) (by kernel_rfl) (by decide) (fun _ _ _ h => h) (by rfl) ?_ (by assumption) ?_
            rotate_left
            · intro w'
              go_simp
              try with_reducible rfl
            try simp only [Act.put, List.setIfInBounds_toArray, List.set_cons_zero, List.set_cons_succ]
            refine pickA (v := ?_) 7 (some 125) rfl rfl (by kernel_rfl) (by kernel_rfl) (by kernel_rfl) (by decide) (fun _ _ _ h => h) (by rfl) ?_ (by assumption) ?_
            rotate_left
            · intro w'
              go_simp
              try with_reducible rfl
            try simp only [Act.put, List.setIfInBounds_toArray, List.set_cons_zero, List.set_cons_succ]
            refine pickL (v := .agg #[.int .i64 a.id, .int .i64 a.rk, .int .u64 a.kn, .int .i64 a.ln, .int .u64 a.bt]) 8 (some 126) rfl rfl (by kernel_rfl) (by kernel_rfl) (by kernel_rfl) (by decide) (by kernel_rfl) (by kernel_rfl) (fun _ _ _ h => h) (by rfl) ?_ (by assumption) ?_
            · intro w' hSw
              obtain ⟨q0, q1⟩ := hSw
              exact exec_load rfl rfl q0
            try simp only [Act.put, List.setIfInBounds_toArray, List.set_cons_zero, List.set_cons_succ]
            refine pickA (v := ?_) 9 (some 127) rfl rfl (by kernel_rfl) (by kernel_rfl) (by kernel_rfl) (by decide) (fun _ _ _ h => h) (by rfl) ?_ (by assumption) ?_
            rotate_left
            · intro w'
              go_simp
              try with_reducible rfl
            try simp only [Act.put, List.setIfInBounds_toArray, List.set_cons_zero, List.set_cons_succ]
            refine pickA (v := ?_) 10 (some 128) rfl rfl (by kernel_rfl) (by kernel_rfl) (by kernel_rfl) (by decide) (fun _ _ _ h => h) (by rfl) ?_ (by assumption) ?_
            rotate_left
            · intro w'
              go_simp
              try with_reducible rfl
            try simp only [Act.put, List.setIfInBounds_toArray, List.set_cons_zero, List.set_cons_succ]
            refine pickA (v := ?_) 11 (some 129) rfl rfl (by kernel_rfl) (by kernel_rfl) (by kernel_rfl) (by decide) (fun _ _ _ h => h) (by rfl) ?_ (by assumption) ?_
            rotate_left
            · intro w'
              go_simp
              try with_reducible rfl
            try simp only [Act.put, List.setIfInBounds_toArray, List.set_cons_zero, List.set_cons_succ]
            refine pickL (v := .agg #[.int .i64 a.id, .int .i64 a.rk, .int .u64 a.kn, .int .i64 a.ln, .int .u64 a.bt]) 12 (some 130) rfl rfl (by kernel_rfl) (by kernel_rfl) (by kernel_rfl) (by decide) (by kernel_rfl) (by kernel_rfl) (fun _ _ _ h => h) (by rfl) ?_ (by assumption) ?_
            · intro w' hSw
              obtain ⟨q0, q1⟩ := hSw
              exact exec_load rfl rfl q1
            try simp only [Act.put, List.setIfInBounds_toArray, List.set_cons_zero, List.set_cons_succ]
            refine pickA (v := .bool true) 13 (some 131) rfl rfl (by kernel_rfl) (by kernel_rfl) (by kernel_rfl) (by decide) (fun _ _ _ h => h) (by rfl) ?_ (by assumption) ?_
            · intro w'
              exact exec_bin rguard rfl rfl rfl (eqr_same a _)
            try simp only [Act.put, List.setIfInBounds_toArray, List.set_cons_zero, List.set_cons_succ]
            refine pickA (v := ?_) 14 (some 132) rfl rfl (by kernel_rfl) (by kernel_rfl) (by kernel_rfl) (by decide) (fun _ _ _ h => h) (by rfl) ?_ (by assumption) ?_
            rotate_left
            · intro w'
              go_simp
              try with_reducible rfl
            try simp only [Act.put, List.setIfInBounds_toArray, List.set_cons_zero, List.set_cons_succ]
            refine pickA (v := ?_) 15 (some 117) rfl rfl (by kernel_rfl) (by kernel_rfl) (by kernel_rfl) (by decide) (fun _ _ _ h => h) (by rfl) ?_ (by assumption) ?_
            rotate_left
            · intro w'
              go_simp
              try with_reducible rfl
            try simp only [Act.put, List.setIfInBounds_toArray, List.set_cons_zero, List.set_cons_succ]
            refine doneL (by kernel_rfl) ?_ _
            clear hHeld
            clear LDC LDA dr
            go_wp2_with fail
            have dr := (Below.refl W2.heap.size W2).drew
            replace QA := hide (QA.out.below dr)
            replace QB := hide (QB.out.below dr)
            replace QC := hide (QC.out.below dr)
            replace HR := hide (HR.out.below dr)
            replace B := hide (B.out.trans (dr.mono B.out.size))
            clear dr
            refine regionL 17 (fun _ => True) mixed trivial (fun hHeld => ?_)
            generalize W2.drew = WZ at *
            refine pickA (v := ?_) 0 (some 135) rfl rfl (by kernel_rfl) (by kernel_rfl) (by kernel_rfl) (by decide) (fun _ _ _ h => h) (by rfl) ?_ (by assumption) ?_
            rotate_left
            · intro w'
              go_simp
              try with_reducible rfl
            try simp only [Act.put, List.setIfInBounds_toArray, List.set_cons_zero, List.set_cons_succ]
            refine pickA (v := .bool false) 1 (some 136) rfl rfl (by kernel_rfl) (by kernel_rfl) (by kernel_rfl) (by decide) (fun _ _ _ h => h) (by rfl) ?_ (by assumption) ?_
            · intro w'
              go_simp
              first | rfl | exact hzz.out
            try simp only [Act.put, List.setIfInBounds_toArray, List.set_cons_zero, List.set_cons_succ]
            refine pickA (v := ?_) 2 (some 137) rfl rfl (by kernel_rfl) (by kernel_rfl) (by kernel_rfl) (by decide) (fun _ _ _ h => h) (by rfl) ?_ (by assumption) ?_
            rotate_left
            · intro w'
              go_simp
              try with_reducible rfl
            try simp only [Act.put, List.setIfInBounds_toArray, List.set_cons_zero, List.set_cons_succ]
            refine pickN 3 (some 138) rfl rfl (by kernel_rfl) (by kernel_rfl) (by kernel_rfl) (by decide) (fun _ _ _ h => h) (by rfl) (by assumption) ?_
            try simp only [Act.put, List.setIfInBounds_toArray, List.set_cons_zero, List.set_cons_succ]
            refine pickN 4 (some 139) rfl rfl (by kernel_rfl) (by kernel_rfl) (by kernel_rfl) (by decide) (fun _ _ _ h => h) (by rfl) (by assumption) ?_
            try simp only [Act.put, List.setIfInBounds_toArray, List.set_cons_zero, List.set_cons_succ]
            refine pickN 5 (some 140) rfl rfl (by kernel_rfl) (by kernel_rfl) (by kernel_rfl) (by decide) (fun _ _ _ h => h) (by rfl) (by assumption) ?_
            try simp only [Act.put, List.setIfInBounds_toArray, List.set_cons_zero, List.set_cons_succ]
            refine pickN 6 (some 141) rfl rfl (by kernel_rfl) (by kernel_rfl) (by kernel_rfl) (by decide) (fun _ _ _ h => h) (by rfl) (by assumption) ?_
            try simp only [Act.put, List.setIfInBounds_toArray, List.set_cons_zero, List.set_cons_succ]
            refine pickN 7 (some 142) rfl rfl (by kernel_rfl) (by kernel_rfl) (by kernel_rfl) (by decide) (fun _ _ _ h => h) (by rfl) (by assumption) ?_
            try simp only [Act.put, List.setIfInBounds_toArray, List.set_cons_zero, List.set_cons_succ]
            refine pickN 8 (some 143) rfl rfl (by kernel_rfl) (by kernel_rfl) (by kernel_rfl) (by decide) (fun _ _ _ h => h) (by rfl) (by assumption) ?_
            try simp only [Act.put, List.setIfInBounds_toArray, List.set_cons_zero, List.set_cons_succ]
            refine pickN 9 (some 144) rfl rfl (by kernel_rfl) (by kernel_rfl) (by kernel_rfl) (by decide) (fun _ _ _ h => h) (by rfl) (by assumption) ?_
            try simp only [Act.put, List.setIfInBounds_toArray, List.set_cons_zero, List.set_cons_succ]
            refine pickN 10 (some 145) rfl rfl (by kernel_rfl) (by kernel_rfl) (by kernel_rfl) (by decide) (fun _ _ _ h => h) (by rfl) (by assumption) ?_
            try simp only [Act.put, List.setIfInBounds_toArray, List.set_cons_zero, List.set_cons_succ]
            refine pickN 11 (some 146) rfl rfl (by kernel_rfl) (by kernel_rfl) (by kernel_rfl) (by decide) (fun _ _ _ h => h) (by rfl) (by assumption) ?_
            try simp only [Act.put, List.setIfInBounds_toArray, List.set_cons_zero, List.set_cons_succ]
            refine pickN 12 (some 147) rfl rfl (by kernel_rfl) (by kernel_rfl) (by kernel_rfl) (by decide) (fun _ _ _ h => h) (by rfl) (by assumption) ?_
            try simp only [Act.put, List.setIfInBounds_toArray, List.set_cons_zero, List.set_cons_succ]
            refine pickN 13 (some 148) rfl rfl (by kernel_rfl) (by kernel_rfl) (by kernel_rfl) (by decide) (fun _ _ _ h => h) (by rfl) (by assumption) ?_
            try simp only [Act.put, List.setIfInBounds_toArray, List.set_cons_zero, List.set_cons_succ]
            refine pickN 14 (some 149) rfl rfl (by kernel_rfl) (by kernel_rfl) (by kernel_rfl) (by decide) (fun _ _ _ h => h) (by rfl) (by assumption) ?_
            try simp only [Act.put, List.setIfInBounds_toArray, List.set_cons_zero, List.set_cons_succ]
            refine pickN 15 (some 150) rfl rfl (by kernel_rfl) (by kernel_rfl) (by kernel_rfl) (by decide) (fun _ _ _ h => h) (by rfl) (by assumption) ?_
            try simp only [Act.put, List.setIfInBounds_toArray, List.set_cons_zero, List.set_cons_succ]
            refine pickA (v := ?_) 16 (some 151) rfl rfl (by kernel_rfl) (by kernel_rfl) (by kernel_rfl) (by decide) (fun _ _ _ h => h) (by rfl) ?_ (by assumption) ?_
            rotate_left
            · intro w'
              go_simp
              try with_reducible rfl
            try simp only [Act.put, List.setIfInBounds_toArray, List.set_cons_zero, List.set_cons_succ]
            refine doneL (by kernel_rfl) ?_ _
            clear hHeld
            go_wp2
            exact ⟨⟨n + 1, i, k + 1, by omega, by omega, by omega, by simp, by simp, by simp, by show _ = _; rw [SN2.out], by show _ = _; rw [TY2.out], QA, QB, QC, HR, B⟩, by simp [intOf]; omega⟩
          · obtain rfl : i = nB := by omega
            have dB : decide ((i : Int) < (i : Int)) = false := by simp
            clear hpa
            go_wp2_with fail
            have dr := (Below.refl wr.heap.size wr).drew
            replace QA := hide (QA.out.below dr)
            replace QB := hide (QB.out.below dr)
            replace QC := hide (QC.out.below dr)
            replace HR := hide (HR.out.below dr)
            replace B := hide (B.out.trans (dr.mono B.out.size))
            have BW := hide dr
            refine regionL 16 (fun _ => True) mixed trivial (fun hHeld => ?_)
            generalize wr.drew = W1 at *
            refine pickA (v := ?_) 0 (some 100) rfl rfl (by kernel_rfl) (by kernel_rfl) (by kernel_rfl) (by decide) (fun _ _ _ h => h) (by rfl) ?_ (by assumption) ?_
            rotate_left
            · intro w'
              go_simp
              try with_reducible rfl
            try simp only [Act.put, List.setIfInBounds_toArray, List.set_cons_zero, List.set_cons_succ]
            refine pickA (v := ?_) 1 (some 101) rfl rfl (by kernel_rfl) (by kernel_rfl) (by kernel_rfl) (by decide) (fun _ _ _ h => h) (by rfl) ?_ (by assumption) ?_
            rotate_left
            · intro w'
              go_simp
              try with_reducible rfl
            try simp only [Act.put, List.setIfInBounds_toArray, List.set_cons_zero, List.set_cons_succ]
            refine pickA (v := ?_) 2 (some 102) rfl rfl (by kernel_rfl) (by kernel_rfl) (by kernel_rfl) (by decide) (fun _ _ _ h => h) (by rfl) ?_ (by assumption) ?_
            rotate_left
            · intro w'
              go_simp
              try with_reducible rfl
            try simp only [Act.put, List.setIfInBounds_toArray, List.set_cons_zero, List.set_cons_succ]
            refine pickA (v := .bool false) 3 (some 103) rfl rfl (by kernel_rfl) (by kernel_rfl) (by kernel_rfl) (by decide) (fun _ _ _ h => h) (by rfl) ?_ (by assumption) ?_
            · intro w'
              go_simp
              try rfl
            try simp only [Act.put, List.setIfInBounds_toArray, List.set_cons_zero, List.set_cons_succ]
            refine pickA (v := ?_) 4 (some 104) rfl rfl (by kernel_rfl) (by kernel_rfl) (by kernel_rfl) (by decide) (fun _ _ _ h => h) (by rfl) ?_ (by assumption) ?_
            rotate_left
            · intro w'
              go_simp
              try with_reducible rfl
            try simp only [Act.put, List.setIfInBounds_toArray, List.set_cons_zero, List.set_cons_succ]
            refine pickN 5 (some 105) rfl rfl (by kernel_rfl) (by kernel_rfl) (by kernel_rfl) (by decide) (fun _ _ _ h => h) (by rfl) (by assumption) ?_
            try simp only [Act.put, List.setIfInBounds_toArray, List.set_cons_zero, List.set_cons_succ]
            refine pickN 6 (some 106) rfl rfl (by kernel_rfl) (by kernel_rfl) (by kernel_rfl) (by decide) (fun _ _ _ h => h) (by rfl) (by assumption) ?_
            try simp only [Act.put, List.setIfInBounds_toArray, List.set_cons_zero, List.set_cons_succ]
            refine pickN 7 (some 107) rfl rfl (by kernel_rfl) (by kernel_rfl) (by kernel_rfl) (by decide) (fun _ _ _ h => h) (by rfl) (by assumption) ?_
            try simp only [Act.put, List.setIfInBounds_toArray, List.set_cons_zero, List.set_cons_succ]
            refine pickN 8 (some 108) rfl rfl (by kernel_rfl) (by kernel_rfl) (by kernel_rfl) (by decide) (fun _ _ _ h => h) (by rfl) (by assumption) ?_
            try simp only [Act.put, List.setIfInBounds_toArray, List.set_cons_zero, List.set_cons_succ]
            refine pickN 9 (some 109) rfl rfl (by kernel_rfl) (by kernel_rfl) (by kernel_rfl) (by decide) (fun _ _ _ h => h) (by rfl) (by assumption) ?_
            try simp only [Act.put, List.setIfInBounds_toArray, List.set_cons_zero, List.set_cons_succ]
            refine pickN 10 (some 110) rfl rfl (by kernel_rfl) (by kernel_rfl) (by kernel_rfl) (by decide) (fun _ _ _ h => h) (by rfl) (by assumption) ?_
            try simp only [Act.put, List.setIfInBounds_toArray, List.set_cons_zero, List.set_cons_succ]
            refine pickN 11 (some 111) rfl rfl (by kernel_rfl) (by kernel_rfl) (by kernel_rfl) (by decide) (fun _ _ _ h => h) (by rfl) (by assumption) ?_
            try simp only [Act.put, List.setIfInBounds_toArray, List.set_cons_zero, List.set_cons_succ]
            refine pickN 12 (some 112) rfl rfl (by kernel_rfl) (by kernel_rfl) (by kernel_rfl) (by decide) (fun _ _ _ h => h) (by rfl) (by assumption) ?_
            try simp only [Act.put, List.setIfInBounds_toArray, List.set_cons_zero, List.set_cons_succ]
            refine pickN 13 (some 113) rfl rfl (by kernel_rfl) (by kernel_rfl) (by kernel_rfl) (by decide) (fun _ _ _ h => h) (by rfl) (by assumption) ?_
            try simp only [Act.put, List.setIfInBounds_toArray, List.set_cons_zero, List.set_cons_succ]
            refine pickA (v := ?_) 14 (some 114) rfl rfl (by kernel_rfl) (by kernel_rfl) (by kernel_rfl) (by decide) (fun _ _ _ h => h) (by rfl) ?_ (by assumption) ?_
            rotate_left
            · intro w'
              go_simp
              try with_reducible rfl
            try simp only [Act.put, List.setIfInBounds_toArray, List.set_cons_zero, List.set_cons_succ]
            refine pickA (v := ?_) 15 (some 99) rfl rfl (by kernel_rfl) (by kernel_rfl) (by kernel_rfl) (by decide) (fun _ _ _ h => h) (by rfl) ?_ (by assumption) ?_
            rotate_left
            · intro w'
              go_simp
              try with_reducible rfl
            try simp only [Act.put, List.setIfInBounds_toArray, List.set_cons_zero, List.set_cons_succ]
            refine doneL (by kernel_rfl) ?_ _
            clear hHeld
            clear dr
            go_wp2_with fail
            have dr := (Below.refl W1.heap.size W1).drew
            replace QA := hide (QA.out.below dr)
            replace QB := hide (QB.out.below dr)
            replace QC := hide (QC.out.below dr)
            replace HR := hide (HR.out.below dr)
            replace B := hide (B.out.trans (dr.mono B.out.size))
            replace BW := hide (BW.out.trans (dr.mono BW.out.size))
            refine regionL 16 (fun w' => (Instr.loadAt 40 (.pointer (some ⟨gc, oc + k * 5, none⟩))).run Tryd.prog w' = .ok (.agg #[.int .i64 a.id, .int .i64 a.rk, .int .u64 a.kn, .int .i64 a.ln, .int .u64 a.bt]) w' ∧ (Instr.loadAt 40 (.pointer (some ⟨ga, oa + n * 5, none⟩))).run Tryd.prog w' = .ok (.agg #[.int .i64 a.id, .int .i64 a.rk, .int .u64 a.kn, .int .i64 a.ln, .int .u64 a.bt]) w') mixed ⟨LDC.out _ BW.out, LDA.out _ BW.out⟩ (fun hHeld => ?_)
            generalize W1.drew = W2 at *
            refine pickA (v := ?_) 0 (some 118) rfl rfl (by kernel_rfl) (by kernel_rfl) (by kernel_rfl) (by decide) (fun _ _ _ h => h) (by rfl) ?_ (by assumption) ?_
            rotate_left
            · intro w'
              go_simp
              try with_reducible rfl
            try simp only [Act.put, List.setIfInBounds_toArray, List.set_cons_zero, List.set_cons_succ]
            refine pickA (v := ?_) 1 (some 119) rfl rfl (by kernel_rfl) (by kernel_rfl) (by kernel_rfl) (by decide) (fun _ _ _ h => h) (by rfl) ?_ (by assumption) ?_
            rotate_left
            · intro w'
              go_simp
              try with_reducible rfl
            try simp only [Act.put, List.setIfInBounds_toArray, List.set_cons_zero, List.set_cons_succ]
            refine pickA (v := ?_) 2 (some 120) rfl rfl (by kernel_rfl) (by kernel_rfl) (by kernel_rfl) (by decide) (fun _ _ _ h => h) (by rfl) ?_ (by assumption) ?_
            rotate_left
            · intro w'
              go_simp
              try with_reducible rfl
            try simp only [Act.put, List.setIfInBounds_toArray, List.set_cons_zero, List.set_cons_succ]
            refine pickA (v := .bool true) 3 (some 121) rfl rfl (by kernel_rfl) (by kernel_rfl) (by kernel_rfl) (by decide) (fun _ _ _ h => h) (by rfl) ?_ (by assumption) ?_
            · intro w'
              go_simp
              try rfl
            try simp only [Act.put, List.setIfInBounds_toArray, List.set_cons_zero, List.set_cons_succ]
            refine pickA (v := ?_) 4 (some 122) rfl rfl (by kernel_rfl) (by kernel_rfl) (by kernel_rfl) (by decide) (fun _ _ _ h => h) (by rfl) ?_ (by assumption) ?_
            rotate_left
            · intro w'
              go_simp
              try with_reducible rfl
            try simp only [Act.put, List.setIfInBounds_toArray, List.set_cons_zero, List.set_cons_succ]
            refine pickA (v := ?_) 5 (some 123) rfl rfl (by kernel_rfl) (by kernel_rfl) (by kernel_rfl) (by decide) (fun _ _ _ h => h) (by rfl) ?_ (by assumption) ?_
            rotate_left
            · intro w'
              go_simp
              try with_reducible rfl
            try simp only [Act.put, List.setIfInBounds_toArray, List.set_cons_zero, List.set_cons_succ]
            refine pickA (v := ?_) 6 (some 124) rfl rfl (by kernel_rfl) (by kernel_rfl) (by kernel_rfl) (by decide) (fun _ _ _ h => h) (by rfl) ?_ (by assumption) ?_
            rotate_left
            · intro w'
              go_simp
              try with_reducible rfl
            try simp only [Act.put, List.setIfInBounds_toArray, List.set_cons_zero, List.set_cons_succ]
            refine pickA (v := ?_) 7 (some 125) rfl rfl (by kernel_rfl) (by kernel_rfl) (by kernel_rfl) (by decide) (fun _ _ _ h => h) (by rfl) ?_ (by assumption) ?_
            rotate_left
            · intro w'
              go_simp
              try with_reducible rfl
            try simp only [Act.put, List.setIfInBounds_toArray, List.set_cons_zero, List.set_cons_succ]
            refine pickL (v := .agg #[.int .i64 a.id, .int .i64 a.rk, .int .u64 a.kn, .int .i64 a.ln, .int .u64 a.bt]) 8 (some 126) rfl rfl (by kernel_rfl) (by kernel_rfl) (by kernel_rfl) (by decide) (by kernel_rfl) (by kernel_rfl) (fun _ _ _ h => h) (by rfl) ?_ (by assumption) ?_
            · intro w' hSw
              obtain ⟨q0, q1⟩ := hSw
              exact exec_load rfl rfl q0
            try simp only [Act.put, List.setIfInBounds_toArray, List.set_cons_zero, List.set_cons_succ]
            refine pickA (v := ?_) 9 (some 127) rfl rfl (by kernel_rfl) (by kernel_rfl) (by kernel_rfl) (by decide) (fun _ _ _ h => h) (by rfl) ?_ (by assumption) ?_
            rotate_left
            · intro w'
              go_simp
              try with_reducible rfl
            try simp only [Act.put, List.setIfInBounds_toArray, List.set_cons_zero, List.set_cons_succ]
            refine pickA (v := ?_) 10 (some 128) rfl rfl (by kernel_rfl) (by kernel_rfl) (by kernel_rfl) (by decide) (fun _ _ _ h => h) (by rfl) ?_ (by assumption) ?_
            rotate_left
            · intro w'
              go_simp
              try with_reducible rfl
            try simp only [Act.put, List.setIfInBounds_toArray, List.set_cons_zero, List.set_cons_succ]
            refine pickA (v := ?_) 11 (some 129) rfl rfl (by kernel_rfl) (by kernel_rfl) (by kernel_rfl) (by decide) (fun _ _ _ h => h) (by rfl) ?_ (by assumption) ?_
            rotate_left
            · intro w'
              go_simp
              try with_reducible rfl
            try simp only [Act.put, List.setIfInBounds_toArray, List.set_cons_zero, List.set_cons_succ]
            refine pickL (v := .agg #[.int .i64 a.id, .int .i64 a.rk, .int .u64 a.kn, .int .i64 a.ln, .int .u64 a.bt]) 12 (some 130) rfl rfl (by kernel_rfl) (by kernel_rfl) (by kernel_rfl) (by decide) (by kernel_rfl) (by kernel_rfl) (fun _ _ _ h => h) (by rfl) ?_ (by assumption) ?_
            · intro w' hSw
              obtain ⟨q0, q1⟩ := hSw
              exact exec_load rfl rfl q1
            try simp only [Act.put, List.setIfInBounds_toArray, List.set_cons_zero, List.set_cons_succ]
            refine pickA (v := .bool true) 13 (some 131) rfl rfl (by kernel_rfl) (by kernel_rfl) (by kernel_rfl) (by decide) (fun _ _ _ h => h) (by rfl) ?_ (by assumption) ?_
            · intro w'
              exact exec_bin rguard rfl rfl rfl (eqr_same a _)
            try simp only [Act.put, List.setIfInBounds_toArray, List.set_cons_zero, List.set_cons_succ]
            refine pickA (v := ?_) 14 (some 132) rfl rfl (by kernel_rfl) (by kernel_rfl) (by kernel_rfl) (by decide) (fun _ _ _ h => h) (by rfl) ?_ (by assumption) ?_
            rotate_left
            · intro w'
              go_simp
              try with_reducible rfl
            try simp only [Act.put, List.setIfInBounds_toArray, List.set_cons_zero, List.set_cons_succ]
            refine pickA (v := ?_) 15 (some 117) rfl rfl (by kernel_rfl) (by kernel_rfl) (by kernel_rfl) (by decide) (fun _ _ _ h => h) (by rfl) ?_ (by assumption) ?_
            rotate_left
            · intro w'
              go_simp
              try with_reducible rfl
            try simp only [Act.put, List.setIfInBounds_toArray, List.set_cons_zero, List.set_cons_succ]
            refine doneL (by kernel_rfl) ?_ _
            clear hHeld
            clear LDC LDA dr
            go_wp2_with fail
            have dr := (Below.refl W2.heap.size W2).drew
            replace QA := hide (QA.out.below dr)
            replace QB := hide (QB.out.below dr)
            replace QC := hide (QC.out.below dr)
            replace HR := hide (HR.out.below dr)
            replace B := hide (B.out.trans (dr.mono B.out.size))
            clear dr
            refine regionL 17 (fun _ => True) mixed trivial (fun hHeld => ?_)
            generalize W2.drew = WZ at *
            refine pickA (v := ?_) 0 (some 135) rfl rfl (by kernel_rfl) (by kernel_rfl) (by kernel_rfl) (by decide) (fun _ _ _ h => h) (by rfl) ?_ (by assumption) ?_
            rotate_left
            · intro w'
              go_simp
              try with_reducible rfl
            try simp only [Act.put, List.setIfInBounds_toArray, List.set_cons_zero, List.set_cons_succ]
            refine pickA (v := .bool false) 1 (some 136) rfl rfl (by kernel_rfl) (by kernel_rfl) (by kernel_rfl) (by decide) (fun _ _ _ h => h) (by rfl) ?_ (by assumption) ?_
            · intro w'
              go_simp
              first | rfl | exact hzz.out
            try simp only [Act.put, List.setIfInBounds_toArray, List.set_cons_zero, List.set_cons_succ]
            refine pickA (v := ?_) 2 (some 137) rfl rfl (by kernel_rfl) (by kernel_rfl) (by kernel_rfl) (by decide) (fun _ _ _ h => h) (by rfl) ?_ (by assumption) ?_
            rotate_left
            · intro w'
              go_simp
              try with_reducible rfl
            try simp only [Act.put, List.setIfInBounds_toArray, List.set_cons_zero, List.set_cons_succ]
            refine pickN 3 (some 138) rfl rfl (by kernel_rfl) (by kernel_rfl) (by kernel_rfl) (by decide) (fun _ _ _ h => h) (by rfl) (by assumption) ?_
            try simp only [Act.put, List.setIfInBounds_toArray, List.set_cons_zero, List.set_cons_succ]
            refine pickN 4 (some 139) rfl rfl (by kernel_rfl) (by kernel_rfl) (by kernel_rfl) (by decide) (fun _ _ _ h => h) (by rfl) (by assumption) ?_
            try simp only [Act.put, List.setIfInBounds_toArray, List.set_cons_zero, List.set_cons_succ]
            refine pickN 5 (some 140) rfl rfl (by kernel_rfl) (by kernel_rfl) (by kernel_rfl) (by decide) (fun _ _ _ h => h) (by rfl) (by assumption) ?_
            try simp only [Act.put, List.setIfInBounds_toArray, List.set_cons_zero, List.set_cons_succ]
            refine pickN 6 (some 141) rfl rfl (by kernel_rfl) (by kernel_rfl) (by kernel_rfl) (by decide) (fun _ _ _ h => h) (by rfl) (by assumption) ?_
            try simp only [Act.put, List.setIfInBounds_toArray, List.set_cons_zero, List.set_cons_succ]
            refine pickN 7 (some 142) rfl rfl (by kernel_rfl) (by kernel_rfl) (by kernel_rfl) (by decide) (fun _ _ _ h => h) (by rfl) (by assumption) ?_
            try simp only [Act.put, List.setIfInBounds_toArray, List.set_cons_zero, List.set_cons_succ]
            refine pickN 8 (some 143) rfl rfl (by kernel_rfl) (by kernel_rfl) (by kernel_rfl) (by decide) (fun _ _ _ h => h) (by rfl) (by assumption) ?_
            try simp only [Act.put, List.setIfInBounds_toArray, List.set_cons_zero, List.set_cons_succ]
            refine pickN 9 (some 144) rfl rfl (by kernel_rfl) (by kernel_rfl) (by kernel_rfl) (by decide) (fun _ _ _ h => h) (by rfl) (by assumption) ?_
            try simp only [Act.put, List.setIfInBounds_toArray, List.set_cons_zero, List.set_cons_succ]
            refine pickN 10 (some 145) rfl rfl (by kernel_rfl) (by kernel_rfl) (by kernel_rfl) (by decide) (fun _ _ _ h => h) (by rfl) (by assumption) ?_
            try simp only [Act.put, List.setIfInBounds_toArray, List.set_cons_zero, List.set_cons_succ]
            refine pickN 11 (some 146) rfl rfl (by kernel_rfl) (by kernel_rfl) (by kernel_rfl) (by decide) (fun _ _ _ h => h) (by rfl) (by assumption) ?_
            try simp only [Act.put, List.setIfInBounds_toArray, List.set_cons_zero, List.set_cons_succ]
            refine pickN 12 (some 147) rfl rfl (by kernel_rfl) (by kernel_rfl) (by kernel_rfl) (by decide) (fun _ _ _ h => h) (by rfl) (by assumption) ?_
            try simp only [Act.put, List.setIfInBounds_toArray, List.set_cons_zero, List.set_cons_succ]
            refine pickN 13 (some 148) rfl rfl (by kernel_rfl) (by kernel_rfl) (by kernel_rfl) (by decide) (fun _ _ _ h => h) (by rfl) (by assumption) ?_
            try simp only [Act.put, List.setIfInBounds_toArray, List.set_cons_zero, List.set_cons_succ]
            refine pickN 14 (some 149) rfl rfl (by kernel_rfl) (by kernel_rfl) (by kernel_rfl) (by decide) (fun _ _ _ h => h) (by rfl) (by assumption) ?_
            try simp only [Act.put, List.setIfInBounds_toArray, List.set_cons_zero, List.set_cons_succ]
            refine pickN 15 (some 150) rfl rfl (by kernel_rfl) (by kernel_rfl) (by kernel_rfl) (by decide) (fun _ _ _ h => h) (by rfl) (by assumption) ?_
            try simp only [Act.put, List.setIfInBounds_toArray, List.set_cons_zero, List.set_cons_succ]
            refine pickA (v := ?_) 16 (some 151) rfl rfl (by kernel_rfl) (by kernel_rfl) (by kernel_rfl) (by decide) (fun _ _ _ h => h) (by rfl) ?_ (by assumption) ?_
            rotate_left
            · intro w'
              go_simp
              try with_reducible rfl
            try simp only [Act.put, List.setIfInBounds_toArray, List.set_cons_zero, List.set_cons_succ]
            refine doneL (by kernel_rfl) ?_ _
            clear hHeld
            go_wp2
            exact ⟨⟨n + 1, i, k + 1, by omega, by omega, by omega, by simp, by simp, by simp, by show _ = _; rw [SN2.out], by show _ = _; rw [TY2.out], QA, QB, QC, HR, B⟩, by simp [intOf]; omega⟩
        · have KA2 := KA hpa
          have SY2 := hide (SY hpa)
          have TN2 := hide (TN (by rw [hpa]; rfl))
          clear KA KC SY SN TY TN
          obtain ⟨hjB, hbv⟩ := List.getElem?_eq_some_iff.1 KA2
          clear KA2
          have hiB : i < nB := by rw [← hnB.out]; exact hjB
          have iB : (i : Int) < nB := by omega
          have ii0 : (0 : Int) ≤ i := by omega
          have dB : decide ((i : Int) < (nB : Int)) = true := decide_eq_true iB
          obtain ⟨gb, ob, cb, ev, -, -⟩ := QB.out.form (by omega)
          injection ev with ev el ec
          clear el
          subst ev ec
          have LDB : Hid (∀ w', Below wr.heap.size wr w' → (Instr.loadAt 40 (.pointer (some ⟨gb, ob + i * 5, none⟩))).run Tryd.prog w' = .ok (.agg #[.int .i64 a.id, .int .i64 a.rk, .int .u64 a.kn, .int .i64 a.ln, .int .u64 a.bt]) w') := fun w' hb => by rw [← hbv]; exact (QB.out.below hb).ldr i hjB
          clear hbv hpa
          go_wp2_with fail
          have dr := (Below.refl wr.heap.size wr).drew
          replace QA := hide (QA.out.below dr)
          replace QB := hide (QB.out.below dr)
          replace QC := hide (QC.out.below dr)
          replace HR := hide (HR.out.below dr)
          replace B := hide (B.out.trans (dr.mono B.out.size))
          have BW := hide dr
          refine regionL 16 (fun w' => (Instr.loadAt 40 (.pointer (some ⟨gb, ob + i * 5, none⟩))).run Tryd.prog w' = .ok (.agg #[.int .i64 a.id, .int .i64 a.rk, .int .u64 a.kn, .int .i64 a.ln, .int .u64 a.bt]) w' ∧ (Instr.loadAt 40 (.pointer (some ⟨ga, oa + n * 5, none⟩))).run Tryd.prog w' = .ok (.agg #[.int .i64 a.id, .int .i64 a.rk, .int .u64 a.kn, .int .i64 a.ln, .int .u64 a.bt]) w') mixed ⟨LDB.out _ dr, LDA.out _ dr⟩ (fun hHeld => ?_)
          generalize wr.drew = W1 at *
          refine pickA (v := ?_) 0 (some 100) rfl rfl (by kernel_rfl) (by kernel_rfl) (by kernel_rfl) (by decide) (fun _ _ _ h => h) (by rfl) ?_ (by assumption) ?_
          rotate_left
          · intro w'
            go_simp
            try with_reducible rfl
          try simp only [Act.put, List.setIfInBounds_toArray, List.set_cons_zero, List.set_cons_succ]
          refine pickA (v := ?_) 1 (some 101) rfl rfl (by kernel_rfl) (by kernel_rfl) (by kernel_rfl) (by decide) (fun _ _ _ h => h) (by rfl) ?_ (by assumption) ?_
          rotate_left
          · intro w'
            go_simp
            try with_reducible rfl
          try simp only [Act.put, List.setIfInBounds_toArray, List.set_cons_zero, List.set_cons_succ]
          refine pickA (v := ?_) 2 (some 102) rfl rfl (by kernel_rfl) (by kernel_rfl) (by kernel_rfl) (by decide) (fun _ _ _ h => h) (by rfl) ?_ (by assumption) ?_
          rotate_left
          · intro w'
            go_simp
            try with_reducible rfl
          try simp only [Act.put, List.setIfInBounds_toArray, List.set_cons_zero, List.set_cons_succ]
          refine pickA (v := .bool true) 3 (some 103) rfl rfl (by kernel_rfl) (by kernel_rfl) (by kernel_rfl) (by decide) (fun _ _ _ h => h) (by rfl) ?_ (by assumption) ?_
          · intro w'
            go_simp
            try rfl
          try simp only [Act.put, List.setIfInBounds_toArray, List.set_cons_zero, List.set_cons_succ]
          refine pickA (v := ?_) 4 (some 104) rfl rfl (by kernel_rfl) (by kernel_rfl) (by kernel_rfl) (by decide) (fun _ _ _ h => h) (by rfl) ?_ (by assumption) ?_
          rotate_left
          · intro w'
            go_simp
            try with_reducible rfl
          try simp only [Act.put, List.setIfInBounds_toArray, List.set_cons_zero, List.set_cons_succ]
          refine pickA (v := ?_) 5 (some 105) rfl rfl (by kernel_rfl) (by kernel_rfl) (by kernel_rfl) (by decide) (fun _ _ _ h => h) (by rfl) ?_ (by assumption) ?_
          rotate_left
          · intro w'
            go_simp
            try with_reducible rfl
          try simp only [Act.put, List.setIfInBounds_toArray, List.set_cons_zero, List.set_cons_succ]
          refine pickA (v := ?_) 6 (some 106) rfl rfl (by kernel_rfl) (by kernel_rfl) (by kernel_rfl) (by decide) (fun _ _ _ h => h) (by rfl) ?_ (by assumption) ?_
          rotate_left
          · intro w'
            go_simp
            try with_reducible rfl
          try simp only [Act.put, List.setIfInBounds_toArray, List.set_cons_zero, List.set_cons_succ]
          refine pickA (v := ?_) 7 (some 107) rfl rfl (by kernel_rfl) (by kernel_rfl) (by kernel_rfl) (by decide) (fun _ _ _ h => h) (by rfl) ?_ (by assumption) ?_
          rotate_left
          · intro w'
            go_simp
            try with_reducible rfl
          try simp only [Act.put, List.setIfInBounds_toArray, List.set_cons_zero, List.set_cons_succ]
          refine pickL (v := .agg #[.int .i64 a.id, .int .i64 a.rk, .int .u64 a.kn, .int .i64 a.ln, .int .u64 a.bt]) 8 (some 108) rfl rfl (by kernel_rfl) (by kernel_rfl) (by kernel_rfl) (by decide) (by kernel_rfl) (by kernel_rfl) (fun _ _ _ h => h) (by rfl) ?_ (by assumption) ?_
          · intro w' hSw
            obtain ⟨q0, q1⟩ := hSw
            exact exec_load rfl rfl q0
          try simp only [Act.put, List.setIfInBounds_toArray, List.set_cons_zero, List.set_cons_succ]
          refine pickA (v := ?_) 9 (some 109) rfl rfl (by kernel_rfl) (by kernel_rfl) (by kernel_rfl) (by decide) (fun _ _ _ h => h) (by rfl) ?_ (by assumption) ?_
          rotate_left
          · intro w'
            go_simp
            try with_reducible rfl
          try simp only [Act.put, List.setIfInBounds_toArray, List.set_cons_zero, List.set_cons_succ]
          refine pickA (v := ?_) 10 (some 110) rfl rfl (by kernel_rfl) (by kernel_rfl) (by kernel_rfl) (by decide) (fun _ _ _ h => h) (by rfl) ?_ (by assumption) ?_
          rotate_left
          · intro w'
            go_simp
            try with_reducible rfl
          try simp only [Act.put, List.setIfInBounds_toArray, List.set_cons_zero, List.set_cons_succ]
          refine pickA (v := ?_) 11 (some 111) rfl rfl (by kernel_rfl) (by kernel_rfl) (by kernel_rfl) (by decide) (fun _ _ _ h => h) (by rfl) ?_ (by assumption) ?_
          rotate_left
          · intro w'
            go_simp
            try with_reducible rfl
          try simp only [Act.put, List.setIfInBounds_toArray, List.set_cons_zero, List.set_cons_succ]
          refine pickL (v := .agg #[.int .i64 a.id, .int .i64 a.rk, .int .u64 a.kn, .int .i64 a.ln, .int .u64 a.bt]) 12 (some 112) rfl rfl (by kernel_rfl) (by kernel_rfl) (by kernel_rfl) (by decide) (by kernel_rfl) (by kernel_rfl) (fun _ _ _ h => h) (by rfl) ?_ (by assumption) ?_
          · intro w' hSw
            obtain ⟨q0, q1⟩ := hSw
            exact exec_load rfl rfl q1
          try simp only [Act.put, List.setIfInBounds_toArray, List.set_cons_zero, List.set_cons_succ]
          refine pickA (v := .bool true) 13 (some 113) rfl rfl (by kernel_rfl) (by kernel_rfl) (by kernel_rfl) (by decide) (fun _ _ _ h => h) (by rfl) ?_ (by assumption) ?_
          · intro w'
            exact exec_bin rguard rfl rfl rfl (eqr_same a _)
          try simp only [Act.put, List.setIfInBounds_toArray, List.set_cons_zero, List.set_cons_succ]
          refine pickA (v := ?_) 14 (some 114) rfl rfl (by kernel_rfl) (by kernel_rfl) (by kernel_rfl) (by decide) (fun _ _ _ h => h) (by rfl) ?_ (by assumption) ?_
          rotate_left
          · intro w'
            go_simp
            try with_reducible rfl
          try simp only [Act.put, List.setIfInBounds_toArray, List.set_cons_zero, List.set_cons_succ]
          refine pickA (v := ?_) 15 (some 99) rfl rfl (by kernel_rfl) (by kernel_rfl) (by kernel_rfl) (by decide) (fun _ _ _ h => h) (by rfl) ?_ (by assumption) ?_
          rotate_left
          · intro w'
            go_simp
            try with_reducible rfl
          try simp only [Act.put, List.setIfInBounds_toArray, List.set_cons_zero, List.set_cons_succ]
          refine doneL (by kernel_rfl) ?_ _
          clear hHeld
          clear LDB LDA dr
          go_wp2_with fail
          have dr := (Below.refl W1.heap.size W1).drew
          replace QA := hide (QA.out.below dr)
          replace QB := hide (QB.out.below dr)
          replace QC := hide (QC.out.below dr)
          replace HR := hide (HR.out.below dr)
          replace B := hide (B.out.trans (dr.mono B.out.size))
          clear dr
          refine regionL 17 (fun _ => True) mixed trivial (fun hHeld => ?_)
          generalize W1.drew = WZ at *
          refine pickA (v := ?_) 0 (some 135) rfl rfl (by kernel_rfl) (by kernel_rfl) (by kernel_rfl) (by decide) (fun _ _ _ h => h) (by rfl) ?_ (by assumption) ?_
          rotate_left
          · intro w'
            go_simp
            try with_reducible rfl
          try simp only [Act.put, List.setIfInBounds_toArray, List.set_cons_zero, List.set_cons_succ]
          refine pickA (v := .bool false) 1 (some 136) rfl rfl (by kernel_rfl) (by kernel_rfl) (by kernel_rfl) (by decide) (fun _ _ _ h => h) (by rfl) ?_ (by assumption) ?_
          · intro w'
            go_simp
            first | rfl | exact hzz.out
          try simp only [Act.put, List.setIfInBounds_toArray, List.set_cons_zero, List.set_cons_succ]
          refine pickA (v := ?_) 2 (some 137) rfl rfl (by kernel_rfl) (by kernel_rfl) (by kernel_rfl) (by decide) (fun _ _ _ h => h) (by rfl) ?_ (by assumption) ?_
          rotate_left
          · intro w'
            go_simp
            try with_reducible rfl
          try simp only [Act.put, List.setIfInBounds_toArray, List.set_cons_zero, List.set_cons_succ]
          refine pickN 3 (some 138) rfl rfl (by kernel_rfl) (by kernel_rfl) (by kernel_rfl) (by decide) (fun _ _ _ h => h) (by rfl) (by assumption) ?_
          try simp only [Act.put, List.setIfInBounds_toArray, List.set_cons_zero, List.set_cons_succ]
          refine pickN 4 (some 139) rfl rfl (by kernel_rfl) (by kernel_rfl) (by kernel_rfl) (by decide) (fun _ _ _ h => h) (by rfl) (by assumption) ?_
          try simp only [Act.put, List.setIfInBounds_toArray, List.set_cons_zero, List.set_cons_succ]
          refine pickN 5 (some 140) rfl rfl (by kernel_rfl) (by kernel_rfl) (by kernel_rfl) (by decide) (fun _ _ _ h => h) (by rfl) (by assumption) ?_
          try simp only [Act.put, List.setIfInBounds_toArray, List.set_cons_zero, List.set_cons_succ]
          refine pickN 6 (some 141) rfl rfl (by kernel_rfl) (by kernel_rfl) (by kernel_rfl) (by decide) (fun _ _ _ h => h) (by rfl) (by assumption) ?_
          try simp only [Act.put, List.setIfInBounds_toArray, List.set_cons_zero, List.set_cons_succ]
          refine pickN 7 (some 142) rfl rfl (by kernel_rfl) (by kernel_rfl) (by kernel_rfl) (by decide) (fun _ _ _ h => h) (by rfl) (by assumption) ?_
          try simp only [Act.put, List.setIfInBounds_toArray, List.set_cons_zero, List.set_cons_succ]
          refine pickN 8 (some 143) rfl rfl (by kernel_rfl) (by kernel_rfl) (by kernel_rfl) (by decide) (fun _ _ _ h => h) (by rfl) (by assumption) ?_
          try simp only [Act.put, List.setIfInBounds_toArray, List.set_cons_zero, List.set_cons_succ]
          refine pickN 9 (some 144) rfl rfl (by kernel_rfl) (by kernel_rfl) (by kernel_rfl) (by decide) (fun _ _ _ h => h) (by rfl) (by assumption) ?_
          try simp only [Act.put, List.setIfInBounds_toArray, List.set_cons_zero, List.set_cons_succ]
          refine pickN 10 (some 145) rfl rfl (by kernel_rfl) (by kernel_rfl) (by kernel_rfl) (by decide) (fun _ _ _ h => h) (by rfl) (by assumption) ?_
          try simp only [Act.put, List.setIfInBounds_toArray, List.set_cons_zero, List.set_cons_succ]
          refine pickN 11 (some 146) rfl rfl (by kernel_rfl) (by kernel_rfl) (by kernel_rfl) (by decide) (fun _ _ _ h => h) (by rfl) (by assumption) ?_
          try simp only [Act.put, List.setIfInBounds_toArray, List.set_cons_zero, List.set_cons_succ]
          refine pickN 12 (some 147) rfl rfl (by kernel_rfl) (by kernel_rfl) (by kernel_rfl) (by decide) (fun _ _ _ h => h) (by rfl) (by assumption) ?_
          try simp only [Act.put, List.setIfInBounds_toArray, List.set_cons_zero, List.set_cons_succ]
          refine pickN 13 (some 148) rfl rfl (by kernel_rfl) (by kernel_rfl) (by kernel_rfl) (by decide) (fun _ _ _ h => h) (by rfl) (by assumption) ?_
          try simp only [Act.put, List.setIfInBounds_toArray, List.set_cons_zero, List.set_cons_succ]
          refine pickN 14 (some 149) rfl rfl (by kernel_rfl) (by kernel_rfl) (by kernel_rfl) (by decide) (fun _ _ _ h => h) (by rfl) (by assumption) ?_
          try simp only [Act.put, List.setIfInBounds_toArray, List.set_cons_zero, List.set_cons_succ]
          refine pickN 15 (some 150) rfl rfl (by kernel_rfl) (by kernel_rfl) (by kernel_rfl) (by decide) (fun _ _ _ h => h) (by rfl) (by assumption) ?_
          try simp only [Act.put, List.setIfInBounds_toArray, List.set_cons_zero, List.set_cons_succ]
          refine pickA (v := ?_) 16 (some 151) rfl rfl (by kernel_rfl) (by kernel_rfl) (by kernel_rfl) (by decide) (fun _ _ _ h => h) (by rfl) ?_ (by assumption) ?_
          rotate_left
          · intro w'
            go_simp
            try with_reducible rfl
          try simp only [Act.put, List.setIfInBounds_toArray, List.set_cons_zero, List.set_cons_succ]
          refine doneL (by kernel_rfl) ?_ _
          clear hHeld
          go_wp2
          exact ⟨⟨n + 1, i + 1, k, by omega, by omega, by omega, by simp, by simp, by simp, by show _ = _; rw [SY2.out], by show _ = _; rw [TN2.out], QA, QB, QC, HR, B⟩, by simp [intOf]; omega⟩
      · obtain ⟨ga, oa, ca, ev, -, -⟩ := QA.out.form (by rw [hnA.out]; omega)
        injection ev with ev el ec
        clear el
        subst ev ec
        have hjA : n < A.length := by rw [hnA.out]; exact hlt
        have iN : (n : Int) < nA := by omega
        have i0 : (0 : Int) ≤ n := by omega
        have dN : decide ((n : Int) < (nA : Int)) = true := decide_eq_true iN
        have KA := fl_at p A n hjA
        have KC := fl_at (fun r => !p r) A n hjA
        have SY := fl_yes p A n hjA
        have SN := fl_no p A n hjA
        have TY := fl_yes (fun r => !p r) A n hjA
        have TN := fl_no (fun r => !p r) A n hjA
        rw [hI.out] at KA SY SN
        rw [hK.out] at KC TY TN
        obtain ⟨q, hnq⟩ : ∃ q, n = q + 1 := ⟨n - 1, by omega⟩
        have hzz : Hid (0 < n) := by show 0 < n; omega
        clear hz
        have dz : decide ((0 : Int) < (n : Int)) = true := decide_eq_true (by omega)
        have iQ : (q : Int) < nA := by omega
        have iq0 : (0 : Int) ≤ q := by omega
        have hwq : IntKind.i64.wrap ((n : Int) - 1) = (q : Int) := by rw [wrap_nn _ (by omega) (by omega)]; omega
        have hjQ : q < A.length := by omega
        obtain ⟨a, ha⟩ : ∃ a, A[n] = a := ⟨_, rfl⟩
        obtain ⟨z1, hz1⟩ : ∃ z, A[q] = z := ⟨_, rfl⟩
        have hlt9 : Hid (klt (z1.rk, z1.kn) (a.rk, a.kn) = true) := by show _ = _; rw [klt_keyLt, ← ha, ← hz1]; exact decide_eq_true (List.pairwise_iff_getElem.1 hsA.out q n hjQ hjA (by omega))
        have LK1 : Hid (∀ w', Below wr.heap.size wr w' → (Instr.loadAt 38 (.pointer (some ⟨ga, oa + q * 5 + 1, none⟩))).run Tryd.prog w' = .ok (.agg #[.int .i64 z1.rk, .int .u64 z1.kn]) w') := fun w' hb => by rw [← hz1]; exact (QA.out.below hb).ldk q hjQ
        have LK2 : Hid (∀ w', Below wr.heap.size wr w' → (Instr.loadAt 38 (.pointer (some ⟨ga, oa + n * 5 + 1, none⟩))).run Tryd.prog w' = .ok (.agg #[.int .i64 a.rk, .int .u64 a.kn]) w') := fun w' hb => by rw [← ha]; exact (QA.out.below hb).ldk n hjA
        clear hz1
        replace hnq := hide hnq
        have LDA : Hid (∀ w', Below wr.heap.size wr w' → (Instr.loadAt 40 (.pointer (some ⟨ga, oa + n * 5, none⟩))).run Tryd.prog w' = .ok (.agg #[.int .i64 a.id, .int .i64 a.rk, .int .u64 a.kn, .int .i64 a.ln, .int .u64 a.bt]) w') := fun w' hb => by rw [← ha]; exact (QA.out.below hb).ldr n hjA
        rw [ha] at KA KC SY SN TY TN
        clear ha
        cases hpa : p a
        · have KC2 := KC (by rw [hpa]; rfl)
          have TY2 := hide (TY (by rw [hpa]; rfl))
          have SN2 := hide (SN hpa)
          clear KA KC SY SN TY TN
          obtain ⟨hjC, hcv⟩ := List.getElem?_eq_some_iff.1 KC2
          clear KC2
          have hkC : k < nC := by rw [← hnC.out]; exact hjC
          have iC : (k : Int) < nC := by omega
          have ik0 : (0 : Int) ≤ k := by omega
          have dC : decide ((k : Int) < (nC : Int)) = true := decide_eq_true iC
          obtain ⟨gc, oc, cc, ev, -, -⟩ := QC.out.form (by omega)
          injection ev with ev el ec
          clear el
          subst ev ec
          have LDC : Hid (∀ w', Below wr.heap.size wr w' → (Instr.loadAt 40 (.pointer (some ⟨gc, oc + k * 5, none⟩))).run Tryd.prog w' = .ok (.agg #[.int .i64 a.id, .int .i64 a.rk, .int .u64 a.kn, .int .i64 a.ln, .int .u64 a.bt]) w') := fun w' hb => by rw [← hcv]; exact (QC.out.below hb).ldr k hjC
          clear hcv
          by_cases hiB : i < nB
          · have iB : (i : Int) < nB := by omega
            have ii0 : (0 : Int) ≤ i := by omega
            have dB : decide ((i : Int) < (nB : Int)) = true := decide_eq_true iB
            have hjB : i < (A.filter p).length := by rw [hnB.out]; exact hiB
            obtain ⟨gb, ob, cb, ev, -, -⟩ := QB.out.form (by omega)
            injection ev with ev el ec
            clear el
            subst ev ec
            obtain ⟨b9, hb9⟩ : ∃ b, (A.filter p)[i] = b := ⟨_, rfl⟩
            have LDB : Hid (∀ w', Below wr.heap.size wr w' → (Instr.loadAt 40 (.pointer (some ⟨gb, ob + i * 5, none⟩))).run Tryd.prog w' = .ok (.agg #[.int .i64 b9.id, .int .i64 b9.rk, .int .u64 b9.kn, .int .i64 b9.ln, .int .u64 b9.bt]) w') := fun w' hb => by rw [← hb9]; exact (QB.out.below hb).ldr i hjB
            have hba : Hid (b9 ≠ a) := by
              intro hc
              have := fl_in p A i b9 (by rw [List.getElem?_eq_getElem hjB, hb9])
              rw [hc, hpa] at this
              cases this
            clear hb9 hpa
            go_wp2_with fail
            have dr := (Below.refl wr.heap.size wr).drew
            replace QA := hide (QA.out.below dr)
            replace QB := hide (QB.out.below dr)
            replace QC := hide (QC.out.below dr)
            replace HR := hide (HR.out.below dr)
            replace B := hide (B.out.trans (dr.mono B.out.size))
            have BW := hide dr
            refine regionL 16 (fun w' => (Instr.loadAt 40 (.pointer (some ⟨gb, ob + i * 5, none⟩))).run Tryd.prog w' = .ok (.agg #[.int .i64 b9.id, .int .i64 b9.rk, .int .u64 b9.kn, .int .i64 b9.ln, .int .u64 b9.bt]) w' ∧ (Instr.loadAt 40 (.pointer (some ⟨ga, oa + n * 5, none⟩))).run Tryd.prog w' = .ok (.agg #[.int .i64 a.id, .int .i64 a.rk, .int .u64 a.kn, .int .i64 a.ln, .int .u64 a.bt]) w') mixed ⟨LDB.out _ dr, LDA.out _ dr⟩ (fun hHeld => ?_)
            generalize wr.drew = W1 at *
            refine pickA (v := ?_) 0 (some 100) rfl rfl (by kernel_rfl) (by kernel_rfl) (by kernel_rfl) (by decide) (fun _ _ _ h => h) (by rfl) ?_ (by assumption) ?_
            rotate_left
            · intro w'
              go_simp
              try with_reducible rfl
            try simp only [Act.put, List.setIfInBounds_toArray, List.set_cons_zero, List.set_cons_succ]
            refine pickA (v := ?_) 1 (some 101) rfl rfl (by kernel_rfl) (by kernel_rfl) (by kernel_rfl) (by decide) (fun _ _ _ h => h) (by rfl) ?_ (by assumption) ?_
            rotate_left
            · intro w'
              go_simp
              try with_reducible rfl
            try simp only [Act.put, List.setIfInBounds_toArray, List.set_cons_zero, List.set_cons_succ]
            refine pickA (v := ?_) 2 (some 102) rfl rfl (by kernel_rfl) (by kernel_rfl) (by kernel_rfl) (by decide) (fun _ _ _ h => h) (by rfl) ?_ (by assumption) ?_
            rotate_left
            · intro w'
              go_simp
              try with_reducible rfl
            try simp only [Act.put, List.setIfInBounds_toArray, List.set_cons_zero, List.set_cons_succ]
            refine pickA (v := .bool true) 3 (some 103) rfl rfl (by kernel_rfl) (by kernel_rfl) (by kernel_rfl) (by decide) (fun _ _ _ h => h) (by rfl) ?_ (by assumption) ?_
            · intro w'
              go_simp
              try rfl
            try simp only [Act.put, List.setIfInBounds_toArray, List.set_cons_zero, List.set_cons_succ]
            refine pickA (v := ?_) 4 (some 104) rfl rfl (by kernel_rfl) (by kernel_rfl) (by kernel_rfl) (by decide) (fun _ _ _ h => h) (by rfl) ?_ (by assumption) ?_
            rotate_left
            · intro w'
              go_simp
              try with_reducible rfl
            try simp only [Act.put, List.setIfInBounds_toArray, List.set_cons_zero, List.set_cons_succ]
            refine pickA (v := ?_) 5 (some 105) rfl rfl (by kernel_rfl) (by kernel_rfl) (by kernel_rfl) (by decide) (fun _ _ _ h => h) (by rfl) ?_ (by assumption) ?_
            rotate_left
            · intro w'
              go_simp
              try with_reducible rfl
            try simp only [Act.put, List.setIfInBounds_toArray, List.set_cons_zero, List.set_cons_succ]
            refine pickA (v := ?_) 6 (some 106) rfl rfl (by kernel_rfl) (by kernel_rfl) (by kernel_rfl) (by decide) (fun _ _ _ h => h) (by rfl) ?_ (by assumption) ?_
            rotate_left
            · intro w'
              go_simp
              try with_reducible rfl
            try simp only [Act.put, List.setIfInBounds_toArray, List.set_cons_zero, List.set_cons_succ]
            refine pickA (v := ?_) 7 (some 107) rfl rfl (by kernel_rfl) (by kernel_rfl) (by kernel_rfl) (by decide) (fun _ _ _ h => h) (by rfl) ?_ (by assumption) ?_
            rotate_left
            · intro w'
              go_simp
              try with_reducible rfl
            try simp only [Act.put, List.setIfInBounds_toArray, List.set_cons_zero, List.set_cons_succ]
            refine pickL (v := .agg #[.int .i64 b9.id, .int .i64 b9.rk, .int .u64 b9.kn, .int .i64 b9.ln, .int .u64 b9.bt]) 8 (some 108) rfl rfl (by kernel_rfl) (by kernel_rfl) (by kernel_rfl) (by decide) (by kernel_rfl) (by kernel_rfl) (fun _ _ _ h => h) (by rfl) ?_ (by assumption) ?_
            · intro w' hSw
              obtain ⟨q0, q1⟩ := hSw
              exact exec_load rfl rfl q0
            try simp only [Act.put, List.setIfInBounds_toArray, List.set_cons_zero, List.set_cons_succ]
            refine pickA (v := ?_) 9 (some 109) rfl rfl (by kernel_rfl) (by kernel_rfl) (by kernel_rfl) (by decide) (fun _ _ _ h => h) (by rfl) ?_ (by assumption) ?_
            rotate_left
            · intro w'
              go_simp
              try with_reducible rfl
            try simp only [Act.put, List.setIfInBounds_toArray, List.set_cons_zero, List.set_cons_succ]
            refine pickA (v := ?_) 10 (some 110) rfl rfl (by kernel_rfl) (by kernel_rfl) (by kernel_rfl) (by decide) (fun _ _ _ h => h) (by rfl) ?_ (by assumption) ?_
            rotate_left
            · intro w'
              go_simp
              try with_reducible rfl
            try simp only [Act.put, List.setIfInBounds_toArray, List.set_cons_zero, List.set_cons_succ]
            refine pickA (v := ?_) 11 (some 111) rfl rfl (by kernel_rfl) (by kernel_rfl) (by kernel_rfl) (by decide) (fun _ _ _ h => h) (by rfl) ?_ (by assumption) ?_
            rotate_left
            · intro w'
              go_simp
              try with_reducible rfl
            try simp only [Act.put, List.setIfInBounds_toArray, List.set_cons_zero, List.set_cons_succ]
            refine pickL (v := .agg #[.int .i64 a.id, .int .i64 a.rk, .int .u64 a.kn, .int .i64 a.ln, .int .u64 a.bt]) 12 (some 112) rfl rfl (by kernel_rfl) (by kernel_rfl) (by kernel_rfl) (by decide) (by kernel_rfl) (by kernel_rfl) (fun _ _ _ h => h) (by rfl) ?_ (by assumption) ?_
            · intro w' hSw
              obtain ⟨q0, q1⟩ := hSw
              exact exec_load rfl rfl q1
            try simp only [Act.put, List.setIfInBounds_toArray, List.set_cons_zero, List.set_cons_succ]
            refine pickA (v := .bool false) 13 (some 113) rfl rfl (by kernel_rfl) (by kernel_rfl) (by kernel_rfl) (by decide) (fun _ _ _ h => h) (by rfl) ?_ (by assumption) ?_
            · intro w'
              exact exec_bin rguard rfl rfl rfl (eqr_not b9 a hba.out _)
            try simp only [Act.put, List.setIfInBounds_toArray, List.set_cons_zero, List.set_cons_succ]
            refine pickA (v := ?_) 14 (some 114) rfl rfl (by kernel_rfl) (by kernel_rfl) (by kernel_rfl) (by decide) (fun _ _ _ h => h) (by rfl) ?_ (by assumption) ?_
            rotate_left
            · intro w'
              go_simp
              try with_reducible rfl
            try simp only [Act.put, List.setIfInBounds_toArray, List.set_cons_zero, List.set_cons_succ]
            refine pickA (v := ?_) 15 (some 99) rfl rfl (by kernel_rfl) (by kernel_rfl) (by kernel_rfl) (by decide) (fun _ _ _ h => h) (by rfl) ?_ (by assumption) ?_
            rotate_left
            · intro w'
              go_simp
              try with_reducible rfl
            try simp only [Act.put, List.setIfInBounds_toArray, List.set_cons_zero, List.set_cons_succ]
            refine doneL (by kernel_rfl) ?_ _
            clear hHeld
            clear LDB hba dr
            go_wp2_with fail
            have dr := (Below.refl W1.heap.size W1).drew
            replace QA := hide (QA.out.below dr)
            replace QB := hide (QB.out.below dr)
            replace QC := hide (QC.out.below dr)
            replace HR := hide (HR.out.below dr)
            replace B := hide (B.out.trans (dr.mono B.out.size))
            replace BW := hide (BW.out.trans (dr.mono BW.out.size))
            refine regionL 16 (fun w' => (Instr.loadAt 40 (.pointer (some ⟨gc, oc + k * 5, none⟩))).run Tryd.prog w' = .ok (.agg #[.int .i64 a.id, .int .i64 a.rk, .int .u64 a.kn, .int .i64 a.ln, .int .u64 a.bt]) w' ∧ (Instr.loadAt 40 (.pointer (some ⟨ga, oa + n * 5, none⟩))).run Tryd.prog w' = .ok (.agg #[.int .i64 a.id, .int .i64 a.rk, .int .u64 a.kn, .int .i64 a.ln, .int .u64 a.bt]) w') mixed ⟨LDC.out _ BW.out, LDA.out _ BW.out⟩ (fun hHeld => ?_)
            generalize W1.drew = W2 at *
            refine pickA (v := ?_) 0 (some 118) rfl rfl (by kernel_rfl) (by kernel_rfl) (by kernel_rfl) (by decide) (fun _ _ _ h => h) (by rfl) ?_ (by assumption) ?_
            rotate_left
            · intro w'
              go_simp
              try with_reducible rfl
            try simp only [Act.put, List.setIfInBounds_toArray, List.set_cons_zero, List.set_cons_succ]
            refine pickA (v := ?_) 1 (some 119) rfl rfl (by kernel_rfl) (by kernel_rfl) (by kernel_rfl) (by decide) (fun _ _ _ h => h) (by rfl) ?_ (by assumption) ?_
            rotate_left
            · intro w'
              go_simp
              try with_reducible rfl
            try simp only [Act.put, List.setIfInBounds_toArray, List.set_cons_zero, List.set_cons_succ]
            refine pickA (v := ?_) 2 (some 120) rfl rfl (by kernel_rfl) (by kernel_rfl) (by kernel_rfl) (by decide) (fun _ _ _ h => h) (by rfl) ?_ (by assumption) ?_
            rotate_left
            · intro w'
              go_simp
              try with_reducible rfl
            try simp only [Act.put, List.setIfInBounds_toArray, List.set_cons_zero, List.set_cons_succ]
            refine pickA (v := .bool true) 3 (some 121) rfl rfl (by kernel_rfl) (by kernel_rfl) (by kernel_rfl) (by decide) (fun _ _ _ h => h) (by rfl) ?_ (by assumption) ?_
            · intro w'
              go_simp
              try rfl
            try simp only [Act.put, List.setIfInBounds_toArray, List.set_cons_zero, List.set_cons_succ]
            refine pickA (v := ?_) 4 (some 122) rfl rfl (by kernel_rfl) (by kernel_rfl) (by kernel_rfl) (by decide) (fun _ _ _ h => h) (by rfl) ?_ (by assumption) ?_
            rotate_left
            · intro w'
              go_simp
              try with_reducible rfl
            try simp only [Act.put, List.setIfInBounds_toArray, List.set_cons_zero, List.set_cons_succ]
            refine pickA (v := ?_) 5 (some 123) rfl rfl (by kernel_rfl) (by kernel_rfl) (by kernel_rfl) (by decide) (fun _ _ _ h => h) (by rfl) ?_ (by assumption) ?_
            rotate_left
            · intro w'
              go_simp
              try with_reducible rfl
            try simp only [Act.put, List.setIfInBounds_toArray, List.set_cons_zero, List.set_cons_succ]
            refine pickA (v := ?_) 6 (some 124) rfl rfl (by kernel_rfl) (by kernel_rfl) (by kernel_rfl) (by decide) (fun _ _ _ h => h) (by rfl) ?_ (by assumption) ?_
            rotate_left
            · intro w'
              go_simp
              try with_reducible rfl
            try simp only [Act.put, List.setIfInBounds_toArray, List.set_cons_zero, List.set_cons_succ]
            refine pickA (v := ?_) 7 (some 125) rfl rfl (by kernel_rfl) (by kernel_rfl) (by kernel_rfl) (by decide) (fun _ _ _ h => h) (by rfl) ?_ (by assumption) ?_
            rotate_left
            · intro w'
              go_simp
              try with_reducible rfl
            try simp only [Act.put, List.setIfInBounds_toArray, List.set_cons_zero, List.set_cons_succ]
            refine pickL (v := .agg #[.int .i64 a.id, .int .i64 a.rk, .int .u64 a.kn, .int .i64 a.ln, .int .u64 a.bt]) 8 (some 126) rfl rfl (by kernel_rfl) (by kernel_rfl) (by kernel_rfl) (by decide) (by kernel_rfl) (by kernel_rfl) (fun _ _ _ h => h) (by rfl) ?_ (by assumption) ?_
            · intro w' hSw
              obtain ⟨q0, q1⟩ := hSw
              exact exec_load rfl rfl q0
            try simp only [Act.put, List.setIfInBounds_toArray, List.set_cons_zero, List.set_cons_succ]
            refine pickA (v := ?_) 9 (some 127) rfl rfl (by kernel_rfl) (by kernel_rfl) (by kernel_rfl) (by decide) (fun _ _ _ h => h) (by rfl) ?_ (by assumption) ?_
            rotate_left
            · intro w'
              go_simp
              try with_reducible rfl
            try simp only [Act.put, List.setIfInBounds_toArray, List.set_cons_zero, List.set_cons_succ]
            refine pickA (v := ?_) 10 (some 128) rfl rfl (by kernel_rfl) (by kernel_rfl) (by kernel_rfl) (by decide) (fun _ _ _ h => h) (by rfl) ?_ (by assumption) ?_
            rotate_left
            · intro w'
              go_simp
              try with_reducible rfl
            try simp only [Act.put, List.setIfInBounds_toArray, List.set_cons_zero, List.set_cons_succ]
            refine pickA (v := ?_) 11 (some 129) rfl rfl (by kernel_rfl) (by kernel_rfl) (by kernel_rfl) (by decide) (fun _ _ _ h => h) (by rfl) ?_ (by assumption) ?_
            rotate_left
            · intro w'
              go_simp
              try with_reducible rfl
            try simp only [Act.put, List.setIfInBounds_toArray, List.set_cons_zero, List.set_cons_succ]
            refine pickL (v := .agg #[.int .i64 a.id, .int .i64 a.rk, .int .u64 a.kn, .int .i64 a.ln, .int .u64 a.bt]) 12 (some 130) rfl rfl (by kernel_rfl) (by kernel_rfl) (by kernel_rfl) (by decide) (by kernel_rfl) (by kernel_rfl) (fun _ _ _ h => h) (by rfl) ?_ (by assumption) ?_
            · intro w' hSw
              obtain ⟨q0, q1⟩ := hSw
              exact exec_load rfl rfl q1
            try simp only [Act.put, List.setIfInBounds_toArray, List.set_cons_zero, List.set_cons_succ]
            refine pickA (v := .bool true) 13 (some 131) rfl rfl (by kernel_rfl) (by kernel_rfl) (by kernel_rfl) (by decide) (fun _ _ _ h => h) (by rfl) ?_ (by assumption) ?_
            · intro w'
              exact exec_bin rguard rfl rfl rfl (eqr_same a _)
            try simp only [Act.put, List.setIfInBounds_toArray, List.set_cons_zero, List.set_cons_succ]
            refine pickA (v := ?_) 14 (some 132) rfl rfl (by kernel_rfl) (by kernel_rfl) (by kernel_rfl) (by decide) (fun _ _ _ h => h) (by rfl) ?_ (by assumption) ?_
            rotate_left
            · intro w'
              go_simp
              try with_reducible rfl
            try simp only [Act.put, List.setIfInBounds_toArray, List.set_cons_zero, List.set_cons_succ]
            refine pickA (v := ?_) 15 (some 117) rfl rfl (by kernel_rfl) (by kernel_rfl) (by kernel_rfl) (by decide) (fun _ _ _ h => h) (by rfl) ?_ (by assumption) ?_
            rotate_left
            · intro w'
              go_simp
              try with_reducible rfl
            try simp only [Act.put, List.setIfInBounds_toArray, List.set_cons_zero, List.set_cons_succ]
            refine doneL (by kernel_rfl) ?_ _
            clear hHeld
            clear LDC LDA dr
            go_wp2_with fail
            have dr := (Below.refl W2.heap.size W2).drew
            replace QA := hide (QA.out.below dr)
            replace QB := hide (QB.out.below dr)
            replace QC := hide (QC.out.below dr)
            replace HR := hide (HR.out.below dr)
            replace B := hide (B.out.trans (dr.mono B.out.size))
            have BX0 := hide (BW.out.trans (dr.mono BW.out.size))
            clear dr
            refine regionL 17 (fun w' => (Instr.loadAt 38 (.pointer (some ⟨ga, oa + q * 5 + 1, none⟩))).run Tryd.prog w' = .ok (.agg #[.int .i64 z1.rk, .int .u64 z1.kn]) w' ∧ (Instr.loadAt 38 (.pointer (some ⟨ga, oa + n * 5 + 1, none⟩))).run Tryd.prog w' = .ok (.agg #[.int .i64 a.rk, .int .u64 a.kn]) w') mixed ⟨LK1.out _ BX0.out, LK2.out _ BX0.out⟩ (fun hHeld => ?_)
            generalize W2.drew = WZ at *
            refine pickA (v := ?_) 0 (some 135) rfl rfl (by kernel_rfl) (by kernel_rfl) (by kernel_rfl) (by decide) (fun _ _ _ h => h) (by rfl) ?_ (by assumption) ?_
            rotate_left
            · intro w'
              go_simp
              try with_reducible rfl
            try simp only [Act.put, List.setIfInBounds_toArray, List.set_cons_zero, List.set_cons_succ]
            refine pickA (v := .bool true) 1 (some 136) rfl rfl (by kernel_rfl) (by kernel_rfl) (by kernel_rfl) (by decide) (fun _ _ _ h => h) (by rfl) ?_ (by assumption) ?_
            · intro w'
              go_simp
              first | rfl | exact hzz.out
            try simp only [Act.put, List.setIfInBounds_toArray, List.set_cons_zero, List.set_cons_succ]
            refine pickA (v := ?_) 2 (some 137) rfl rfl (by kernel_rfl) (by kernel_rfl) (by kernel_rfl) (by decide) (fun _ _ _ h => h) (by rfl) ?_ (by assumption) ?_
            rotate_left
            · intro w'
              go_simp
              try with_reducible rfl
            try simp only [Act.put, List.setIfInBounds_toArray, List.set_cons_zero, List.set_cons_succ]
            refine pickA (v := ?_) 3 (some 138) rfl rfl (by kernel_rfl) (by kernel_rfl) (by kernel_rfl) (by decide) (fun _ _ _ h => h) (by rfl) ?_ (by assumption) ?_
            rotate_left
            · intro w'
              go_simp
              try with_reducible rfl
            try simp only [Act.put, List.setIfInBounds_toArray, List.set_cons_zero, List.set_cons_succ]
            refine pickA (v := ?_) 4 (some 139) rfl rfl (by kernel_rfl) (by kernel_rfl) (by kernel_rfl) (by decide) (fun _ _ _ h => h) (by rfl) ?_ (by assumption) ?_
            rotate_left
            · intro w'
              go_simp
              try with_reducible rfl
            try simp only [Act.put, List.setIfInBounds_toArray, List.set_cons_zero, List.set_cons_succ]
            refine pickA (v := .int .i64 (q : Int)) 5 (some 140) rfl rfl (by kernel_rfl) (by kernel_rfl) (by kernel_rfl) (by decide) (fun _ _ _ h => h) (by rfl) ?_ (by assumption) ?_
            · intro w'
              go_simp
              try simp only [hwq]
            try simp only [Act.put, List.setIfInBounds_toArray, List.set_cons_zero, List.set_cons_succ]
            refine pickA (v := ?_) 6 (some 141) rfl rfl (by kernel_rfl) (by kernel_rfl) (by kernel_rfl) (by decide) (fun _ _ _ h => h) (by rfl) ?_ (by assumption) ?_
            rotate_left
            · intro w'
              go_simp
              try with_reducible rfl
            try simp only [Act.put, List.setIfInBounds_toArray, List.set_cons_zero, List.set_cons_succ]
            refine pickA (v := ?_) 7 (some 142) rfl rfl (by kernel_rfl) (by kernel_rfl) (by kernel_rfl) (by decide) (fun _ _ _ h => h) (by rfl) ?_ (by assumption) ?_
            rotate_left
            · intro w'
              go_simp
              try with_reducible rfl
            try simp only [Act.put, List.setIfInBounds_toArray, List.set_cons_zero, List.set_cons_succ]
            refine pickT (v := .agg #[.int .i64 z1.rk, .int .u64 z1.kn]) 8 (some 143) rfl rfl (by kernel_rfl) (by kernel_rfl) (by kernel_rfl) (by decide) (by kernel_rfl) (by kernel_rfl) (by kernel_rfl) (fun _ _ _ h => h) (by rfl) ?_ (by assumption) ?_
            · intro w' hSw
              obtain ⟨q0, q1⟩ := hSw
              exact exec_load rfl rfl q0
            try simp only [Act.put, List.setIfInBounds_toArray, List.set_cons_zero, List.set_cons_succ]
            refine pickA (v := ?_) 9 (some 144) rfl rfl (by kernel_rfl) (by kernel_rfl) (by kernel_rfl) (by decide) (fun _ _ _ h => h) (by rfl) ?_ (by assumption) ?_
            rotate_left
            · intro w'
              go_simp
              try with_reducible rfl
            try simp only [Act.put, List.setIfInBounds_toArray, List.set_cons_zero, List.set_cons_succ]
            refine pickA (v := ?_) 10 (some 145) rfl rfl (by kernel_rfl) (by kernel_rfl) (by kernel_rfl) (by decide) (fun _ _ _ h => h) (by rfl) ?_ (by assumption) ?_
            rotate_left
            · intro w'
              go_simp
              try with_reducible rfl
            try simp only [Act.put, List.setIfInBounds_toArray, List.set_cons_zero, List.set_cons_succ]
            refine pickA (v := ?_) 11 (some 146) rfl rfl (by kernel_rfl) (by kernel_rfl) (by kernel_rfl) (by decide) (fun _ _ _ h => h) (by rfl) ?_ (by assumption) ?_
            rotate_left
            · intro w'
              go_simp
              try with_reducible rfl
            try simp only [Act.put, List.setIfInBounds_toArray, List.set_cons_zero, List.set_cons_succ]
            refine pickA (v := ?_) 12 (some 147) rfl rfl (by kernel_rfl) (by kernel_rfl) (by kernel_rfl) (by decide) (fun _ _ _ h => h) (by rfl) ?_ (by assumption) ?_
            rotate_left
            · intro w'
              go_simp
              try with_reducible rfl
            try simp only [Act.put, List.setIfInBounds_toArray, List.set_cons_zero, List.set_cons_succ]
            refine pickT (v := .agg #[.int .i64 a.rk, .int .u64 a.kn]) 13 (some 148) rfl rfl (by kernel_rfl) (by kernel_rfl) (by kernel_rfl) (by decide) (by kernel_rfl) (by kernel_rfl) (by kernel_rfl) (fun _ _ _ h => h) (by rfl) ?_ (by assumption) ?_
            · intro w' hSw
              obtain ⟨q0, q1⟩ := hSw
              exact exec_load rfl rfl q1
            try simp only [Act.put, List.setIfInBounds_toArray, List.set_cons_zero, List.set_cons_succ]
            refine oneL (i := 14) (by kernel_rfl) rfl (fun K hK => ?_)
            go_simp
            refine (r9Less_any z1.rk z1.kn a.rk a.kn WZ).mono ?_
            rintro e w7 ⟨rfl, hb⟩
            rw [hlt9.out]
            have BX1 := hide (BX0.out.trans (hb.mono BX0.out.size))
            replace QA := hide (QA.out.below hb)
            replace QB := hide (QB.out.below hb)
            replace QC := hide (QC.out.below hb)
            replace HR := hide (HR.out.below hb)
            replace B := hide (B.out.trans (hb.mono B.out.size))
            clear hb
            refine hK.out _ _ ?_ ?_
            · exact ⟨LK1.out _ BX1.out, LK2.out _ BX1.out⟩
            clear hK K
            try simp only [Act.put, List.setIfInBounds_toArray, List.set_cons_zero, List.set_cons_succ]
            clear hHeld
            have hHeld : (fun w' => (Instr.loadAt 38 (.pointer (some ⟨ga, oa + q * 5 + 1, none⟩))).run Tryd.prog w' = .ok (.agg #[.int .i64 z1.rk, .int .u64 z1.kn]) w' ∧ (Instr.loadAt 38 (.pointer (some ⟨ga, oa + n * 5 + 1, none⟩))).run Tryd.prog w' = .ok (.agg #[.int .i64 a.rk, .int .u64 a.kn]) w') w7 := ⟨LK1.out _ BX1.out, LK2.out _ BX1.out⟩
            refine pickA (v := .bool false) 15 (some 150) rfl rfl (by kernel_rfl) (by kernel_rfl) (by kernel_rfl) (by decide) (fun _ _ _ h => h) (by rfl) ?_ (by assumption) ?_
            · intro w'
              go_simp
              try rfl
            try simp only [Act.put, List.setIfInBounds_toArray, List.set_cons_zero, List.set_cons_succ]
            refine pickA (v := ?_) 16 (some 151) rfl rfl (by kernel_rfl) (by kernel_rfl) (by kernel_rfl) (by decide) (fun _ _ _ h => h) (by rfl) ?_ (by assumption) ?_
            rotate_left
            · intro w'
              go_simp
              try with_reducible rfl
            try simp only [Act.put, List.setIfInBounds_toArray, List.set_cons_zero, List.set_cons_succ]
            refine doneL (by kernel_rfl) ?_ _
            clear hHeld
            go_wp2
            exact ⟨⟨n + 1, i, k + 1, by omega, by omega, by omega, by simp, by simp, by simp, by show _ = _; rw [SN2.out], by show _ = _; rw [TY2.out], QA, QB, QC, HR, B⟩, by simp [intOf]; omega⟩
          · obtain rfl : i = nB := by omega
            have dB : decide ((i : Int) < (i : Int)) = false := by simp
            clear hpa
            go_wp2_with fail
            have dr := (Below.refl wr.heap.size wr).drew
            replace QA := hide (QA.out.below dr)
            replace QB := hide (QB.out.below dr)
            replace QC := hide (QC.out.below dr)
            replace HR := hide (HR.out.below dr)
            replace B := hide (B.out.trans (dr.mono B.out.size))
            have BW := hide dr
            refine regionL 16 (fun _ => True) mixed trivial (fun hHeld => ?_)
            generalize wr.drew = W1 at *
            refine pickA (v := ?_) 0 (some 100) rfl rfl (by kernel_rfl) (by kernel_rfl) (by kernel_rfl) (by decide) (fun _ _ _ h => h) (by rfl) ?_ (by assumption) ?_
            rotate_left
            · intro w'
              go_simp
              try with_reducible rfl
            try simp only [Act.put, List.setIfInBounds_toArray, List.set_cons_zero, List.set_cons_succ]
            refine pickA (v := ?_) 1 (some 101) rfl rfl (by kernel_rfl) (by kernel_rfl) (by kernel_rfl) (by decide) (fun _ _ _ h => h) (by rfl) ?_ (by assumption) ?_
            rotate_left
            · intro w'
              go_simp
              try with_reducible rfl
            try simp only [Act.put, List.setIfInBounds_toArray, List.set_cons_zero, List.set_cons_succ]
            refine pickA (v := ?_) 2 (some 102) rfl rfl (by kernel_rfl) (by kernel_rfl) (by kernel_rfl) (by decide) (fun _ _ _ h => h) (by rfl) ?_ (by assumption) ?_
            rotate_left
            · intro w'
              go_simp
              try with_reducible rfl
            try simp only [Act.put, List.setIfInBounds_toArray, List.set_cons_zero, List.set_cons_succ]
            refine pickA (v := .bool false) 3 (some 103) rfl rfl (by kernel_rfl) (by kernel_rfl) (by kernel_rfl) (by decide) (fun _ _ _ h => h) (by rfl) ?_ (by assumption) ?_
            · intro w'
              go_simp
              try rfl
            try simp only [Act.put, List.setIfInBounds_toArray, List.set_cons_zero, List.set_cons_succ]
            refine pickA (v := ?_) 4 (some 104) rfl rfl (by kernel_rfl) (by kernel_rfl) (by kernel_rfl) (by decide) (fun _ _ _ h => h) (by rfl) ?_ (by assumption) ?_
            rotate_left
            · intro w'
              go_simp
              try with_reducible rfl
            try simp only [Act.put, List.setIfInBounds_toArray, List.set_cons_zero, List.set_cons_succ]
            refine pickN 5 (some 105) rfl rfl (by kernel_rfl) (by kernel_rfl) (by kernel_rfl) (by decide) (fun _ _ _ h => h) (by rfl) (by assumption) ?_
            try simp only [Act.put, List.setIfInBounds_toArray, List.set_cons_zero, List.set_cons_succ]
            refine pickN 6 (some 106) rfl rfl (by kernel_rfl) (by kernel_rfl) (by kernel_rfl) (by decide) (fun _ _ _ h => h) (by rfl) (by assumption) ?_
            try simp only [Act.put, List.setIfInBounds_toArray, List.set_cons_zero, List.set_cons_succ]
            refine pickN 7 (some 107) rfl rfl (by kernel_rfl) (by kernel_rfl) (by kernel_rfl) (by decide) (fun _ _ _ h => h) (by rfl) (by assumption) ?_
            try simp only [Act.put, List.setIfInBounds_toArray, List.set_cons_zero, List.set_cons_succ]
            refine pickN 8 (some 108) rfl rfl (by kernel_rfl) (by kernel_rfl) (by kernel_rfl) (by decide) (fun _ _ _ h => h) (by rfl) (by assumption) ?_
            try simp only [Act.put, List.setIfInBounds_toArray, List.set_cons_zero, List.set_cons_succ]
            refine pickN 9 (some 109) rfl rfl (by kernel_rfl) (by kernel_rfl) (by kernel_rfl) (by decide) (fun _ _ _ h => h) (by rfl) (by assumption) ?_
            try simp only [Act.put, List.setIfInBounds_toArray, List.set_cons_zero, List.set_cons_succ]
            refine pickN 10 (some 110) rfl rfl (by kernel_rfl) (by kernel_rfl) (by kernel_rfl) (by decide) (fun _ _ _ h => h) (by rfl) (by assumption) ?_
            try simp only [Act.put, List.setIfInBounds_toArray, List.set_cons_zero, List.set_cons_succ]
            refine pickN 11 (some 111) rfl rfl (by kernel_rfl) (by kernel_rfl) (by kernel_rfl) (by decide) (fun _ _ _ h => h) (by rfl) (by assumption) ?_
            try simp only [Act.put, List.setIfInBounds_toArray, List.set_cons_zero, List.set_cons_succ]
            refine pickN 12 (some 112) rfl rfl (by kernel_rfl) (by kernel_rfl) (by kernel_rfl) (by decide) (fun _ _ _ h => h) (by rfl) (by assumption) ?_
            try simp only [Act.put, List.setIfInBounds_toArray, List.set_cons_zero, List.set_cons_succ]
            refine pickN 13 (some 113) rfl rfl (by kernel_rfl) (by kernel_rfl) (by kernel_rfl) (by decide) (fun _ _ _ h => h) (by rfl) (by assumption) ?_
            try simp only [Act.put, List.setIfInBounds_toArray, List.set_cons_zero, List.set_cons_succ]
            refine pickA (v := ?_) 14 (some 114) rfl rfl (by kernel_rfl) (by kernel_rfl) (by kernel_rfl) (by decide) (fun _ _ _ h => h) (by rfl) ?_ (by assumption) ?_
            rotate_left
            · intro w'
              go_simp
              try with_reducible rfl
            try simp only [Act.put, List.setIfInBounds_toArray, List.set_cons_zero, List.set_cons_succ]
            refine pickA (v := ?_) 15 (some 99) rfl rfl (by kernel_rfl) (by kernel_rfl) (by kernel_rfl) (by decide) (fun _ _ _ h => h) (by rfl) ?_ (by assumption) ?_
            rotate_left
            · intro w'
              go_simp
              try with_reducible rfl
            try simp only [Act.put, List.setIfInBounds_toArray, List.set_cons_zero, List.set_cons_succ]
            refine doneL (by kernel_rfl) ?_ _
            clear hHeld
            clear dr
            go_wp2_with fail
            have dr := (Below.refl W1.heap.size W1).drew
            replace QA := hide (QA.out.below dr)
            replace QB := hide (QB.out.below dr)
            replace QC := hide (QC.out.below dr)
            replace HR := hide (HR.out.below dr)
            replace B := hide (B.out.trans (dr.mono B.out.size))
            replace BW := hide (BW.out.trans (dr.mono BW.out.size))
            refine regionL 16 (fun w' => (Instr.loadAt 40 (.pointer (some ⟨gc, oc + k * 5, none⟩))).run Tryd.prog w' = .ok (.agg #[.int .i64 a.id, .int .i64 a.rk, .int .u64 a.kn, .int .i64 a.ln, .int .u64 a.bt]) w' ∧ (Instr.loadAt 40 (.pointer (some ⟨ga, oa + n * 5, none⟩))).run Tryd.prog w' = .ok (.agg #[.int .i64 a.id, .int .i64 a.rk, .int .u64 a.kn, .int .i64 a.ln, .int .u64 a.bt]) w') mixed ⟨LDC.out _ BW.out, LDA.out _ BW.out⟩ (fun hHeld => ?_)
            generalize W1.drew = W2 at *
            refine pickA (v := ?_) 0 (some 118) rfl rfl (by kernel_rfl) (by kernel_rfl) (by kernel_rfl) (by decide) (fun _ _ _ h => h) (by rfl) ?_ (by assumption) ?_
            rotate_left
            · intro w'
              go_simp
              try with_reducible rfl
            try simp only [Act.put, List.setIfInBounds_toArray, List.set_cons_zero, List.set_cons_succ]
            refine pickA (v := ?_) 1 (some 119) rfl rfl (by kernel_rfl) (by kernel_rfl) (by kernel_rfl) (by decide) (fun _ _ _ h => h) (by rfl) ?_ (by assumption) ?_
            rotate_left
            · intro w'
              go_simp
              try with_reducible rfl
            try simp only [Act.put, List.setIfInBounds_toArray, List.set_cons_zero, List.set_cons_succ]
            refine pickA (v := ?_) 2 (some 120) rfl rfl (by kernel_rfl) (by kernel_rfl) (by kernel_rfl) (by decide) (fun _ _ _ h => h) (by rfl) ?_ (by assumption) ?_
            rotate_left
            · intro w'
              go_simp
              try with_reducible rfl
            try simp only [Act.put, List.setIfInBounds_toArray, List.set_cons_zero, List.set_cons_succ]
            refine pickA (v := .bool true) 3 (some 121) rfl rfl (by kernel_rfl) (by kernel_rfl) (by kernel_rfl) (by decide) (fun _ _ _ h => h) (by rfl) ?_ (by assumption) ?_
            · intro w'
              go_simp
              try rfl
            try simp only [Act.put, List.setIfInBounds_toArray, List.set_cons_zero, List.set_cons_succ]
            refine pickA (v := ?_) 4 (some 122) rfl rfl (by kernel_rfl) (by kernel_rfl) (by kernel_rfl) (by decide) (fun _ _ _ h => h) (by rfl) ?_ (by assumption) ?_
            rotate_left
            · intro w'
              go_simp
              try with_reducible rfl
            try simp only [Act.put, List.setIfInBounds_toArray, List.set_cons_zero, List.set_cons_succ]
            refine pickA (v := ?_) 5 (some 123) rfl rfl (by kernel_rfl) (by kernel_rfl) (by kernel_rfl) (by decide) (fun _ _ _ h => h) (by rfl) ?_ (by assumption) ?_
            rotate_left
            · intro w'
              go_simp
              try with_reducible rfl
            try simp only [Act.put, List.setIfInBounds_toArray, List.set_cons_zero, List.set_cons_succ]
            refine pickA (v := ?_) 6 (some 124) rfl rfl (by kernel_rfl) (by kernel_rfl) (by kernel_rfl) (by decide) (fun _ _ _ h => h) (by rfl) ?_ (by assumption) ?_
            rotate_left
            · intro w'
              go_simp
              try with_reducible rfl
            try simp only [Act.put, List.setIfInBounds_toArray, List.set_cons_zero, List.set_cons_succ]
            refine pickA (v := ?_) 7 (some 125) rfl rfl (by kernel_rfl) (by kernel_rfl) (by kernel_rfl) (by decide) (fun _ _ _ h => h) (by rfl) ?_ (by assumption) ?_
            rotate_left
            · intro w'
              go_simp
              try with_reducible rfl
            try simp only [Act.put, List.setIfInBounds_toArray, List.set_cons_zero, List.set_cons_succ]
            refine pickL (v := .agg #[.int .i64 a.id, .int .i64 a.rk, .int .u64 a.kn, .int .i64 a.ln, .int .u64 a.bt]) 8 (some 126) rfl rfl (by kernel_rfl) (by kernel_rfl) (by kernel_rfl) (by decide) (by kernel_rfl) (by kernel_rfl) (fun _ _ _ h => h) (by rfl) ?_ (by assumption) ?_
            · intro w' hSw
              obtain ⟨q0, q1⟩ := hSw
              exact exec_load rfl rfl q0
            try simp only [Act.put, List.setIfInBounds_toArray, List.set_cons_zero, List.set_cons_succ]
            refine pickA (v := ?_) 9 (some 127) rfl rfl (by kernel_rfl) (by kernel_rfl) (by kernel_rfl) (by decide) (fun _ _ _ h => h) (by rfl) ?_ (by assumption) ?_
            rotate_left
            · intro w'
              go_simp
              try with_reducible rfl
            try simp only [Act.put, List.setIfInBounds_toArray, List.set_cons_zero, List.set_cons_succ]
            refine pickA (v := ?_) 10 (some 128) rfl rfl (by kernel_rfl) (by kernel_rfl) (by kernel_rfl) (by decide) (fun _ _ _ h => h) (by rfl) ?_ (by assumption) ?_
            rotate_left
            · intro w'
              go_simp
              try with_reducible rfl
            try simp only [Act.put, List.setIfInBounds_toArray, List.set_cons_zero, List.set_cons_succ]
            refine pickA (v := ?_) 11 (some 129) rfl rfl (by kernel_rfl) (by kernel_rfl) (by kernel_rfl) (by decide) (fun _ _ _ h => h) (by rfl) ?_ (by assumption) ?_
            rotate_left
            · intro w'
              go_simp
              try with_reducible rfl
            try simp only [Act.put, List.setIfInBounds_toArray, List.set_cons_zero, List.set_cons_succ]
            refine pickL (v := .agg #[.int .i64 a.id, .int .i64 a.rk, .int .u64 a.kn, .int .i64 a.ln, .int .u64 a.bt]) 12 (some 130) rfl rfl (by kernel_rfl) (by kernel_rfl) (by kernel_rfl) (by decide) (by kernel_rfl) (by kernel_rfl) (fun _ _ _ h => h) (by rfl) ?_ (by assumption) ?_
            · intro w' hSw
              obtain ⟨q0, q1⟩ := hSw
              exact exec_load rfl rfl q1
            try simp only [Act.put, List.setIfInBounds_toArray, List.set_cons_zero, List.set_cons_succ]
            refine pickA (v := .bool true) 13 (some 131) rfl rfl (by kernel_rfl) (by kernel_rfl) (by kernel_rfl) (by decide) (fun _ _ _ h => h) (by rfl) ?_ (by assumption) ?_
            · intro w'
              exact exec_bin rguard rfl rfl rfl (eqr_same a _)
            try simp only [Act.put, List.setIfInBounds_toArray, List.set_cons_zero, List.set_cons_succ]
            refine pickA (v := ?_) 14 (some 132) rfl rfl (by kernel_rfl) (by kernel_rfl) (by kernel_rfl) (by decide) (fun _ _ _ h => h) (by rfl) ?_ (by assumption) ?_
            rotate_left
            · intro w'
              go_simp
              try with_reducible rfl
            try simp only [Act.put, List.setIfInBounds_toArray, List.set_cons_zero, List.set_cons_succ]
            refine pickA (v := ?_) 15 (some 117) rfl rfl (by kernel_rfl) (by kernel_rfl) (by kernel_rfl) (by decide) (fun _ _ _ h => h) (by rfl) ?_ (by assumption) ?_
            rotate_left
            · intro w'
              go_simp
              try with_reducible rfl
            try simp only [Act.put, List.setIfInBounds_toArray, List.set_cons_zero, List.set_cons_succ]
            refine doneL (by kernel_rfl) ?_ _
            clear hHeld
            clear LDC LDA dr
            go_wp2_with fail
            have dr := (Below.refl W2.heap.size W2).drew
            replace QA := hide (QA.out.below dr)
            replace QB := hide (QB.out.below dr)
            replace QC := hide (QC.out.below dr)
            replace HR := hide (HR.out.below dr)
            replace B := hide (B.out.trans (dr.mono B.out.size))
            have BX0 := hide (BW.out.trans (dr.mono BW.out.size))
            clear dr
            refine regionL 17 (fun w' => (Instr.loadAt 38 (.pointer (some ⟨ga, oa + q * 5 + 1, none⟩))).run Tryd.prog w' = .ok (.agg #[.int .i64 z1.rk, .int .u64 z1.kn]) w' ∧ (Instr.loadAt 38 (.pointer (some ⟨ga, oa + n * 5 + 1, none⟩))).run Tryd.prog w' = .ok (.agg #[.int .i64 a.rk, .int .u64 a.kn]) w') mixed ⟨LK1.out _ BX0.out, LK2.out _ BX0.out⟩ (fun hHeld => ?_)
            generalize W2.drew = WZ at *
            refine pickA (v := ?_) 0 (some 135) rfl rfl (by kernel_rfl) (by kernel_rfl) (by kernel_rfl) (by decide) (fun _ _ _ h => h) (by rfl) ?_ (by assumption) ?_
            rotate_left
            · intro w'
              go_simp
              try with_reducible rfl
            try simp only [Act.put, List.setIfInBounds_toArray, List.set_cons_zero, List.set_cons_succ]
            refine pickA (v := .bool true) 1 (some 136) rfl rfl (by kernel_rfl) (by kernel_rfl) (by kernel_rfl) (by decide) (fun _ _ _ h => h) (by rfl) ?_ (by assumption) ?_
            · intro w'
              go_simp
              first | rfl | exact hzz.out
            try simp only [Act.put, List.setIfInBounds_toArray, List.set_cons_zero, List.set_cons_succ]
            refine pickA (v := ?_) 2 (some 137) rfl rfl (by kernel_rfl) (by kernel_rfl) (by kernel_rfl) (by decide) (fun _ _ _ h => h) (by rfl) ?_ (by assumption) ?_
            rotate_left
            · intro w'
              go_simp
              try with_reducible rfl
            try simp only [Act.put, List.setIfInBounds_toArray, List.set_cons_zero, List.set_cons_succ]
            refine pickA (v := ?_) 3 (some 138) rfl rfl (by kernel_rfl) (by kernel_rfl) (by kernel_rfl) (by decide) (fun _ _ _ h => h) (by rfl) ?_ (by assumption) ?_
            rotate_left
            · intro w'
              go_simp
              try with_reducible rfl
            try simp only [Act.put, List.setIfInBounds_toArray, List.set_cons_zero, List.set_cons_succ]
            refine pickA (v := ?_) 4 (some 139) rfl rfl (by kernel_rfl) (by kernel_rfl) (by kernel_rfl) (by decide) (fun _ _ _ h => h) (by rfl) ?_ (by assumption) ?_
            rotate_left
            · intro w'
              go_simp
              try with_reducible rfl
            try simp only [Act.put, List.setIfInBounds_toArray, List.set_cons_zero, List.set_cons_succ]
            refine pickA (v := .int .i64 (q : Int)) 5 (some 140) rfl rfl (by kernel_rfl) (by kernel_rfl) (by kernel_rfl) (by decide) (fun _ _ _ h => h) (by rfl) ?_ (by assumption) ?_
            · intro w'
              go_simp
              try simp only [hwq]
            try simp only [Act.put, List.setIfInBounds_toArray, List.set_cons_zero, List.set_cons_succ]
            refine pickA (v := ?_) 6 (some 141) rfl rfl (by kernel_rfl) (by kernel_rfl) (by kernel_rfl) (by decide) (fun _ _ _ h => h) (by rfl) ?_ (by assumption) ?_
            rotate_left
            · intro w'
              go_simp
              try with_reducible rfl
            try simp only [Act.put, List.setIfInBounds_toArray, List.set_cons_zero, List.set_cons_succ]
            refine pickA (v := ?_) 7 (some 142) rfl rfl (by kernel_rfl) (by kernel_rfl) (by kernel_rfl) (by decide) (fun _ _ _ h => h) (by rfl) ?_ (by assumption) ?_
            rotate_left
            · intro w'
              go_simp
              try with_reducible rfl
            try simp only [Act.put, List.setIfInBounds_toArray, List.set_cons_zero, List.set_cons_succ]
            refine pickT (v := .agg #[.int .i64 z1.rk, .int .u64 z1.kn]) 8 (some 143) rfl rfl (by kernel_rfl) (by kernel_rfl) (by kernel_rfl) (by decide) (by kernel_rfl) (by kernel_rfl) (by kernel_rfl) (fun _ _ _ h => h) (by rfl) ?_ (by assumption) ?_
            · intro w' hSw
              obtain ⟨q0, q1⟩ := hSw
              exact exec_load rfl rfl q0
            try simp only [Act.put, List.setIfInBounds_toArray, List.set_cons_zero, List.set_cons_succ]
            refine pickA (v := ?_) 9 (some 144) rfl rfl (by kernel_rfl) (by kernel_rfl) (by kernel_rfl) (by decide) (fun _ _ _ h => h) (by rfl) ?_ (by assumption) ?_
            rotate_left
            · intro w'
              go_simp
              try with_reducible rfl
            try simp only [Act.put, List.setIfInBounds_toArray, List.set_cons_zero, List.set_cons_succ]
            refine pickA (v := ?_) 10 (some 145) rfl rfl (by kernel_rfl) (by kernel_rfl) (by kernel_rfl) (by decide) (fun _ _ _ h => h) (by rfl) ?_ (by assumption) ?_
            rotate_left
            · intro w'
              go_simp
              try with_reducible rfl
            try simp only [Act.put, List.setIfInBounds_toArray, List.set_cons_zero, List.set_cons_succ]
            refine pickA (v := ?_) 11 (some 146) rfl rfl (by kernel_rfl) (by kernel_rfl) (by kernel_rfl) (by decide) (fun _ _ _ h => h) (by rfl) ?_ (by assumption) ?_
            rotate_left
            · intro w'
              go_simp
              try with_reducible rfl
            try simp only [Act.put, List.setIfInBounds_toArray, List.set_cons_zero, List.set_cons_succ]
            refine pickA (v := ?_) 12 (some 147) rfl rfl (by kernel_rfl) (by kernel_rfl) (by kernel_rfl) (by decide) (fun _ _ _ h => h) (by rfl) ?_ (by assumption) ?_
            rotate_left
            · intro w'
              go_simp
              try with_reducible rfl
            try simp only [Act.put, List.setIfInBounds_toArray, List.set_cons_zero, List.set_cons_succ]
            refine pickT (v := .agg #[.int .i64 a.rk, .int .u64 a.kn]) 13 (some 148) rfl rfl (by kernel_rfl) (by kernel_rfl) (by kernel_rfl) (by decide) (by kernel_rfl) (by kernel_rfl) (by kernel_rfl) (fun _ _ _ h => h) (by rfl) ?_ (by assumption) ?_
            · intro w' hSw
              obtain ⟨q0, q1⟩ := hSw
              exact exec_load rfl rfl q1
            try simp only [Act.put, List.setIfInBounds_toArray, List.set_cons_zero, List.set_cons_succ]
            refine oneL (i := 14) (by kernel_rfl) rfl (fun K hK => ?_)
            go_simp
            refine (r9Less_any z1.rk z1.kn a.rk a.kn WZ).mono ?_
            rintro e w7 ⟨rfl, hb⟩
            rw [hlt9.out]
            have BX1 := hide (BX0.out.trans (hb.mono BX0.out.size))
            replace QA := hide (QA.out.below hb)
            replace QB := hide (QB.out.below hb)
            replace QC := hide (QC.out.below hb)
            replace HR := hide (HR.out.below hb)
            replace B := hide (B.out.trans (hb.mono B.out.size))
            clear hb
            refine hK.out _ _ ?_ ?_
            · exact ⟨LK1.out _ BX1.out, LK2.out _ BX1.out⟩
            clear hK K
            try simp only [Act.put, List.setIfInBounds_toArray, List.set_cons_zero, List.set_cons_succ]
            clear hHeld
            have hHeld : (fun w' => (Instr.loadAt 38 (.pointer (some ⟨ga, oa + q * 5 + 1, none⟩))).run Tryd.prog w' = .ok (.agg #[.int .i64 z1.rk, .int .u64 z1.kn]) w' ∧ (Instr.loadAt 38 (.pointer (some ⟨ga, oa + n * 5 + 1, none⟩))).run Tryd.prog w' = .ok (.agg #[.int .i64 a.rk, .int .u64 a.kn]) w') w7 := ⟨LK1.out _ BX1.out, LK2.out _ BX1.out⟩
            refine pickA (v := .bool false) 15 (some 150) rfl rfl (by kernel_rfl) (by kernel_rfl) (by kernel_rfl) (by decide) (fun _ _ _ h => h) (by rfl) ?_ (by assumption) ?_
            · intro w'
              go_simp
              try rfl
            try simp only [Act.put, List.setIfInBounds_toArray, List.set_cons_zero, List.set_cons_succ]
            refine pickA (v := ?_) 16 (some 151) rfl rfl (by kernel_rfl) (by kernel_rfl) (by kernel_rfl) (by decide) (fun _ _ _ h => h) (by rfl) ?_ (by assumption) ?_
            rotate_left
            · intro w'
              go_simp
              try with_reducible rfl
            try simp only [Act.put, List.setIfInBounds_toArray, List.set_cons_zero, List.set_cons_succ]
            refine doneL (by kernel_rfl) ?_ _
            clear hHeld
            go_wp2
            exact ⟨⟨n + 1, i, k + 1, by omega, by omega, by omega, by simp, by simp, by simp, by show _ = _; rw [SN2.out], by show _ = _; rw [TY2.out], QA, QB, QC, HR, B⟩, by simp [intOf]; omega⟩
        · have KA2 := KA hpa
          have SY2 := hide (SY hpa)
          have TN2 := hide (TN (by rw [hpa]; rfl))
          clear KA KC SY SN TY TN
          obtain ⟨hjB, hbv⟩ := List.getElem?_eq_some_iff.1 KA2
          clear KA2
          have hiB : i < nB := by rw [← hnB.out]; exact hjB
          have iB : (i : Int) < nB := by omega
          have ii0 : (0 : Int) ≤ i := by omega
          have dB : decide ((i : Int) < (nB : Int)) = true := decide_eq_true iB
          obtain ⟨gb, ob, cb, ev, -, -⟩ := QB.out.form (by omega)
          injection ev with ev el ec
          clear el
          subst ev ec
          have LDB : Hid (∀ w', Below wr.heap.size wr w' → (Instr.loadAt 40 (.pointer (some ⟨gb, ob + i * 5, none⟩))).run Tryd.prog w' = .ok (.agg #[.int .i64 a.id, .int .i64 a.rk, .int .u64 a.kn, .int .i64 a.ln, .int .u64 a.bt]) w') := fun w' hb => by rw [← hbv]; exact (QB.out.below hb).ldr i hjB
          clear hbv hpa
          go_wp2_with fail
          have dr := (Below.refl wr.heap.size wr).drew
          replace QA := hide (QA.out.below dr)
          replace QB := hide (QB.out.below dr)
          replace QC := hide (QC.out.below dr)
          replace HR := hide (HR.out.below dr)
          replace B := hide (B.out.trans (dr.mono B.out.size))
          have BW := hide dr
          refine regionL 16 (fun w' => (Instr.loadAt 40 (.pointer (some ⟨gb, ob + i * 5, none⟩))).run Tryd.prog w' = .ok (.agg #[.int .i64 a.id, .int .i64 a.rk, .int .u64 a.kn, .int .i64 a.ln, .int .u64 a.bt]) w' ∧ (Instr.loadAt 40 (.pointer (some ⟨ga, oa + n * 5, none⟩))).run Tryd.prog w' = .ok (.agg #[.int .i64 a.id, .int .i64 a.rk, .int .u64 a.kn, .int .i64 a.ln, .int .u64 a.bt]) w') mixed ⟨LDB.out _ dr, LDA.out _ dr⟩ (fun hHeld => ?_)
          generalize wr.drew = W1 at *
          refine pickA (v := ?_) 0 (some 100) rfl rfl (by kernel_rfl) (by kernel_rfl) (by kernel_rfl) (by decide) (fun _ _ _ h => h) (by rfl) ?_ (by assumption) ?_
          rotate_left
          · intro w'
            go_simp
            try with_reducible rfl
          try simp only [Act.put, List.setIfInBounds_toArray, List.set_cons_zero, List.set_cons_succ]
          refine pickA (v := ?_) 1 (some 101) rfl rfl (by kernel_rfl) (by kernel_rfl) (by kernel_rfl) (by decide) (fun _ _ _ h => h) (by rfl) ?_ (by assumption) ?_
          rotate_left
          · intro w'
            go_simp
            try with_reducible rfl
          try simp only [Act.put, List.setIfInBounds_toArray, List.set_cons_zero, List.set_cons_succ]
          refine pickA (v := ?_) 2 (some 102) rfl rfl (by kernel_rfl) (by kernel_rfl) (by kernel_rfl) (by decide) (fun _ _ _ h => h) (by rfl) ?_ (by assumption) ?_
          rotate_left
          · intro w'
            go_simp
            try with_reducible rfl
          try simp only [Act.put, List.setIfInBounds_toArray, List.set_cons_zero, List.set_cons_succ]
          refine pickA (v := .bool true) 3 (some 103) rfl rfl (by kernel_rfl) (by kernel_rfl) (by kernel_rfl) (by decide) (fun _ _ _ h => h) (by rfl) ?_ (by assumption) ?_
          · intro w'
            go_simp
            try rfl
          try simp only [Act.put, List.setIfInBounds_toArray, List.set_cons_zero, List.set_cons_succ]
          refine pickA (v := ?_) 4 (some 104) rfl rfl (by kernel_rfl) (by kernel_rfl) (by kernel_rfl) (by decide) (fun _ _ _ h => h) (by rfl) ?_ (by assumption) ?_
          rotate_left
          · intro w'
            go_simp
            try with_reducible rfl
          try simp only [Act.put, List.setIfInBounds_toArray, List.set_cons_zero, List.set_cons_succ]
          refine pickA (v := ?_) 5 (some 105) rfl rfl (by kernel_rfl) (by kernel_rfl) (by kernel_rfl) (by decide) (fun _ _ _ h => h) (by rfl) ?_ (by assumption) ?_
          rotate_left
          · intro w'
            go_simp
            try with_reducible rfl
          try simp only [Act.put, List.setIfInBounds_toArray, List.set_cons_zero, List.set_cons_succ]
          refine pickA (v := ?_) 6 (some 106) rfl rfl (by kernel_rfl) (by kernel_rfl) (by kernel_rfl) (by decide) (fun _ _ _ h => h) (by rfl) ?_ (by assumption) ?_
          rotate_left
          · intro w'
            go_simp
            try with_reducible rfl
          try simp only [Act.put, List.setIfInBounds_toArray, List.set_cons_zero, List.set_cons_succ]
          refine pickA (v := ?_) 7 (some 107) rfl rfl (by kernel_rfl) (by kernel_rfl) (by kernel_rfl) (by decide) (fun _ _ _ h => h) (by rfl) ?_ (by assumption) ?_
          rotate_left
          · intro w'
            go_simp
            try with_reducible rfl
          try simp only [Act.put, List.setIfInBounds_toArray, List.set_cons_zero, List.set_cons_succ]
          refine pickL (v := .agg #[.int .i64 a.id, .int .i64 a.rk, .int .u64 a.kn, .int .i64 a.ln, .int .u64 a.bt]) 8 (some 108) rfl rfl (by kernel_rfl) (by kernel_rfl) (by kernel_rfl) (by decide) (by kernel_rfl) (by kernel_rfl) (fun _ _ _ h => h) (by rfl) ?_ (by assumption) ?_
          · intro w' hSw
            obtain ⟨q0, q1⟩ := hSw
            exact exec_load rfl rfl q0
          try simp only [Act.put, List.setIfInBounds_toArray, List.set_cons_zero, List.set_cons_succ]
          refine pickA (v := ?_) 9 (some 109) rfl rfl (by kernel_rfl) (by kernel_rfl) (by kernel_rfl) (by decide) (fun _ _ _ h => h) (by rfl) ?_ (by assumption) ?_
          rotate_left
          · intro w'
            go_simp
            try with_reducible rfl
          try simp only [Act.put, List.setIfInBounds_toArray, List.set_cons_zero, List.set_cons_succ]
          refine pickA (v := ?_) 10 (some 110) rfl rfl (by kernel_rfl) (by kernel_rfl) (by kernel_rfl) (by decide) (fun _ _ _ h => h) (by rfl) ?_ (by assumption) ?_
          rotate_left
          · intro w'
            go_simp
            try with_reducible rfl
          try simp only [Act.put, List.setIfInBounds_toArray, List.set_cons_zero, List.set_cons_succ]
          refine pickA (v := ?_) 11 (some 111) rfl rfl (by kernel_rfl) (by kernel_rfl) (by kernel_rfl) (by decide) (fun _ _ _ h => h) (by rfl) ?_ (by assumption) ?_
          rotate_left
          · intro w'
            go_simp
            try with_reducible rfl
          try simp only [Act.put, List.setIfInBounds_toArray, List.set_cons_zero, List.set_cons_succ]
          refine pickL (v := .agg #[.int .i64 a.id, .int .i64 a.rk, .int .u64 a.kn, .int .i64 a.ln, .int .u64 a.bt]) 12 (some 112) rfl rfl (by kernel_rfl) (by kernel_rfl) (by kernel_rfl) (by decide) (by kernel_rfl) (by kernel_rfl) (fun _ _ _ h => h) (by rfl) ?_ (by assumption) ?_
          · intro w' hSw
            obtain ⟨q0, q1⟩ := hSw
            exact exec_load rfl rfl q1
          try simp only [Act.put, List.setIfInBounds_toArray, List.set_cons_zero, List.set_cons_succ]
          refine pickA (v := .bool true) 13 (some 113) rfl rfl (by kernel_rfl) (by kernel_rfl) (by kernel_rfl) (by decide) (fun _ _ _ h => h) (by rfl) ?_ (by assumption) ?_
          · intro w'
            exact exec_bin rguard rfl rfl rfl (eqr_same a _)
          try simp only [Act.put, List.setIfInBounds_toArray, List.set_cons_zero, List.set_cons_succ]
          refine pickA (v := ?_) 14 (some 114) rfl rfl (by kernel_rfl) (by kernel_rfl) (by kernel_rfl) (by decide) (fun _ _ _ h => h) (by rfl) ?_ (by assumption) ?_
          rotate_left
          · intro w'
            go_simp
            try with_reducible rfl
          try simp only [Act.put, List.setIfInBounds_toArray, List.set_cons_zero, List.set_cons_succ]
          refine pickA (v := ?_) 15 (some 99) rfl rfl (by kernel_rfl) (by kernel_rfl) (by kernel_rfl) (by decide) (fun _ _ _ h => h) (by rfl) ?_ (by assumption) ?_
          rotate_left
          · intro w'
            go_simp
            try with_reducible rfl
          try simp only [Act.put, List.setIfInBounds_toArray, List.set_cons_zero, List.set_cons_succ]
          refine doneL (by kernel_rfl) ?_ _
          clear hHeld
          clear LDB LDA dr
          go_wp2_with fail
          have dr := (Below.refl W1.heap.size W1).drew
          replace QA := hide (QA.out.below dr)
          replace QB := hide (QB.out.below dr)
          replace QC := hide (QC.out.below dr)
          replace HR := hide (HR.out.below dr)
          replace B := hide (B.out.trans (dr.mono B.out.size))
          have BX0 := hide (BW.out.trans (dr.mono BW.out.size))
          clear dr
          refine regionL 17 (fun w' => (Instr.loadAt 38 (.pointer (some ⟨ga, oa + q * 5 + 1, none⟩))).run Tryd.prog w' = .ok (.agg #[.int .i64 z1.rk, .int .u64 z1.kn]) w' ∧ (Instr.loadAt 38 (.pointer (some ⟨ga, oa + n * 5 + 1, none⟩))).run Tryd.prog w' = .ok (.agg #[.int .i64 a.rk, .int .u64 a.kn]) w') mixed ⟨LK1.out _ BX0.out, LK2.out _ BX0.out⟩ (fun hHeld => ?_)
          generalize W1.drew = WZ at *
          refine pickA (v := ?_) 0 (some 135) rfl rfl (by kernel_rfl) (by kernel_rfl) (by kernel_rfl) (by decide) (fun _ _ _ h => h) (by rfl) ?_ (by assumption) ?_
          rotate_left
          · intro w'
            go_simp
            try with_reducible rfl
          try simp only [Act.put, List.setIfInBounds_toArray, List.set_cons_zero, List.set_cons_succ]
          refine pickA (v := .bool true) 1 (some 136) rfl rfl (by kernel_rfl) (by kernel_rfl) (by kernel_rfl) (by decide) (fun _ _ _ h => h) (by rfl) ?_ (by assumption) ?_
          · intro w'
            go_simp
            first | rfl | exact hzz.out
          try simp only [Act.put, List.setIfInBounds_toArray, List.set_cons_zero, List.set_cons_succ]
          refine pickA (v := ?_) 2 (some 137) rfl rfl (by kernel_rfl) (by kernel_rfl) (by kernel_rfl) (by decide) (fun _ _ _ h => h) (by rfl) ?_ (by assumption) ?_
          rotate_left
          · intro w'
            go_simp
            try with_reducible rfl
          try simp only [Act.put, List.setIfInBounds_toArray, List.set_cons_zero, List.set_cons_succ]
          refine pickA (v := ?_) 3 (some 138) rfl rfl (by kernel_rfl) (by kernel_rfl) (by kernel_rfl) (by decide) (fun _ _ _ h => h) (by rfl) ?_ (by assumption) ?_
          rotate_left
          · intro w'
            go_simp
            try with_reducible rfl
          try simp only [Act.put, List.setIfInBounds_toArray, List.set_cons_zero, List.set_cons_succ]
          refine pickA (v := ?_) 4 (some 139) rfl rfl (by kernel_rfl) (by kernel_rfl) (by kernel_rfl) (by decide) (fun _ _ _ h => h) (by rfl) ?_ (by assumption) ?_
          rotate_left
          · intro w'
            go_simp
            try with_reducible rfl
          try simp only [Act.put, List.setIfInBounds_toArray, List.set_cons_zero, List.set_cons_succ]
          refine pickA (v := .int .i64 (q : Int)) 5 (some 140) rfl rfl (by kernel_rfl) (by kernel_rfl) (by kernel_rfl) (by decide) (fun _ _ _ h => h) (by rfl) ?_ (by assumption) ?_
          · intro w'
            go_simp
            try simp only [hwq]
          try simp only [Act.put, List.setIfInBounds_toArray, List.set_cons_zero, List.set_cons_succ]
          refine pickA (v := ?_) 6 (some 141) rfl rfl (by kernel_rfl) (by kernel_rfl) (by kernel_rfl) (by decide) (fun _ _ _ h => h) (by rfl) ?_ (by assumption) ?_
          rotate_left
          · intro w'
            go_simp
            try with_reducible rfl
          try simp only [Act.put, List.setIfInBounds_toArray, List.set_cons_zero, List.set_cons_succ]
          refine pickA (v := ?_) 7 (some 142) rfl rfl (by kernel_rfl) (by kernel_rfl) (by kernel_rfl) (by decide) (fun _ _ _ h => h) (by rfl) ?_ (by assumption) ?_
          rotate_left
          · intro w'
            go_simp
            try with_reducible rfl
          try simp only [Act.put, List.setIfInBounds_toArray, List.set_cons_zero, List.set_cons_succ]
          refine pickT (v := .agg #[.int .i64 z1.rk, .int .u64 z1.kn]) 8 (some 143) rfl rfl (by kernel_rfl) (by kernel_rfl) (by kernel_rfl) (by decide) (by kernel_rfl) (by kernel_rfl) (by kernel_rfl) (fun _ _ _ h => h) (by rfl) ?_ (by assumption) ?_
          · intro w' hSw
            obtain ⟨q0, q1⟩ := hSw
            exact exec_load rfl rfl q0
          try simp only [Act.put, List.setIfInBounds_toArray, List.set_cons_zero, List.set_cons_succ]
          refine pickA (v := ?_) 9 (some 144) rfl rfl (by kernel_rfl) (by kernel_rfl) (by kernel_rfl) (by decide) (fun _ _ _ h => h) (by rfl) ?_ (by assumption) ?_
          rotate_left
          · intro w'
            go_simp
            try with_reducible rfl
          try simp only [Act.put, List.setIfInBounds_toArray, List.set_cons_zero, List.set_cons_succ]
          refine pickA (v := ?_) 10 (some 145) rfl rfl (by kernel_rfl) (by kernel_rfl) (by kernel_rfl) (by decide) (fun _ _ _ h => h) (by rfl) ?_ (by assumption) ?_
          rotate_left
          · intro w'
            go_simp
            try with_reducible rfl
          try simp only [Act.put, List.setIfInBounds_toArray, List.set_cons_zero, List.set_cons_succ]
          refine pickA (v := ?_) 11 (some 146) rfl rfl (by kernel_rfl) (by kernel_rfl) (by kernel_rfl) (by decide) (fun _ _ _ h => h) (by rfl) ?_ (by assumption) ?_
          rotate_left
          · intro w'
            go_simp
            try with_reducible rfl
          try simp only [Act.put, List.setIfInBounds_toArray, List.set_cons_zero, List.set_cons_succ]
          refine pickA (v := ?_) 12 (some 147) rfl rfl (by kernel_rfl) (by kernel_rfl) (by kernel_rfl) (by decide) (fun _ _ _ h => h) (by rfl) ?_ (by assumption) ?_
          rotate_left
          · intro w'
            go_simp
            try with_reducible rfl
          try simp only [Act.put, List.setIfInBounds_toArray, List.set_cons_zero, List.set_cons_succ]
          refine pickT (v := .agg #[.int .i64 a.rk, .int .u64 a.kn]) 13 (some 148) rfl rfl (by kernel_rfl) (by kernel_rfl) (by kernel_rfl) (by decide) (by kernel_rfl) (by kernel_rfl) (by kernel_rfl) (fun _ _ _ h => h) (by rfl) ?_ (by assumption) ?_
          · intro w' hSw
            obtain ⟨q0, q1⟩ := hSw
            exact exec_load rfl rfl q1
          try simp only [Act.put, List.setIfInBounds_toArray, List.set_cons_zero, List.set_cons_succ]
          refine oneL (i := 14) (by kernel_rfl) rfl (fun K hK => ?_)
          go_simp
          refine (r9Less_any z1.rk z1.kn a.rk a.kn WZ).mono ?_
          rintro e w7 ⟨rfl, hb⟩
          rw [hlt9.out]
          have BX1 := hide (BX0.out.trans (hb.mono BX0.out.size))
          replace QA := hide (QA.out.below hb)
          replace QB := hide (QB.out.below hb)
          replace QC := hide (QC.out.below hb)
          replace HR := hide (HR.out.below hb)
          replace B := hide (B.out.trans (hb.mono B.out.size))
          clear hb
          refine hK.out _ _ ?_ ?_
          · exact ⟨LK1.out _ BX1.out, LK2.out _ BX1.out⟩
          clear hK K
          try simp only [Act.put, List.setIfInBounds_toArray, List.set_cons_zero, List.set_cons_succ]
          clear hHeld
          have hHeld : (fun w' => (Instr.loadAt 38 (.pointer (some ⟨ga, oa + q * 5 + 1, none⟩))).run Tryd.prog w' = .ok (.agg #[.int .i64 z1.rk, .int .u64 z1.kn]) w' ∧ (Instr.loadAt 38 (.pointer (some ⟨ga, oa + n * 5 + 1, none⟩))).run Tryd.prog w' = .ok (.agg #[.int .i64 a.rk, .int .u64 a.kn]) w') w7 := ⟨LK1.out _ BX1.out, LK2.out _ BX1.out⟩
          refine pickA (v := .bool false) 15 (some 150) rfl rfl (by kernel_rfl) (by kernel_rfl) (by kernel_rfl) (by decide) (fun _ _ _ h => h) (by rfl) ?_ (by assumption) ?_
          · intro w'
            go_simp
            try rfl
          try simp only [Act.put, List.setIfInBounds_toArray, List.set_cons_zero, List.set_cons_succ]
          refine pickA (v := ?_) 16 (some 151) rfl rfl (by kernel_rfl) (by kernel_rfl) (by kernel_rfl) (by decide) (fun _ _ _ h => h) (by rfl) ?_ (by assumption) ?_
          rotate_left
          · intro w'
            go_simp
            try with_reducible rfl
          try simp only [Act.put, List.setIfInBounds_toArray, List.set_cons_zero, List.set_cons_succ]
          refine doneL (by kernel_rfl) ?_ _
          clear hHeld
          go_wp2
          exact ⟨⟨n + 1, i + 1, k, by omega, by omega, by omega, by simp, by simp, by simp, by show _ = _; rw [SY2.out], by show _ = _; rw [TN2.out], QA, QB, QC, HR, B⟩, by simp [intOf]; omega⟩

end Go.Proofs.YtifmbcfdhjhacaaDoor
