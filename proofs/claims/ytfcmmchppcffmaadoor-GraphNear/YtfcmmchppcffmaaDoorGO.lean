/- left: a search goes left, at one level. -/
import Derived.Test.YtfcmmchppcffmaaDoorGN
namespace Go.Proofs.YtfcmmchppcffmaaDoor
open Go.RowKit Go.Maps Go.ChangeMaps

def tgR (tr tn : Int) : Rf := ⟨0, tr, tn, 0, 0⟩
theorem klt_key (x : Rf) (tr tn : Int) : klt (x.rk, x.kn) (tr, tn) = decide (keyLt x (tgR tr tn)) := cfR_lt x (tgR tr tn)
/-- Those onto which a search comes that goes left from a place. -/
def lfL (ro : List Rf) (tg : Rf) (i : Nat) : List Rf := ((ro.take i).reverse).takeWhile fun x => !decide (keyLt x tg)
theorem lfL_stop {ro : List Rf} {tg : Rf} {k : Nat} (hk : k < ro.length) (h : keyLt ro[k] tg) : lfL ro tg (k + 1) = [] := by
  unfold lfL
  rw [List.take_succ_eq_append_getElem hk, List.reverse_append]
  simp [h]
theorem lfL_next {ro : List Rf} {tg : Rf} {k : Nat} (hk : k < ro.length) (h : ¬keyLt ro[k] tg) : lfL ro tg (k + 1) = ro[k] :: lfL ro tg k := by
  unfold lfL
  rw [List.take_succ_eq_append_getElem hk, List.reverse_append]
  simp [h]
theorem lfL_len (ro : List Rf) (tg : Rf) (i : Nat) : (lfL ro tg i).length ≤ i := by
  unfold lfL
  have h1 := (List.takeWhile_sublist (p := fun x => !decide (keyLt x tg)) (l := (ro.take i).reverse)).length_le
  have h2 : (ro.take i).reverse.length ≤ i := by simp; omega
  omega

set_option maxHeartbeats 4000000 in
set_option maxRecDepth 100000 in
theorem left_any (base b : Nat) (h k : Int) (a : Option Addr) (c : Nat) (m : List Rf) (hm : m.length ≤ 1000) (hok : ∀ r ∈ m, mayR h r = true ∧ 0 ≤ r.bt) (h32 : h ≤ 32) (h0 : 0 ≤ k) (h1 : k ≤ h) (tr tn : Int) (wv : Value) (hs : List Hp) (hl : hs.length ≤ 50000) (lv : Int) (r : Rf) (hr : rt r.ln r.bt = true) (hrb : 0 ≤ r.bt) (hrl : r.ln = h) (ro : List Rf) (hro : ro = rowL h (flt k (prV k r) m)) (i : Nat) (hi : plI r.id ro = (i : Int)) (hil : i < ro.length) (hst : ∃ j, ∃ hj : j < ro.length, j < i ∧ keyLt ro[j] (tgR tr tn)) (w : World) (hbase : base ≤ w.heap.size) (hrow : Rw w 30 5 (.slice a m.length c) m.length (rfs m)) (s : Sr w base b h a m.length c tr tn wv (hs ++ [(lv, r)])) :
    Calls Tryd.prog 53 #[.pointer (some ⟨b, 0, none⟩), .int .i64 k] w fun e w' => e = .returned (.tuple #[]) ∧ (∃ wv', Sr w' base b h a m.length c tr tn wv' (hs ++ [(lv, r)] ++ (lfL ro (tgR tr tn) i).map (fun x => (k, x)) ++ (if k = 0 then [(k, ro.getD (i - (lfL ro (tgR tr tn) i).length - 1) zr)] else []))) ∧ Kt w w' ∧ Below base w w' := by
  have mixed : Tryd.prog.follows .mixedOrders = true := by kernel_rfl
  have HE := here_any base b h k a c m hm hok h32 h0 h1 tr tn wv hs (by omega) lv r hr hrb hrl w hrow s
  rw [← hro, hi] at HE
  replace HE := hide HE
  have SS := hide s
  have hrn : ro.length ≤ 1002 := by
    rw [hro, rowL_len]
    have := List.length_filter_le (fun q => decide (prV k q = prV k r)) m
    unfold flt
    omega
  have HST := hide hst
  clear hro hi hrow s hr hrb hrl hok hst
  generalize hH0 : hs ++ [(lv, r)] = hops at *
  have hhl : hops.length ≤ 50001 := by rw [← hH0]; simp; omega
  clear hH0
  generalize hN : ro.length = rn at hrn hil
  replace hN := hide hN
  generalize htg : tgR tr tn = tg at HST ⊢
  replace htg := hide htg
  go_enter Tryd.func53, Tryd.ntmps53
  go_wp2_with fail
  refine HE.out.mono ?_
  rintro e w2 ⟨v2, rfl, hrw, -, hb⟩
  rw [hN.out] at hrw
  obtain ⟨g, vc, rfl, -, -, -⟩ := hrw.form (by omega)
  replace SS := hide (SS.out.below hb)
  have KT := hide (Kt.of_below hb)
  have B := hide (hb.mono hbase)
  have RR := hide hrw
  clear hb hrw HE
  go_wp2
  go_loopw [5] (fun ix wr => ∃ j : Nat, j ≤ i ∧ ix = .int .i64 (j : Int) ∧ Hid (∃ wv' hp', Sr wr base b h a m.length c tr tn wv' hp' ∧ hp' ++ (lfL ro tg j).map (fun x => (k, x)) = hops ++ (lfL ro tg i).map (fun x => (k, x)) ∧ hp'.length + j ≤ hops.length + i) ∧ Hid (j - (lfL ro tg j).length = i - (lfL ro tg i).length) ∧ Hid (Rw wr 30 5 (.slice (some ⟨g, 0, none⟩) rn vc) rn (rfs ro)) ∧ Hid (Kt w wr) ∧ Hid (Below base w wr) ∧ Hid (∃ q, ∃ hq : q < ro.length, q < j ∧ keyLt ro[q] tg)) (fun ix _ => (intOf ix).toNat)
  case atStart => exact ⟨i, Nat.le_refl _, rfl, ⟨wv, hops, SS.out, rfl, by omega⟩, rfl, RR.out, KT.out, B.out, HST.out⟩
  case round =>
    obtain ⟨j, hj, rfl, HS, HJ, HR, HK, HB, HQ⟩ := hrel
    obtain ⟨wv', hp', sW, hpe, hpl⟩ := HS.out
    clear HS
    obtain ⟨q, hq, hqj, hqk⟩ := HQ.out
    obtain ⟨p, rfl⟩ : ∃ p, j = p + 1 := ⟨j - 1, by omega⟩
    obtain ⟨wa, wc, rfl, -, -⟩ := sW.row.shape
    have hplen : p < ro.length := by rw [hN.out]; omega
    have hpn : p < rn := by omega
    obtain ⟨e0, e1, e2, e3, e4⟩ := rfs_get ro p hplen
    have c0 := (HR.out.cellAt (p * 5) (by omega)).trans e0
    have c1 := (HR.out.cellAt (p * 5 + 1) (by omega)).trans e1
    have c2 := (HR.out.cellAt (p * 5 + 2) (by omega)).trans e2
    have c3 := (HR.out.cellAt (p * 5 + 3) (by omega)).trans e3
    have c4 := (HR.out.cellAt (p * 5 + 4) (by omega)).trans e4
    have sB := sW.blk
    unfold scs at sB
    have SB := hide sB
    have SW := hide sW
    have HPE := hide hpe
    have hpl2 : hp'.length ≤ 60000 := by omega
    replace hpl := hide hpl
    have CK := klt_key ro[p] tr tn
    rw [htg.out] at CK
    have KL := fun W => kLess_any ro[p].rk ro[p].kn tr tn W
    rw [CK] at KL
    have HN : Hid (¬keyLt ro[p] tg → q < p) := fun hn => by
      rcases Nat.lt_or_ge q p with h9 | h9
      · exact h9
      · have : q = p := by omega
        subst this
        exact absurd hqk hn
    have HQK : Hid (keyLt ro[q] tg) := hqk
    have LST := fun hx => lfL_stop (tg := tg) hplen hx
    have LNX := fun hx => lfL_next (tg := tg) hplen hx
    have hgd : Hid (ro.getD p zr = ro[p]) := by show _ = _; simp [List.getD, hplen]
    have HLST := hide LST
    have HLNX := hide LNX
    have hRF : Hid (ro[p].cells = #[.int .i64 ro[p].id, .int .i64 ro[p].rk, .int .u64 ro[p].kn, .int .i64 ro[p].ln, .int .u64 ro[p].bt]) := rfl
    clear e0 e1 e2 e3 e4 sB sW hpe CK LST LNX hqk HQ
    generalize hx : ro[p] = x at *
    obtain ⟨x0, x1, x2, x3, x4⟩ := x
    simp only [] at c0 c1 c2 c3 c4 KL hRF
    have HKL := hide KL
    clear KL
    have hwp := wrap_small (p : Int) (by omega) (by omega)
    generalize hpn2 : hp'.length = wn at *
    replace hpn2 := hide hpn2
    replace hx := hide hx
    go_wp2_with fail
    have KTD : Hid (Kt w wr.drew) := HK.out.trans (Kt.of_below ((Below.refl _ _).drew))
    replace SB := hide (SB.out.below ((Below.refl _ _).drew))
    replace SW := hide (SW.out.below ((Below.refl _ _).drew))
    replace HR := hide (HR.out.below ((Below.refl _ _).drew))
    replace HB := hide HB.out.drew
    clear HK
    have C0 : wr.drew.cell? ⟨g, p * 5, none⟩ = some (.int .i64 x0) := c0
    have C1 : wr.drew.cell? ⟨g, p * 5 + 1, none⟩ = some (.int .i64 x1) := c1
    have C2 : wr.drew.cell? ⟨g, p * 5 + 2, none⟩ = some (.int .u64 x2) := c2
    have C3 : wr.drew.cell? ⟨g, p * 5 + 3, none⟩ = some (.int .i64 x3) := c3
    have C4 : wr.drew.cell? ⟨g, p * 5 + 4, none⟩ = some (.int .u64 x4) := c4
    clear c0 c1 c2 c3 c4
    by_cases hkl : keyLt (⟨x0, x1, x2, x3, x4⟩ : Rf) tg
    · have hdk : decide (keyLt (⟨x0, x1, x2, x3, x4⟩ : Rf) tg) = true := decide_eq_true hkl
      rw [hdk] at HKL
      have HL0 := hide (HLST.out hkl)
      clear hdk hkl
      refine regionL 12 (fun w' => w'.cell? ⟨g, p * 5 + 1, none⟩ = some (.int .i64 x1) ∧ w'.cell? ⟨g, p * 5 + 2, none⟩ = some (.int .u64 x2) ∧ IsB w' b #[.int .i64 h, .int .i64 0, .int .i64 1, .int .u64 0, .int .i64 h, .int .u64 0, .int .i64 1, .int .i64 3, .int .u64 0, .int .i64 h, .int .u64 0, .slice a m.length c, .int .i64 tr, .int .u64 tn, .slice wa wn wc] 75) mixed ⟨C1, C2, SB.out⟩ (fun hHeld => ?_)
      generalize wr.drew = WD at *
      refine pickA (v := ?_) 0 (some 12) rfl rfl (by kernel_rfl) (by kernel_rfl) (by kernel_rfl) (by decide) (fun _ _ _ h => h) (by rfl) ?_ (by assumption) ?_
      rotate_left
      · intro w'
        go_simp
        try with_reducible rfl
      try simp only [Act.put, List.setIfInBounds_toArray, List.set_cons_zero, List.set_cons_succ]
      refine pickA (v := ?_) 1 (some 13) rfl rfl (by kernel_rfl) (by kernel_rfl) (by kernel_rfl) (by decide) (fun _ _ _ h => h) (by rfl) ?_ (by assumption) ?_
      rotate_left
      · intro w'
        go_simp
        try with_reducible rfl
      try simp only [Act.put, List.setIfInBounds_toArray, List.set_cons_zero, List.set_cons_succ]
      refine pickA (v := ?_) 2 (some 14) rfl rfl (by kernel_rfl) (by kernel_rfl) (by kernel_rfl) (by decide) (fun _ _ _ h => h) (by rfl) ?_ (by assumption) ?_
      rotate_left
      · intro w'
        go_simp
        try with_reducible rfl
      try simp only [Act.put, List.setIfInBounds_toArray, List.set_cons_zero, List.set_cons_succ]
      refine pickA (v := .pointer (some ⟨g, p * 5, none⟩)) 3 (some 15) rfl rfl (by kernel_rfl) (by kernel_rfl) (by kernel_rfl) (by decide) (fun _ _ _ h => h) (by rfl) ?_ (by assumption) ?_
      · intro w'
        go_simp
      try simp only [Act.put, List.setIfInBounds_toArray, List.set_cons_zero, List.set_cons_succ]
      refine pickA (v := ?_) 4 (some 16) rfl rfl (by kernel_rfl) (by kernel_rfl) (by kernel_rfl) (by decide) (fun _ _ _ h => h) (by rfl) ?_ (by assumption) ?_
      rotate_left
      · intro w'
        go_simp
        try with_reducible rfl
      try simp only [Act.put, List.setIfInBounds_toArray, List.set_cons_zero, List.set_cons_succ]
      refine pickL (v := .agg #[.int .i64 x1, .int .u64 x2]) 5 (some 17) rfl rfl (by kernel_rfl) (by kernel_rfl) (by kernel_rfl) (by decide) (by kernel_rfl) (by kernel_rfl) (fun _ _ _ h => h) (by rfl) ?_ (by assumption) ?_
      · intro w' hSw
        obtain ⟨q1, q2, q3⟩ := hSw
        go_simp
      try simp only [Act.put, List.setIfInBounds_toArray, List.set_cons_zero, List.set_cons_succ]
      refine pickA (v := ?_) 6 (some 18) rfl rfl (by kernel_rfl) (by kernel_rfl) (by kernel_rfl) (by decide) (fun _ _ _ h => h) (by rfl) ?_ (by assumption) ?_
      rotate_left
      · intro w'
        go_simp
        try with_reducible rfl
      try simp only [Act.put, List.setIfInBounds_toArray, List.set_cons_zero, List.set_cons_succ]
      refine pickA (v := ?_) 7 (some 19) rfl rfl (by kernel_rfl) (by kernel_rfl) (by kernel_rfl) (by decide) (fun _ _ _ h => h) (by rfl) ?_ (by assumption) ?_
      rotate_left
      · intro w'
        go_simp
        try with_reducible rfl
      try simp only [Act.put, List.setIfInBounds_toArray, List.set_cons_zero, List.set_cons_succ]
      refine pickA (v := ?_) 8 (some 20) rfl rfl (by kernel_rfl) (by kernel_rfl) (by kernel_rfl) (by decide) (fun _ _ _ h => h) (by rfl) ?_ (by assumption) ?_
      rotate_left
      · intro w'
        go_simp
        try with_reducible rfl
      try simp only [Act.put, List.setIfInBounds_toArray, List.set_cons_zero, List.set_cons_succ]
      refine pickL (v := .agg #[.int .i64 tr, .int .u64 tn]) 9 (some 21) rfl rfl (by kernel_rfl) (by kernel_rfl) (by kernel_rfl) (by decide) (by kernel_rfl) (by kernel_rfl) (fun _ _ _ h => h) (by rfl) ?_ (by assumption) ?_
      · intro w' hSw
        obtain ⟨q1, q2, q3⟩ := hSw
        have t12 := q3.cell 12
        have t13 := q3.cell 13
        simp at t12 t13
        go_simp
      try simp only [Act.put, List.setIfInBounds_toArray, List.set_cons_zero, List.set_cons_succ]
      refine oneL (i := 10) (by kernel_rfl) rfl (fun K hK => ?_)
      go_simp
      refine (HKL.out WD).mono ?_
      rintro e w3 ⟨rfl, hgr⟩
      have hb := hgr.below
      have D0 := (hb.cell (lt_of_cell C0)).trans C0
      have D1 := (hb.cell (lt_of_cell C1)).trans C1
      have D2 := (hb.cell (lt_of_cell C2)).trans C2
      have D3 := (hb.cell (lt_of_cell C3)).trans C3
      have D4 := (hb.cell (lt_of_cell C4)).trans C4
      replace SB := hide (SB.out.below hb)
      replace SW := hide (SW.out.below hb)
      replace HR := hide (HR.out.below hb)
      have KT3 := hide (KTD.out.trans (Kt.of_below hb))
      have B3 : Hid (Below base w w3) := HB.out.trans (hb.mono (by have := HB.out.size; omega))
      clear hb hgr C0 C1 C2 C3 C4
      refine hK.out _ _ ?_ ?_
      · exact ⟨D1, D2, SB.out⟩
      clear hK K
      try simp only [Act.put, List.setIfInBounds_toArray, List.set_cons_zero, List.set_cons_succ]
      clear hHeld
      have hHeld : (fun w' => w'.cell? ⟨g, p * 5 + 1, none⟩ = some (.int .i64 x1) ∧ w'.cell? ⟨g, p * 5 + 2, none⟩ = some (.int .u64 x2) ∧ IsB w' b #[.int .i64 h, .int .i64 0, .int .i64 1, .int .u64 0, .int .i64 h, .int .u64 0, .int .i64 1, .int .i64 3, .int .u64 0, .int .i64 h, .int .u64 0, .slice a m.length c, .int .i64 tr, .int .u64 tn, .slice wa wn wc] 75) w3 := ⟨D1, D2, SB.out⟩
      refine pickA (v := ?_) 11 (some 23) rfl rfl (by kernel_rfl) (by kernel_rfl) (by kernel_rfl) (by decide) (fun _ _ _ h => h) (by rfl) ?_ (by assumption) ?_
      rotate_left
      · intro w'
        go_simp
        try with_reducible rfl
      try simp only [Act.put, List.setIfInBounds_toArray, List.set_cons_zero, List.set_cons_succ]
      refine doneL (by kernel_rfl) ?_ _
      clear hHeld
      rw [HL0.out] at HPE HJ
      simp only [List.map_nil, List.append_nil, List.length_nil, Nat.sub_zero] at HPE HJ
      by_cases hk0 : k = 0
      · subst hk0
        have hidx : Hid (i - (lfL ro tg i).length - 1 = p) := by show _ = _; rw [← HJ.out]; simp
        have SD := hide (stand_any base b h a m.length c tr tn (.slice wa wn wc) hp' (by have := hpn2.out; omega) 0 (⟨x0, x1, x2, x3, x4⟩ : Rf) w3 (by have := B3.out.size; omega) SW.out)
        unfold Rf.cells at SD
        simp only [] at SD
        go_wp2_with fail
        refine SD.out.mono ?_
        rintro e w4 ⟨rfl, ⟨wv4, s4⟩, k4, b4⟩
        have S4 := hide s4
        have K4 := hide (KT3.out.trans k4)
        have B4 := hide (B3.out.trans b4)
        clear s4 k4 b4 SD
        go_wp2
        go_end0
        refine ⟨rfl, ⟨wv4, ?_⟩, K4.out, B4.out⟩
        have h9 := S4.out
        rw [HPE.out] at h9
        have h8 : hops ++ (lfL ro tg i).map (fun x => ((0 : Int), x)) ++ (if (0 : Int) = 0 then [((0 : Int), ro.getD (i - (lfL ro tg i).length - 1) zr)] else []) = hops ++ (lfL ro tg i).map (fun x => ((0 : Int), x)) ++ [((0 : Int), (⟨x0, x1, x2, x3, x4⟩ : Rf))] := by
          rw [if_pos rfl, hidx.out, hgd.out]
        rw [← h8] at h9
        simpa using h9
      · have hkb : (k == 0) = false := by simpa using hk0
        go_wp2
        go_end0
        refine ⟨rfl, ⟨.slice wa wn wc, ?_⟩, KT3.out, B3.out⟩
        have h9 := SW.out
        rw [HPE.out] at h9
        simpa [hk0] using h9
    · have hdk : decide (keyLt (⟨x0, x1, x2, x3, x4⟩ : Rf) tg) = false := decide_eq_false hkl
      rw [hdk] at HKL
      have HL1 := hide (HLNX.out hkl)
      have hqp : Hid (q < p) := HN.out hkl
      clear hdk hkl
      have SD := fun W hW sW => stand_any base b h a m.length c tr tn (.slice wa wn wc) hp' (by have := hpn2.out; omega) k (⟨x0, x1, x2, x3, x4⟩ : Rf) W hW sW
      unfold Rf.cells at SD
      simp only [] at SD
      have HSD := hide SD
      clear SD
      refine regionL 12 (fun w' => w'.cell? ⟨g, p * 5 + 1, none⟩ = some (.int .i64 x1) ∧ w'.cell? ⟨g, p * 5 + 2, none⟩ = some (.int .u64 x2) ∧ IsB w' b #[.int .i64 h, .int .i64 0, .int .i64 1, .int .u64 0, .int .i64 h, .int .u64 0, .int .i64 1, .int .i64 3, .int .u64 0, .int .i64 h, .int .u64 0, .slice a m.length c, .int .i64 tr, .int .u64 tn, .slice wa wn wc] 75) mixed ⟨C1, C2, SB.out⟩ (fun hHeld => ?_)
      generalize wr.drew = WD at *
      refine pickA (v := ?_) 0 (some 12) rfl rfl (by kernel_rfl) (by kernel_rfl) (by kernel_rfl) (by decide) (fun _ _ _ h => h) (by rfl) ?_ (by assumption) ?_
      rotate_left
      · intro w'
        go_simp
        try with_reducible rfl
      try simp only [Act.put, List.setIfInBounds_toArray, List.set_cons_zero, List.set_cons_succ]
      refine pickA (v := ?_) 1 (some 13) rfl rfl (by kernel_rfl) (by kernel_rfl) (by kernel_rfl) (by decide) (fun _ _ _ h => h) (by rfl) ?_ (by assumption) ?_
      rotate_left
      · intro w'
        go_simp
        try with_reducible rfl
      try simp only [Act.put, List.setIfInBounds_toArray, List.set_cons_zero, List.set_cons_succ]
      refine pickA (v := ?_) 2 (some 14) rfl rfl (by kernel_rfl) (by kernel_rfl) (by kernel_rfl) (by decide) (fun _ _ _ h => h) (by rfl) ?_ (by assumption) ?_
      rotate_left
      · intro w'
        go_simp
        try with_reducible rfl
      try simp only [Act.put, List.setIfInBounds_toArray, List.set_cons_zero, List.set_cons_succ]
      refine pickA (v := .pointer (some ⟨g, p * 5, none⟩)) 3 (some 15) rfl rfl (by kernel_rfl) (by kernel_rfl) (by kernel_rfl) (by decide) (fun _ _ _ h => h) (by rfl) ?_ (by assumption) ?_
      · intro w'
        go_simp
      try simp only [Act.put, List.setIfInBounds_toArray, List.set_cons_zero, List.set_cons_succ]
      refine pickA (v := ?_) 4 (some 16) rfl rfl (by kernel_rfl) (by kernel_rfl) (by kernel_rfl) (by decide) (fun _ _ _ h => h) (by rfl) ?_ (by assumption) ?_
      rotate_left
      · intro w'
        go_simp
        try with_reducible rfl
      try simp only [Act.put, List.setIfInBounds_toArray, List.set_cons_zero, List.set_cons_succ]
      refine pickL (v := .agg #[.int .i64 x1, .int .u64 x2]) 5 (some 17) rfl rfl (by kernel_rfl) (by kernel_rfl) (by kernel_rfl) (by decide) (by kernel_rfl) (by kernel_rfl) (fun _ _ _ h => h) (by rfl) ?_ (by assumption) ?_
      · intro w' hSw
        obtain ⟨q1, q2, q3⟩ := hSw
        go_simp
      try simp only [Act.put, List.setIfInBounds_toArray, List.set_cons_zero, List.set_cons_succ]
      refine pickA (v := ?_) 6 (some 18) rfl rfl (by kernel_rfl) (by kernel_rfl) (by kernel_rfl) (by decide) (fun _ _ _ h => h) (by rfl) ?_ (by assumption) ?_
      rotate_left
      · intro w'
        go_simp
        try with_reducible rfl
      try simp only [Act.put, List.setIfInBounds_toArray, List.set_cons_zero, List.set_cons_succ]
      refine pickA (v := ?_) 7 (some 19) rfl rfl (by kernel_rfl) (by kernel_rfl) (by kernel_rfl) (by decide) (fun _ _ _ h => h) (by rfl) ?_ (by assumption) ?_
      rotate_left
      · intro w'
        go_simp
        try with_reducible rfl
      try simp only [Act.put, List.setIfInBounds_toArray, List.set_cons_zero, List.set_cons_succ]
      refine pickA (v := ?_) 8 (some 20) rfl rfl (by kernel_rfl) (by kernel_rfl) (by kernel_rfl) (by decide) (fun _ _ _ h => h) (by rfl) ?_ (by assumption) ?_
      rotate_left
      · intro w'
        go_simp
        try with_reducible rfl
      try simp only [Act.put, List.setIfInBounds_toArray, List.set_cons_zero, List.set_cons_succ]
      refine pickL (v := .agg #[.int .i64 tr, .int .u64 tn]) 9 (some 21) rfl rfl (by kernel_rfl) (by kernel_rfl) (by kernel_rfl) (by decide) (by kernel_rfl) (by kernel_rfl) (fun _ _ _ h => h) (by rfl) ?_ (by assumption) ?_
      · intro w' hSw
        obtain ⟨q1, q2, q3⟩ := hSw
        have t12 := q3.cell 12
        have t13 := q3.cell 13
        simp at t12 t13
        go_simp
      try simp only [Act.put, List.setIfInBounds_toArray, List.set_cons_zero, List.set_cons_succ]
      refine oneL (i := 10) (by kernel_rfl) rfl (fun K hK => ?_)
      go_simp
      refine (HKL.out WD).mono ?_
      rintro e w3 ⟨rfl, hgr⟩
      have hb := hgr.below
      have D0 := (hb.cell (lt_of_cell C0)).trans C0
      have D1 := (hb.cell (lt_of_cell C1)).trans C1
      have D2 := (hb.cell (lt_of_cell C2)).trans C2
      have D3 := (hb.cell (lt_of_cell C3)).trans C3
      have D4 := (hb.cell (lt_of_cell C4)).trans C4
      replace SB := hide (SB.out.below hb)
      replace SW := hide (SW.out.below hb)
      replace HR := hide (HR.out.below hb)
      have KT3 := hide (KTD.out.trans (Kt.of_below hb))
      have B3 : Hid (Below base w w3) := HB.out.trans (hb.mono (by have := HB.out.size; omega))
      clear hb hgr C0 C1 C2 C3 C4
      refine hK.out _ _ ?_ ?_
      · exact ⟨D1, D2, SB.out⟩
      clear hK K
      try simp only [Act.put, List.setIfInBounds_toArray, List.set_cons_zero, List.set_cons_succ]
      clear hHeld
      have hHeld : (fun w' => w'.cell? ⟨g, p * 5 + 1, none⟩ = some (.int .i64 x1) ∧ w'.cell? ⟨g, p * 5 + 2, none⟩ = some (.int .u64 x2) ∧ IsB w' b #[.int .i64 h, .int .i64 0, .int .i64 1, .int .u64 0, .int .i64 h, .int .u64 0, .int .i64 1, .int .i64 3, .int .u64 0, .int .i64 h, .int .u64 0, .slice a m.length c, .int .i64 tr, .int .u64 tn, .slice wa wn wc] 75) w3 := ⟨D1, D2, SB.out⟩
      refine pickA (v := ?_) 11 (some 23) rfl rfl (by kernel_rfl) (by kernel_rfl) (by kernel_rfl) (by decide) (fun _ _ _ h => h) (by rfl) ?_ (by assumption) ?_
      rotate_left
      · intro w'
        go_simp
        try with_reducible rfl
      try simp only [Act.put, List.setIfInBounds_toArray, List.set_cons_zero, List.set_cons_succ]
      refine doneL (by kernel_rfl) ?_ _
      clear hHeld
      go_wp2_with fail
      refine (HSD.out w3 (by have := B3.out.size; omega) SW.out).mono ?_
      rintro e w4 ⟨rfl, ⟨wv4, s4⟩, k4, b4⟩
      have S4 := hide s4
      have K4 := hide (KT3.out.trans k4)
      have B4 := hide (B3.out.trans b4)
      have R4 := hide (Kt.rw HR.out k4)
      clear s4 k4 b4 HSD
      go_wp2
      refine ⟨⟨p, by omega, by simp, ⟨wv4, _, S4.out, ?_, ?_⟩, ?_, R4.out, K4.out, B4.out, ⟨q, hq, hqp.out, HQK.out⟩⟩, by simp [intOf]⟩
      · rw [← HPE.out, HL1.out]
        simp
      · have h8 := hpl.out
        have h9 := hpn2.out
        simp
        omega
      · have h8 := HJ.out
        rw [HL1.out] at h8
        simp at h8
        have h9 := lfL_len ro tg p
        show p - (lfL ro tg p).length = _
        omega

end Go.Proofs.YtfcmmchppcffmaaDoor
