/- here: where a search stands. -/
import Derived.Test.YtfcmmchppcffmaaDoorGL
namespace Go.Proofs.YtfcmmchppcffmaaDoor
open Go.RowKit Go.Maps Go.ChangeMaps

theorem pre_rt {n b k : Int} (hr : rt n b = true) (hb : 0 ≤ b) (h0 : 0 ≤ k) (h1 : k ≤ n) : rt k ((pre n.toNat b.toNat k.toNat : Nat) : Int) = true := by
  have h := of_decide_eq_true hr
  refine decide_eq_true ⟨h0, by omega, ?_⟩
  have h3 : b.toNat < 2 ^ n.toNat := by
    have h4 := h.2.2
    have h5 : ((b.toNat : Nat) : Int) < ((2 ^ n.toNat : Nat) : Int) := by
      rw [Int.toNat_of_nonneg hb]
      simpa using h4
    omega
  have h6 : pre n.toNat b.toNat k.toNat < 2 ^ k.toNat := by
    unfold pre
    rw [Nat.div_lt_iff_lt_mul (Nat.pow_pos (by omega)), ← Nat.pow_add]
    have : k.toNat + (n.toNat - k.toNat) = n.toNat := by omega
    rw [this]
    exact h3
  have h7 : ((pre n.toNat b.toNat k.toNat : Nat) : Int) < ((2 ^ k.toNat : Nat) : Int) := by omega
  simpa using h7
theorem field_vec (x0 x1 x2 x3 x4 : Int) (w : World) : (Instr.field 30 (.agg #[.int .i64 x0, .int .i64 x1, .int .u64 x2, .int .i64 x3, .int .u64 x4]) 2).run Tryd.prog w = .ok (.agg #[.int .i64 x3, .int .u64 x4]) w := by kernel_rfl
theorem field_id (x0 x1 x2 x3 x4 : Int) (w : World) : (Instr.field 30 (.agg #[.int .i64 x0, .int .i64 x1, .int .u64 x2, .int .i64 x3, .int .u64 x4]) 0).run Tryd.prog w = .ok (.int .i64 x0) w := by kernel_rfl
theorem field_key (x0 x1 x2 x3 x4 : Int) (w : World) : (Instr.field 30 (.agg #[.int .i64 x0, .int .i64 x1, .int .u64 x2, .int .i64 x3, .int .u64 x4]) 1).run Tryd.prog w = .ok (.agg #[.int .i64 x1, .int .u64 x2]) w := by kernel_rfl

set_option maxHeartbeats 2000000 in
set_option maxRecDepth 100000 in
theorem here_any (base b : Nat) (h k : Int) (a : Option Addr) (c : Nat) (m : List Rf) (hm : m.length ≤ 1000) (hok : ∀ r ∈ m, mayR h r = true ∧ 0 ≤ r.bt) (h32 : h ≤ 32) (h0 : 0 ≤ k) (h1 : k ≤ h) (tr tn : Int) (wv : Value) (hs : List Hp) (hl : hs.length ≤ 100000) (lv : Int) (r : Rf) (hr : rt r.ln r.bt = true) (hrb : 0 ≤ r.bt) (hrl : r.ln = h) (w : World) (hrow : Rw w 30 5 (.slice a m.length c) m.length (rfs m)) (s : Sr w base b h a m.length c tr tn wv (hs ++ [(lv, r)])) :
    Calls Tryd.prog 54 #[.pointer (some ⟨b, 0, none⟩), .int .i64 k] w fun e w' => ∃ v', e = .returned (.tuple #[v', .int .i64 (plI r.id (rowL h (flt k (prV k r) m)))]) ∧ Rw w' 30 5 v' (rowL h (flt k (prV k r) m)).length (rfs (rowL h (flt k (prV k r) m))) ∧ (∀ q, v'.ownBlock = some q → w.heap.size ≤ q) ∧ Below w.heap.size w w' := by
  have mixed : Tryd.prog.follows .mixedOrders = true := by kernel_rfl
  obtain ⟨wa, wc, rfl, -, -⟩ := s.row.shape
  have AT := fun W (sW : Sr W base b h a m.length c tr tn (.slice wa (hs ++ [(lv, r)]).length wc) (hs ++ [(lv, r)])) => at_any base b h a m.length c tr tn _ hs lv r hl W sW
  have hPV : prV k r = (k, ((pre r.ln.toNat r.bt.toNat k.toNat : Nat) : Int)) := rfl
  have PX := prefix_ok r.ln r.bt k hr hrb h0 (by omega)
  have hov := okV_prV hr h0 (k := k) (by omega)
  have hpr : rt k ((pre r.ln.toNat r.bt.toNat k.toNat : Nat) : Int) = true := pre_rt hr hrb h0 (by omega)
  have RW := fun W hsW => row_any h a c m hm hok h32 k ((pre r.ln.toNat r.bt.toNat k.toNat : Nat) : Int) hpr (by omega) h1 W hsW
  rw [← hPV] at RW
  unfold gcs at RW
  have PLC := fun v W hsW => place_any v (rowL h (flt k (prV k r) m)) (by
    rw [rowL_len]
    have := List.length_filter_le (fun q => decide (prV k q = prV k r)) m
    unfold flt
    omega) r.id W hsW
  have SS := hide s
  have HRW := hide hrow
  have f2 := field_vec
  have f0 := field_id
  obtain ⟨x0, x1, x2, x3, x4⟩ := r
  simp only [Rf.cells] at AT PX hPV RW PLC
  generalize ((pre x3.toNat x4.toNat k.toNat : Nat) : Int) = P at PX RW hPV
  generalize rowL h (flt k (prV k (⟨x0, x1, x2, x3, x4⟩ : Rf)) m) = ro at *
  have HAT := hide AT
  have HPX := hide PX
  have HRO := hide RW
  have HPL := hide PLC
  clear AT PX RW PLC s hrow hPV hov hpr hok hr hrb hrl
  go_enter Tryd.func54, Tryd.ntmps54
  go_wp2_with fail
  refine (HAT.out w SS.out).mono ?_
  rintro e w2 ⟨rfl, hb⟩
  have B := hide hb
  replace SS := hide (SS.out.below hb)
  replace HRW := hide (HRW.out.below hb)
  clear hb
  go_wp2_with fail
  refine (HPX.out w2).mono ?_
  rintro e w3 ⟨rfl, hb⟩
  replace B := hide (B.out.trans (hb.mono B.out.size))
  replace SS := hide (SS.out.below hb)
  replace HRW := hide (HRW.out.below hb)
  clear hb HPX
  have b4 := (Below.refl w3.heap.size w3).alloc (Nat.le_refl _) (.cells #[.int .i64 k, .int .u64 P] 28)
  have Vb := hide (IsB.new w3 #[.int .i64 k, .int .u64 P] 28)
  replace B := hide (B.out.trans (b4.mono B.out.size))
  replace SS := hide (SS.out.below b4)
  replace HRW := hide (HRW.out.below b4)
  clear b4
  go_wp2_with fail
  generalize w3.alloc (.cells #[.int .i64 k, .int .u64 P] 28) = W4 at *
  generalize w3.heap.size = VB at Vb ⊢
  replace Vb := hide (Vb.out.below ((Below.refl _ _).drew))
  replace SS := hide (SS.out.below ((Below.refl _ _).drew))
  replace HRW := hide (HRW.out.below ((Below.refl _ _).drew))
  replace B := hide B.out.drew
  generalize hwn : (hs ++ [(lv, (⟨x0, x1, x2, x3, x4⟩ : Rf))]).length = wn at *
  have SB : Hid (IsB W4.drew b #[.int .i64 h, .int .i64 0, .int .i64 1, .int .u64 0, .int .i64 h, .int .u64 0, .int .i64 1, .int .i64 3, .int .u64 0, .int .i64 h, .int .u64 0, .slice a m.length c, .int .i64 tr, .int .u64 tn, .slice wa wn wc] 75) := SS.out.blk
  refine regionL 7 (fun w' => IsB w' b #[.int .i64 h, .int .i64 0, .int .i64 1, .int .u64 0, .int .i64 h, .int .u64 0, .int .i64 1, .int .i64 3, .int .u64 0, .int .i64 h, .int .u64 0, .slice a m.length c, .int .i64 tr, .int .u64 tn, .slice wa wn wc] 75 ∧ IsB w' VB #[.int .i64 k, .int .u64 P] 28) mixed ⟨SB.out, Vb.out⟩ (fun hHeld => ?_)
  generalize W4.drew = WD at *
  refine pickA (v := ?_) 0 (some 17) rfl rfl (by kernel_rfl) (by kernel_rfl) (by kernel_rfl) (by decide) (fun _ _ _ h => h) (by rfl) ?_ (by assumption) ?_
  rotate_left
  · intro w'
    go_simp
    try with_reducible rfl
  try simp only [Act.put, List.setIfInBounds_toArray, List.set_cons_zero, List.set_cons_succ]
  refine pickA (v := ?_) 1 (some 18) rfl rfl (by kernel_rfl) (by kernel_rfl) (by kernel_rfl) (by decide) (fun _ _ _ h => h) (by rfl) ?_ (by assumption) ?_
  rotate_left
  · intro w'
    go_simp
    try with_reducible rfl
  try simp only [Act.put, List.setIfInBounds_toArray, List.set_cons_zero, List.set_cons_succ]
  refine pickA (v := ?_) 2 (some 19) rfl rfl (by kernel_rfl) (by kernel_rfl) (by kernel_rfl) (by decide) (fun _ _ _ h => h) (by rfl) ?_ (by assumption) ?_
  rotate_left
  · intro w'
    go_simp
    try with_reducible rfl
  try simp only [Act.put, List.setIfInBounds_toArray, List.set_cons_zero, List.set_cons_succ]
  refine pickL (v := .agg #[.int .i64 h, .int .i64 0, .int .i64 1, .int .u64 0, .int .i64 h, .int .u64 0, .int .i64 1, .int .i64 3, .int .u64 0, .int .i64 h, .int .u64 0, .slice a m.length c]) 3 (some 20) rfl rfl (by kernel_rfl) (by kernel_rfl) (by kernel_rfl) (by decide) (by kernel_rfl) (by kernel_rfl) (fun _ _ _ h => h) (by rfl) ?_ (by assumption) ?_
  · intro w' hSw
    obtain ⟨q0, q1⟩ := hSw
    have g0 := q0.cell 0
    have g1 := q0.cell 1
    have g2 := q0.cell 2
    have g3 := q0.cell 3
    have g4 := q0.cell 4
    have g5 := q0.cell 5
    have g6 := q0.cell 6
    have g7 := q0.cell 7
    have g8 := q0.cell 8
    have g9 := q0.cell 9
    have g10 := q0.cell 10
    have g11 := q0.cell 11
    simp at g0 g1 g2 g3 g4 g5 g6 g7 g8 g9 g10 g11
    go_simp
  try simp only [Act.put, List.setIfInBounds_toArray, List.set_cons_zero, List.set_cons_succ]
  refine pickL (v := .agg #[.int .i64 k, .int .u64 P]) 4 (some 21) rfl rfl (by kernel_rfl) (by kernel_rfl) (by kernel_rfl) (by decide) (by kernel_rfl) (by kernel_rfl) (fun _ _ _ h => h) (by rfl) ?_ (by assumption) ?_
  · intro w' hSw
    obtain ⟨q0, q1⟩ := hSw
    exact exec_load rfl rfl (load_vec q1 rfl)
  try simp only [Act.put, List.setIfInBounds_toArray, List.set_cons_zero, List.set_cons_succ]
  refine oneL (i := 5) (by kernel_rfl) rfl (fun K hK => ?_)
  go_simp
  refine (HRO.out WD HRW.out.rsl).mono ?_
  rintro e w5 ⟨v5, rfl, hrw5, hnw5, hb⟩
  have R5 := hide hrw5
  have NW5 : Hid (∀ q, v5.ownBlock = some q → w.heap.size ≤ q) := fun q hq => Nat.le_trans B.out.size (hnw5 q hq)
  replace B := hide (B.out.trans (hb.mono B.out.size))
  replace SS := hide (SS.out.below hb)
  replace SB := hide (SB.out.below hb)
  replace Vb := hide (Vb.out.below hb)
  clear hb hrw5 hnw5 HRO
  refine hK.out _ _ ?_ ?_
  · exact ⟨SB.out, Vb.out⟩
  clear hK K
  try simp only [Act.put, List.setIfInBounds_toArray, List.set_cons_zero, List.set_cons_succ]
  clear hHeld
  have hHeld : (fun w' => IsB w' b #[.int .i64 h, .int .i64 0, .int .i64 1, .int .u64 0, .int .i64 h, .int .u64 0, .int .i64 1, .int .i64 3, .int .u64 0, .int .i64 h, .int .u64 0, .slice a m.length c, .int .i64 tr, .int .u64 tn, .slice wa wn wc] 75 ∧ IsB w' VB #[.int .i64 k, .int .u64 P] 28) w5 := ⟨SB.out, Vb.out⟩
  refine pickA (v := ?_) 6 (some 8) rfl rfl (by kernel_rfl) (by kernel_rfl) (by kernel_rfl) (by decide) (fun _ _ _ h => h) (by rfl) ?_ (by assumption) ?_
  rotate_left
  · intro w'
    go_simp
    try with_reducible rfl
  try simp only [Act.put, List.setIfInBounds_toArray, List.set_cons_zero, List.set_cons_succ]
  refine doneL (by kernel_rfl) ?_ _
  clear hHeld
  go_wp2_with fail
  refine (HAT.out w5 SS.out).mono ?_
  rintro e w6 ⟨rfl, hb⟩
  replace B := hide (B.out.trans (hb.mono B.out.size))
  replace R5 := hide (R5.out.below hb)
  clear hb
  go_wp2_with fail
  refine (HPL.out v5 w6 R5.out.rsl).mono ?_
  rintro e w7 ⟨rfl, hb⟩
  replace B := hide (B.out.trans (hb.mono B.out.size))
  replace R5 := hide (R5.out.below hb)
  clear hb HPL
  generalize hPI : plI x0 ro = PI at *
  replace hPI := hide hPI
  go_wp2
  go_ret2
  exact ⟨v5, by rw [hPI.out]; rfl, R5.out, NW5.out, B.out⟩

end Go.Proofs.YtfcmmchppcffmaaDoor
