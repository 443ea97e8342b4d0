/- run: a search that goes left, down all levels. -/
import Derived.Test.YtfcmmchppcffmaaDoorGP
namespace Go.Proofs.YtfcmmchppcffmaaDoor
open Go.RowKit Go.Maps Go.ChangeMaps

theorem last_hop (hs : List Hp) (lv k : Int) (r : Rf) (S : List Rf) : ∃ hs' lv', hs ++ [(lv, r)] ++ S.map (fun x => (k, x)) = hs' ++ [(lv', S.getLastD r)] := by
  rcases List.eq_nil_or_concat S with e | ⟨ys, y, e⟩
  · rw [e]; exact ⟨hs, lv, by simp⟩
  · rw [e]; exact ⟨hs ++ [(lv, r)] ++ ys.map (fun x => (k, x)), k, by simp⟩
/-- The one behind another one, in the list of no bits. -/
def endY (h : Int) (m : List Rf) (r : Rf) : Rf := (rowL h m).getD ((plI r.id (rowL h m)).toNat + 1) zr
theorem stepL_eq {h : Int} {m : List Rf} {tg r : Rf} {k : Int} {i : Nat} (hi : plI r.id (rowL h (flt k (prV k r) m)) = (i : Int)) : stepL h m tg k r = lfL (rowL h (flt k (prV k r) m)) tg i ++ (if k = 0 then [(rowL h (flt k (prV k r) m)).getD (i - (lfL (rowL h (flt k (prV k r) m)) tg i).length - 1) zr] else []) := by
  unfold stepL
  rw [hi, Int.toNat_natCast]
/-- Where a search ends that went left: in the list of no bits, ahead of its end. -/
theorem InvL.fin {h : Int} {m : List Rf} (M : Mem h m) {tg r : Rf} (I : InvL h m tg r) (hh : keyLt (hdR h) tg) : ∃ j, ∃ hj : j + 1 < (rowL h m).length, plI ((stepL h m tg 0 r).getLastD r).id (rowL h m) = (j : Int) ∧ (rowL h m)[j] = (stepL h m tg 0 r).getLastD r ∧ okR h ((stepL h m tg 0 r).getLastD r) ∧ (stepL h m tg 0 r).getLastD r ∈ rowL h m := by
  have hrm : ∀ q ∈ m, rt q.ln q.bt = true ∧ 0 ≤ q.bt := fun q hq => ⟨(M.mem_ok hq).1, (M.mem_ok hq).2.1⟩
  have hro : okR h r := M.row_ok (I.row 0)
  have e0 : flt 0 (prV 0 r) m = m := flt_zero m hrm r ⟨hro.1, hro.2.1⟩
  obtain ⟨i, hi, h1, h2, h3, -⟩ := I.at M hh 0
  have hS := stepL_eq (tg := tg) h1
  rw [if_pos rfl] at hS
  have hl := lfL_len (rowL h (flt 0 (prV 0 r) m)) tg i
  rw [hS, List.getLastD_concat]
  have hlt : i - (lfL (rowL h (flt 0 (prV 0 r) m)) tg i).length - 1 < (rowL h (flt 0 (prV 0 r) m)).length := by omega
  have hx : (rowL h (flt 0 (prV 0 r) m)).getD (i - (lfL (rowL h (flt 0 (prV 0 r) m)) tg i).length - 1) zr = (rowL h (flt 0 (prV 0 r) m))[i - (lfL (rowL h (flt 0 (prV 0 r) m)) tg i).length - 1] := by simp [List.getD, hlt]
  have hmem : (rowL h (flt 0 (prV 0 r) m)).getD (i - (lfL (rowL h (flt 0 (prV 0 r) m)) tg i).length - 1) zr ∈ rowL h (flt 0 (prV 0 r) m) := by rw [hx]; exact List.getElem_mem hlt
  obtain ⟨j, hj, hj1, hj2⟩ := M.pos hmem
  have hjl : j + 1 < (rowL h (flt 0 (prV 0 r) m)).length := by
    have hn := M.row_ids 0 (prV 0 r)
    have e : j = i - (lfL (rowL h (flt 0 (prV 0 r) m)) tg i).length - 1 := by
      rw [hx] at hj2
      have h5 : ((rowL h (flt 0 (prV 0 r) m)).map (·.id))[j]'(by simpa using hj) = ((rowL h (flt 0 (prV 0 r) m)).map (·.id))[i - (lfL (rowL h (flt 0 (prV 0 r) m)) tg i).length - 1]'(by simpa using hlt) := by
        rw [List.getElem_map, List.getElem_map, hj2]
      exact nodup_inj hn _ _ h5
    omega
  have hok := M.row_ok hmem
  generalize (rowL h (flt 0 (prV 0 r) m)).getD (i - (lfL (rowL h (flt 0 (prV 0 r) m)) tg i).length - 1) zr = z at *
  simp only [e0] at hj1 hj2 hjl hmem
  exact ⟨j, hjl, hj1, hj2, hok, hmem⟩
theorem goL_fin {h : Int} {m : List Rf} (M : Mem h m) {tg : Rf} (hh : keyLt (hdR h) tg) : ∀ (n : Nat) (r : Rf), InvL h m tg r → ∃ j, ∃ hj : j + 1 < (rowL h m).length, plI ((goL h m tg n r).2).id (rowL h m) = (j : Int) ∧ (rowL h m)[j] = (goL h m tg n r).2 ∧ okR h ((goL h m tg n r).2) ∧ (goL h m tg n r).2 ∈ rowL h m
  | 0, _, I => I.fin M hh
  | n + 1, _, I => goL_fin M hh n _ (I.next hh (by omega))
theorem stepL_len {h : Int} {m : List Rf} (M : Mem h m) {tg r : Rf} {k : Int} {i : Nat} (hi : plI r.id (rowL h (flt k (prV k r) m)) = (i : Int)) (hil : i < (rowL h (flt k (prV k r) m)).length) : (stepL h m tg k r).length ≤ 1003 := by
  rw [stepL_eq hi, List.length_append]
  have h1 := lfL_len (rowL h (flt k (prV k r) m)) tg i
  have h2 : (rowL h (flt k (prV k r) m)).length ≤ 1002 := by
    rw [rowL_len]
    have := List.length_filter_le (fun q => decide (prV k q = prV k r)) m
    have := M.len
    unfold flt
    omega
  split <;> simp <;> omega
theorem kp_cell {S : List Nat} {w w' : World} {g o : Nat} {v : Value} (k : Kp S w w') (hn : g ∉ S) (h : w.cell? ⟨g, o, none⟩ = some v) : w'.cell? ⟨g, o, none⟩ = some v := (World.cell?_of_block (w := w) (k.block g (lt_of_cell h) hn)).trans h
theorem Kt.kp {S : List Nat} {w w6 w7 : World} (h : Kt w w6) (k : Kp S w6 w7) (hS : ∀ x ∈ S, w.heap.size ≤ x) : Kt w w7 := ⟨Nat.le_trans h.size k.size, k.os.trans h.os, k.tape.trans h.tape, k.output.trans h.output, fun q hq h1 h2 => (k.block q (Nat.lt_of_lt_of_le hq h.size) (fun hm => by have := hS q hm; omega)).trans (h.block q hq h1 h2)⟩
theorem Sr.kp {w w' : World} {base b : Nat} {h : Int} {a : Option Addr} {n c : Nat} {tr tn : Int} {wv : Value} {hops : List Hp} (s : Sr w base b h a n c tr tn wv hops) {x : Nat} {cs : Array Value} (hx : IsB w x cs 30) (k : Kp [x] w w') : Sr w' base b h a n c tr tn wv hops := ⟨s.blk.kp k (fun hm => by simp at hm; subst hm; exact absurd (cells_inj s.blk hx) (by decide)), s.row.kp k (fun q hq hm => by simp at hm; subst hm; obtain ⟨-, cur, hc⟩ := s.row.lt _ hq; exact absurd (cells_inj hc hx) (by decide)), s.own, s.lo⟩
theorem left_enters : ∀ args w, (callFunc 53 args).run Tryd.prog w = .ok (.enter 53 args) w := enters_of Tryd.func53 (by kernel_rfl) rfl

set_option maxHeartbeats 4000000 in
set_option maxRecDepth 100000 in
theorem run_left (base b : Nat) (h : Int) (a : Option Addr) (c : Nat) (m : List Rf) (M : Mem h m) (tr tn : Int) (htr : tr ≠ 1) (hh : keyLt (hdR h) (tgR tr tn)) (wv : Value) (r : Rf) (I : InvL h m (tgR tr tn) r) (w : World) (hbase : base ≤ w.heap.size) (hrow : Rw w 30 5 (.slice a m.length c) m.length (rfs m)) (s : Sr w base b h a m.length c tr tn wv [(h, r)]) :
    Calls Tryd.prog 33 #[.pointer (some ⟨b, 0, none⟩)] w fun e w' => e = .returned (.tuple #[.agg ((goL h m (tgR tr tn) h.toNat r).2).cells, .agg (endY h m ((goL h m (tgR tr tn) h.toNat r).2)).cells]) ∧ (∃ wv', Sr w' base b h a m.length c tr tn wv' ((h, r) :: (goL h m (tgR tr tn) h.toNat r).1)) ∧ Kt w w' ∧ Below base w w' := by
  have mixed : Tryd.prog.follows .mixedOrders = true := by kernel_rfl
  have hen := left_enters
  have b2 := ((Below.refl w.heap.size w).alloc (Nat.le_refl _) (.cells #[.int .i64 0, .int .i64 0, .int .u64 0, .int .i64 0, .int .u64 0] 30)).alloc (by simp) (.cells #[.int .i64 0, .int .i64 0, .int .u64 0, .int .i64 0, .int .u64 0] 30)
  have Ab : Hid (IsB ((w.alloc (.cells #[.int .i64 0, .int .i64 0, .int .u64 0, .int .i64 0, .int .u64 0] 30)).alloc (.cells #[.int .i64 0, .int .i64 0, .int .u64 0, .int .i64 0, .int .u64 0] 30)) w.heap.size #[.int .i64 0, .int .i64 0, .int .u64 0, .int .i64 0, .int .u64 0] 30) := (IsB.new w #[.int .i64 0, .int .i64 0, .int .u64 0, .int .i64 0, .int .u64 0] _).below ((Below.refl _ _).alloc (Nat.le_refl _) _)
  have Bb : Hid (IsB ((w.alloc (.cells #[.int .i64 0, .int .i64 0, .int .u64 0, .int .i64 0, .int .u64 0] 30)).alloc (.cells #[.int .i64 0, .int .i64 0, .int .u64 0, .int .i64 0, .int .u64 0] 30)) (w.heap.size + 1) #[.int .i64 0, .int .i64 0, .int .u64 0, .int .i64 0, .int .u64 0] 30) := by
    have := IsB.new (w.alloc (.cells #[.int .i64 0, .int .i64 0, .int .u64 0, .int .i64 0, .int .u64 0] 30)) #[.int .i64 0, .int .i64 0, .int .u64 0, .int .i64 0, .int .u64 0] 30
    rwa [World.size_alloc] at this
  obtain ⟨wa, wc, rfl, -, -⟩ := s.row.shape
  have SS := hide (s.below b2)
  have HR := hide (hrow.below b2)
  have KT := hide (Kt.of_below b2)
  have B := hide (b2.mono hbase)
  have hbs := hide b2.size
  have sB := (s.below b2).blk
  unfold scs at sB
  have t12 := sB.cell 12
  have t0 := sB.cell 0
  simp at t12 t0
  have htb : (tr == 1) = false := by simpa using htr
  have AT := at_any base b h a m.length c tr tn (.slice wa ([(h, r)] : List Hp).length wc) [] h r (by simp)
  have CK := klt_key r tr tn
  rw [decide_eq_false I.2] at CK
  have KL := fun W => kLess_any r.rk r.kn tr tn W
  rw [CK] at KL
  have SB := hide sB
  obtain ⟨TOT, hTOT⟩ : ∃ z, (h, r) :: (goL h m (tgR tr tn) h.toNat r).1 = z := ⟨_, rfl⟩
  obtain ⟨rN, hrN⟩ : ∃ z, (goL h m (tgR tr tn) h.toNat r).2 = z := ⟨_, rfl⟩
  have HTOT := hide hTOT
  have HRN := hide hrN
  have h00 := M.h0
  have h320 := M.h32
  obtain ⟨hn, rfl⟩ : ∃ hn : Nat, h = (hn : Int) := ⟨h.toNat, by omega⟩
  rw [Int.toNat_natCast] at HTOT HRN
  have INV : Hid (∃ hs lv rq, ([((hn : Int), r)] : List Hp) = hs ++ [(lv, rq)] ∧ InvL (hn : Int) m (tgR tr tn) rq ∧ hs ++ [(lv, rq)] ++ (goL (hn : Int) m (tgR tr tn) hn rq).1 = TOT ∧ (goL (hn : Int) m (tgR tr tn) hn rq).2 = rN) := ⟨[], hn, r, rfl, I, by rw [← HTOT.out]; rfl, HRN.out⟩
  have FIN : Hid (∃ j, ∃ hj : j + 1 < (rowL (hn : Int) m).length, plI rN.id (rowL (hn : Int) m) = (j : Int) ∧ (rowL (hn : Int) m)[j] = rN ∧ okR (hn : Int) rN ∧ rN ∈ rowL (hn : Int) m) := by
    have h9 := goL_fin M hh hn r I
    rw [HRN.out] at h9
    exact h9
  have HAT := hide AT
  have HKL := hide KL
  clear b2 s hrow sB AT KL CK hTOT hrN
  generalize hW1 : ([((hn : Int), r)] : List Hp) = H1 at *
  generalize hwn : H1.length = wn at *
  have hwn1 : wn = 1 := by rw [← hwn, ← hW1]; rfl
  have INV2 := hide INV.out
  clear INV
  obtain ⟨x0, x1, x2, x3, x4⟩ := r
  simp only [Rf.cells, List.nil_append] at HAT HKL
  replace hW1 := hide hW1
  replace hwn := hide hwn
  replace hwn1 := hide hwn1
  generalize htg : tgR tr tn = tg at hh INV2
  replace htg := hide htg
  have HH := hide hh
  have hM := hide M
  clear hh M I
  have f1 := field_key
  go_enter Tryd.func33, Tryd.ntmps33
  go_wp2_with fail
  generalize ((w.alloc (.cells #[.int .i64 0, .int .i64 0, .int .u64 0, .int .i64 0, .int .u64 0] 30)).alloc (.cells #[.int .i64 0, .int .i64 0, .int .u64 0, .int .i64 0, .int .u64 0] 30)) = W2 at *
  generalize hH : w.heap.size = H at Ab Bb ⊢
  replace hH := hide hH
  replace Ab := hide (Ab.out.below ((Below.refl _ _).drew))
  replace Bb := hide (Bb.out.below ((Below.refl _ _).drew))
  replace SS := hide (SS.out.below ((Below.refl _ _).drew))
  replace SB := hide (SB.out.below ((Below.refl _ _).drew))
  replace HR := hide (HR.out.below ((Below.refl _ _).drew))
  replace KT := hide (KT.out.trans (Kt.of_below ((Below.refl _ _).drew)))
  replace B := hide B.out.drew
  refine regionL 9 (fun w' => IsB w' b #[.int .i64 (hn : Int), .int .i64 0, .int .i64 1, .int .u64 0, .int .i64 (hn : Int), .int .u64 0, .int .i64 1, .int .i64 3, .int .u64 0, .int .i64 (hn : Int), .int .u64 0, .slice a m.length c, .int .i64 tr, .int .u64 tn, .slice wa wn wc] 75) mixed SB.out (fun hHeld => ?_)
  generalize W2.drew = WD at *
  refine pickA (v := ?_) 0 (some 22) rfl rfl (by kernel_rfl) (by kernel_rfl) (by kernel_rfl) (by decide) (fun _ _ _ h => h) (by rfl) ?_ (by assumption) ?_
  rotate_left
  · intro w'
    go_simp
    try with_reducible rfl
  try simp only [Act.put, List.setIfInBounds_toArray, List.set_cons_zero, List.set_cons_succ]
  refine pickA (v := ?_) 3 (some 25) rfl rfl (by kernel_rfl) (by kernel_rfl) (by kernel_rfl) (by decide) (fun _ _ _ h => h) (by rfl) ?_ (by assumption) ?_
  rotate_left
  · intro w'
    go_simp
    try with_reducible rfl
  try simp only [Act.put, List.setIfInBounds_toArray, List.set_cons_zero, List.set_cons_succ]
  refine pickA (v := ?_) 4 (some 26) rfl rfl (by kernel_rfl) (by kernel_rfl) (by kernel_rfl) (by decide) (fun _ _ _ h => h) (by rfl) ?_ (by assumption) ?_
  rotate_left
  · intro w'
    go_simp
    try with_reducible rfl
  try simp only [Act.put, List.setIfInBounds_toArray, List.set_cons_zero, List.set_cons_succ]
  refine pickA (v := ?_) 5 (some 27) rfl rfl (by kernel_rfl) (by kernel_rfl) (by kernel_rfl) (by decide) (fun _ _ _ h => h) (by rfl) ?_ (by assumption) ?_
  rotate_left
  · intro w'
    go_simp
    try with_reducible rfl
  try simp only [Act.put, List.setIfInBounds_toArray, List.set_cons_zero, List.set_cons_succ]
  refine pickL (v := .agg #[.int .i64 tr, .int .u64 tn]) 6 (some 28) rfl rfl (by kernel_rfl) (by kernel_rfl) (by kernel_rfl) (by decide) (by kernel_rfl) (by kernel_rfl) (fun _ _ _ h => h) (by rfl) ?_ (by assumption) ?_
  · intro w' hSw
    have q0 := hSw
    have t12 := q0.cell 12
    have t13 := q0.cell 13
    simp at t12 t13
    go_simp
  try simp only [Act.put, List.setIfInBounds_toArray, List.set_cons_zero, List.set_cons_succ]
  refine oneL (i := 1) (by kernel_rfl) rfl (fun K hK => ?_)
  go_simp
  refine (HAT.out WD SS.out).mono ?_
  rintro e w3 ⟨rfl, hb⟩
  replace Ab := hide (Ab.out.below hb)
  replace Bb := hide (Bb.out.below hb)
  replace SS := hide (SS.out.below hb)
  replace SB := hide (SB.out.below hb)
  replace HR := hide (HR.out.below hb)
  replace KT := hide (KT.out.trans (Kt.of_below hb))
  replace B := hide (B.out.trans (hb.mono (by have := B.out.size; omega)))
  clear hb HAT
  refine hK.out _ _ ?_ ?_
  · exact SB.out
  clear hK K
  try simp only [Act.put, List.setIfInBounds_toArray, List.set_cons_zero, List.set_cons_succ]
  clear hHeld
  have hHeld : (fun w' => IsB w' b #[.int .i64 (hn : Int), .int .i64 0, .int .i64 1, .int .u64 0, .int .i64 (hn : Int), .int .u64 0, .int .i64 1, .int .i64 3, .int .u64 0, .int .i64 (hn : Int), .int .u64 0, .slice a m.length c, .int .i64 tr, .int .u64 tn, .slice wa wn wc] 75) w3 := SB.out
  refine pickA (v := .agg #[.int .i64 x1, .int .u64 x2]) 2 (some 24) rfl rfl (by kernel_rfl) (by kernel_rfl) (by kernel_rfl) (by decide) (fun _ _ _ h => h) (by rfl) ?_ (by assumption) ?_
  · intro w'
    go_simp
  try simp only [Act.put, List.setIfInBounds_toArray, List.set_cons_zero, List.set_cons_succ]
  refine oneL (i := 7) (by kernel_rfl) rfl (fun K hK => ?_)
  go_simp
  refine (HKL.out w3).mono ?_
  rintro e w4 ⟨rfl, hgr⟩
  have hb := hgr.below
  replace Ab := hide (Ab.out.below hb)
  replace Bb := hide (Bb.out.below hb)
  replace SS := hide (SS.out.below hb)
  replace SB := hide (SB.out.below hb)
  replace HR := hide (HR.out.below hb)
  replace KT := hide (KT.out.trans (Kt.of_below hb))
  replace B := hide (B.out.trans (hb.mono (by have := B.out.size; omega)))
  clear hb hgr HKL
  refine hK.out _ _ ?_ ?_
  · exact SB.out
  clear hK K
  try simp only [Act.put, List.setIfInBounds_toArray, List.set_cons_zero, List.set_cons_succ]
  clear hHeld
  have hHeld : (fun w' => IsB w' b #[.int .i64 (hn : Int), .int .i64 0, .int .i64 1, .int .u64 0, .int .i64 (hn : Int), .int .u64 0, .int .i64 1, .int .i64 3, .int .u64 0, .int .i64 (hn : Int), .int .u64 0, .slice a m.length c, .int .i64 tr, .int .u64 tn, .slice wa wn wc] 75) w4 := SB.out
  refine pickA (v := ?_) 8 (some 30) rfl rfl (by kernel_rfl) (by kernel_rfl) (by kernel_rfl) (by decide) (fun _ _ _ h => h) (by rfl) ?_ (by assumption) ?_
  rotate_left
  · intro w'
    go_simp
    try with_reducible rfl
  try simp only [Act.put, List.setIfInBounds_toArray, List.set_cons_zero, List.set_cons_succ]
  refine doneL (by kernel_rfl) ?_ _
  clear hHeld
  have t00 := SB.out.cell 0
  simp at t00
  go_wp2
  have hbh : Hid (H + 1 < w4.heap.size) := Bb.out.lt
  go_loopw [5] (fun ix wr => ∃ q : Nat, q ≤ hn + 1 ∧ ix = .int .i64 ((q : Int) - 1) ∧ Hid (∃ hs lv rq wv', Sr wr base b (hn : Int) a m.length c tr tn wv' (hs ++ [(lv, rq)]) ∧ hs.length + 1 + q * 1003 ≤ 33100 + 1003 ∧ ((q = 0 ∧ hs ++ [(lv, rq)] = TOT ∧ rq = rN) ∨ (∃ p, q = p + 1 ∧ InvL (hn : Int) m tg rq ∧ hs ++ [(lv, rq)] ++ (goL (hn : Int) m tg p rq).1 = TOT ∧ (goL (hn : Int) m tg p rq).2 = rN))) ∧ Hid (Rw wr 30 5 (.slice a m.length c) m.length (rfs m)) ∧ Hid (IsB wr H #[.int .i64 0, .int .i64 0, .int .u64 0, .int .i64 0, .int .u64 0] 30) ∧ Hid (IsB wr (H + 1) #[.int .i64 0, .int .i64 0, .int .u64 0, .int .i64 0, .int .u64 0] 30) ∧ Hid (Kt w wr) ∧ Hid (Below base w wr)) (fun ix _ => (intOf ix + 1).toNat)
  case atStart =>
    obtain ⟨hs, lv, rq, e1, i1, e2, e3⟩ := INV2.out
    refine ⟨hn + 1, Nat.le_refl _, by simp, ⟨hs, lv, rq, .slice wa wn wc, by rw [← e1]; exact SS.out, ?_, Or.inr ⟨hn, rfl, i1, e2, e3⟩⟩, HR.out, Ab.out, Bb.out, KT.out, B.out⟩
    have h9 := congrArg List.length e1
    rw [hwn.out, hwn1.out, List.length_append, List.length_singleton] at h9
    omega
  case round =>
    obtain ⟨q, hq, rfl, HS, HRR, HA, HB2, HK, HBB⟩ := hrel
    obtain ⟨hs, lv, rq, wv', sW, hlen, hcase⟩ := HS.out
    clear HS
    rcases hcase with ⟨rfl, hT, rfl⟩ | ⟨p, rfl, iq, hT, hr0⟩
    · obtain ⟨j, hj, hj1, hj2, hjo, -⟩ := FIN.out
      have hfz : flt 0 (prV 0 rq) m = m := flt_zero m (fun q hq => ⟨(hM.out.mem_ok hq).1, (hM.out.mem_ok hq).2.1⟩) rq ⟨hjo.1, hjo.2.1⟩
      have HE := here_any base b (hn : Int) 0 a c m hM.out.len hM.out.ok hM.out.h32 (by omega) (by omega) tr tn wv' hs (by omega) lv rq hjo.1 hjo.2.1 hjo.2.2 wr HRR.out sW
      rw [hfz, hj1] at HE
      have HEY : Hid (endY (hn : Int) m rq = (rowL (hn : Int) m)[j + 1]) := by
        show _ = _
        unfold endY
        rw [hj1, Int.toNat_natCast]
        simp [List.getD, hj]
      have hrl2 : (rowL (hn : Int) m).length ≤ 1002 := by rw [rowL_len]; have := hM.out.len; omega
      have HJ2 := hide hj2
      have HHE := hide HE
      have SW := hide sW
      have HT9 := hide hT
      clear HE sW hT hj1 hj2 hjo hfz hlen
      have hdm : decide (((0 : Nat) : Int) - 1 ≥ 0) = false := by decide
      go_wp2_with fail
      refine HHE.out.mono ?_
      rintro e w6 ⟨v6, rfl, hrw6, hnw6, hb⟩
      obtain ⟨yy, hyy⟩ : ∃ z, (rowL (hn : Int) m)[j + 1] = z := ⟨_, rfl⟩
      obtain ⟨rn, hrn⟩ : ∃ z, (rowL (hn : Int) m).length = z := ⟨_, rfl⟩
      obtain ⟨d0, d1, d2, d3, d4⟩ := rfs_get (rowL (hn : Int) m) j (by omega)
      obtain ⟨e0, e1, e2, e3, e4⟩ := rfs_get (rowL (hn : Int) m) (j + 1) hj
      rw [HJ2.out] at d0 d1 d2 d3 d4
      rw [hyy] at e0 e1 e2 e3 e4
      rw [hyy] at HEY
      rw [hrn] at hrw6 hj hrl2
      obtain ⟨g, vc, rfl, -, -, -⟩ := hrw6.form (by omega)
      have hgne : Hid (g ≠ H ∧ g ≠ H + 1) := by
        have h8 := hnw6 g rfl
        have h7 := HA.out.lt
        have h6 := HB2.out.lt
        exact ⟨by omega, by omega⟩
      replace SW := hide (SW.out.below hb)
      replace HA := hide (HA.out.below hb)
      replace HB2 := hide (HB2.out.below hb)
      have K6 := hide (HK.out.trans (Kt.of_below hb))
      have B6 : Hid (Below base w w6) := HBB.out.trans (hb.mono (by have := HBB.out.size; omega))
      have C0 := (hrw6.cellAt (j * 5) (by omega)).trans d0
      have C1 := (hrw6.cellAt (j * 5 + 1) (by omega)).trans d1
      have C2 := (hrw6.cellAt (j * 5 + 2) (by omega)).trans d2
      have C3 := (hrw6.cellAt (j * 5 + 3) (by omega)).trans d3
      have C4 := (hrw6.cellAt (j * 5 + 4) (by omega)).trans d4
      have D0 := (hrw6.cellAt ((j + 1) * 5) (by omega)).trans e0
      have D1 := (hrw6.cellAt ((j + 1) * 5 + 1) (by omega)).trans e1
      have D2 := (hrw6.cellAt ((j + 1) * 5 + 2) (by omega)).trans e2
      have D3 := (hrw6.cellAt ((j + 1) * 5 + 3) (by omega)).trans e3
      have D4 := (hrw6.cellAt ((j + 1) * 5 + 4) (by omega)).trans e4
      clear d0 d1 d2 d3 d4 e0 e1 e2 e3 e4 hrw6 hb HHE hnw6
      have HX : Hid (rq.cells = #[.int .i64 rq.id, .int .i64 rq.rk, .int .u64 rq.kn, .int .i64 rq.ln, .int .u64 rq.bt]) := rfl
      have HY : Hid (yy.cells = #[.int .i64 yy.id, .int .i64 yy.rk, .int .u64 yy.kn, .int .i64 yy.ln, .int .u64 yy.bt]) := rfl
      replace hyy := hide hyy
      replace hrn := hide hrn
      have hjn : j < rn := by omega
      generalize rq.id = p0 at *
      generalize rq.rk = p1 at *
      generalize rq.kn = p2 at *
      generalize rq.ln = p3 at *
      generalize rq.bt = p4 at *
      generalize yy.id = y0 at *
      generalize yy.rk = y1 at *
      generalize yy.kn = y2 at *
      generalize yy.ln = y3 at *
      generalize yy.bt = y4 at *
      clear HJ2
      have hwj := wrap_small ((j : Int) + 1) (by omega) (by omega)
      go_wp2_with fail
      replace HA := hide (HA.out.below ((Below.refl _ _).drew))
      replace HB2 := hide (HB2.out.below ((Below.refl _ _).drew))
      replace SW := hide (SW.out.below ((Below.refl _ _).drew))
      replace K6 := hide (K6.out.trans (Kt.of_below ((Below.refl _ _).drew)))
      replace B6 := hide B6.out.drew
      replace C0 : w6.drew.cell? ⟨g, j * 5, none⟩ = some (.int .i64 p0) := C0
      replace C1 : w6.drew.cell? ⟨g, j * 5 + 1, none⟩ = some (.int .i64 p1) := C1
      replace C2 : w6.drew.cell? ⟨g, j * 5 + 2, none⟩ = some (.int .u64 p2) := C2
      replace C3 : w6.drew.cell? ⟨g, j * 5 + 3, none⟩ = some (.int .i64 p3) := C3
      replace C4 : w6.drew.cell? ⟨g, j * 5 + 4, none⟩ = some (.int .u64 p4) := C4
      replace D0 : w6.drew.cell? ⟨g, (j + 1) * 5, none⟩ = some (.int .i64 y0) := D0
      replace D1 : w6.drew.cell? ⟨g, (j + 1) * 5 + 1, none⟩ = some (.int .i64 y1) := D1
      replace D2 : w6.drew.cell? ⟨g, (j + 1) * 5 + 2, none⟩ = some (.int .u64 y2) := D2
      replace D3 : w6.drew.cell? ⟨g, (j + 1) * 5 + 3, none⟩ = some (.int .i64 y3) := D3
      replace D4 : w6.drew.cell? ⟨g, (j + 1) * 5 + 4, none⟩ = some (.int .u64 y4) := D4
      refine regionL 10 (fun w' => w'.cell? ⟨g, j * 5, none⟩ = some (.int .i64 p0) ∧ w'.cell? ⟨g, j * 5 + 1, none⟩ = some (.int .i64 p1) ∧ w'.cell? ⟨g, j * 5 + 2, none⟩ = some (.int .u64 p2) ∧ w'.cell? ⟨g, j * 5 + 3, none⟩ = some (.int .i64 p3) ∧ w'.cell? ⟨g, j * 5 + 4, none⟩ = some (.int .u64 p4) ∧ w'.cell? ⟨g, (j + 1) * 5, none⟩ = some (.int .i64 y0) ∧ w'.cell? ⟨g, (j + 1) * 5 + 1, none⟩ = some (.int .i64 y1) ∧ w'.cell? ⟨g, (j + 1) * 5 + 2, none⟩ = some (.int .u64 y2) ∧ w'.cell? ⟨g, (j + 1) * 5 + 3, none⟩ = some (.int .i64 y3) ∧ w'.cell? ⟨g, (j + 1) * 5 + 4, none⟩ = some (.int .u64 y4)) mixed ⟨C0, C1, C2, C3, C4, D0, D1, D2, D3, D4⟩ (fun hHeld => ?_)
      generalize w6.drew = WE at *
      refine pickA (v := ?_) 0 (some 50) rfl rfl (by kernel_rfl) (by kernel_rfl) (by kernel_rfl) (by decide) (fun _ _ _ h => h) (by rfl) ?_ (by assumption) ?_
      rotate_left
      · intro w'
        go_simp
        try with_reducible rfl
      try simp only [Act.put, List.setIfInBounds_toArray, List.set_cons_zero, List.set_cons_succ]
      refine pickA (v := ?_) 1 (some 51) rfl rfl (by kernel_rfl) (by kernel_rfl) (by kernel_rfl) (by decide) (fun _ _ _ h => h) (by rfl) ?_ (by assumption) ?_
      rotate_left
      · intro w'
        go_simp
        try with_reducible rfl
      try simp only [Act.put, List.setIfInBounds_toArray, List.set_cons_zero, List.set_cons_succ]
      refine pickA (v := .pointer (some ⟨g, j * 5, none⟩)) 2 (some 52) rfl rfl (by kernel_rfl) (by kernel_rfl) (by kernel_rfl) (by decide) (fun _ _ _ h => h) (by rfl) ?_ (by assumption) ?_
      · intro w'
        go_simp
      try simp only [Act.put, List.setIfInBounds_toArray, List.set_cons_zero, List.set_cons_succ]
      refine pickL (v := .agg #[.int .i64 p0, .int .i64 p1, .int .u64 p2, .int .i64 p3, .int .u64 p4]) 3 (some 53) rfl rfl (by kernel_rfl) (by kernel_rfl) (by kernel_rfl) (by decide) (by kernel_rfl) (by kernel_rfl) (fun _ _ _ h => h) (by rfl) ?_ (by assumption) ?_
      · intro w' hSw
        obtain ⟨z0, z1, z2, z3, z4, z5, z6, z7, z8, z9⟩ := hSw
        go_simp
      try simp only [Act.put, List.setIfInBounds_toArray, List.set_cons_zero, List.set_cons_succ]
      refine pickA (v := ?_) 4 (some 54) rfl rfl (by kernel_rfl) (by kernel_rfl) (by kernel_rfl) (by decide) (fun _ _ _ h => h) (by rfl) ?_ (by assumption) ?_
      rotate_left
      · intro w'
        go_simp
        try with_reducible rfl
      try simp only [Act.put, List.setIfInBounds_toArray, List.set_cons_zero, List.set_cons_succ]
      refine pickA (v := ?_) 5 (some 55) rfl rfl (by kernel_rfl) (by kernel_rfl) (by kernel_rfl) (by decide) (fun _ _ _ h => h) (by rfl) ?_ (by assumption) ?_
      rotate_left
      · intro w'
        go_simp
        try with_reducible rfl
      try simp only [Act.put, List.setIfInBounds_toArray, List.set_cons_zero, List.set_cons_succ]
      refine pickA (v := ?_) 6 (some 56) rfl rfl (by kernel_rfl) (by kernel_rfl) (by kernel_rfl) (by decide) (fun _ _ _ h => h) (by rfl) ?_ (by assumption) ?_
      rotate_left
      · intro w'
        go_simp
        try with_reducible rfl
      try simp only [Act.put, List.setIfInBounds_toArray, List.set_cons_zero, List.set_cons_succ]
      refine pickA (v := .pointer (some ⟨g, (j + 1) * 5, none⟩)) 7 (some 57) rfl rfl (by kernel_rfl) (by kernel_rfl) (by kernel_rfl) (by decide) (fun _ _ _ h => h) (by rfl) ?_ (by assumption) ?_
      · intro w'
        go_simp
        exact fun hx => absurd (hx (by omega)) (by omega)
      try simp only [Act.put, List.setIfInBounds_toArray, List.set_cons_zero, List.set_cons_succ]
      refine pickL (v := .agg #[.int .i64 y0, .int .i64 y1, .int .u64 y2, .int .i64 y3, .int .u64 y4]) 8 (some 58) rfl rfl (by kernel_rfl) (by kernel_rfl) (by kernel_rfl) (by decide) (by kernel_rfl) (by kernel_rfl) (fun _ _ _ h => h) (by rfl) ?_ (by assumption) ?_
      · intro w' hSw
        obtain ⟨z0, z1, z2, z3, z4, z5, z6, z7, z8, z9⟩ := hSw
        go_simp
      try simp only [Act.put, List.setIfInBounds_toArray, List.set_cons_zero, List.set_cons_succ]
      refine oneL (i := 9) (by kernel_rfl) rfl (fun K hK => ?_)
      obtain ⟨w7, hst, I7, k7⟩ := store_ref HA.out (cs := #[.int .i64 p0, .int .i64 p1, .int .u64 p2, .int .i64 p3, .int .u64 p4]) rfl rfl (by kernel_rfl)
      have D0r := kp_cell k7 (by simp; exact hgne.out.1) D0
      have D1r := kp_cell k7 (by simp; exact hgne.out.1) D1
      have D2r := kp_cell k7 (by simp; exact hgne.out.1) D2
      have D3r := kp_cell k7 (by simp; exact hgne.out.1) D3
      have D4r := kp_cell k7 (by simp; exact hgne.out.1) D4
      have C0r := kp_cell k7 (by simp; exact hgne.out.1) C0
      have C1r := kp_cell k7 (by simp; exact hgne.out.1) C1
      have C2r := kp_cell k7 (by simp; exact hgne.out.1) C2
      have C3r := kp_cell k7 (by simp; exact hgne.out.1) C3
      have C4r := kp_cell k7 (by simp; exact hgne.out.1) C4
      have J7 := hide (HB2.out.kp k7 (by simp))
      have I7h := hide I7
      have K7 := hide (K6.out.kp k7 (fun x hx => by simp at hx; have := hH.out; omega))
      have B7 : Hid (Below base w w7) := B6.out.trans (k7.to_below (by have := B6.out.size; omega) (by simp; have := hH.out; omega))
      replace SW := hide (SW.out.kp HA.out k7)
      have HST := hide hst
      clear hst I7 k7
      refine step_store_w rfl 30 (.tmp 2) (.tmp 53) rfl rfl rfl HST.out ?_
      refine hK.out _ _ ?_ ?_
      · exact ⟨C0r, C1r, C2r, C3r, C4r, D0r, D1r, D2r, D3r, D4r⟩
      clear hK K
      try simp only [Act.put, List.setIfInBounds_toArray]
      clear hHeld
      have hHeld : (fun w' => w'.cell? ⟨g, j * 5, none⟩ = some (.int .i64 p0) ∧ w'.cell? ⟨g, j * 5 + 1, none⟩ = some (.int .i64 p1) ∧ w'.cell? ⟨g, j * 5 + 2, none⟩ = some (.int .u64 p2) ∧ w'.cell? ⟨g, j * 5 + 3, none⟩ = some (.int .i64 p3) ∧ w'.cell? ⟨g, j * 5 + 4, none⟩ = some (.int .u64 p4) ∧ w'.cell? ⟨g, (j + 1) * 5, none⟩ = some (.int .i64 y0) ∧ w'.cell? ⟨g, (j + 1) * 5 + 1, none⟩ = some (.int .i64 y1) ∧ w'.cell? ⟨g, (j + 1) * 5 + 2, none⟩ = some (.int .u64 y2) ∧ w'.cell? ⟨g, (j + 1) * 5 + 3, none⟩ = some (.int .i64 y3) ∧ w'.cell? ⟨g, (j + 1) * 5 + 4, none⟩ = some (.int .u64 y4)) w7 := ⟨C0r, C1r, C2r, C3r, C4r, D0r, D1r, D2r, D3r, D4r⟩
      refine lateL (i := 10) (by kernel_rfl) rfl (by decide) (by kernel_rfl) (fun K hK => ?_)
      obtain ⟨w9, hst, J9_, k9⟩ := store_ref J7.out (cs := #[.int .i64 y0, .int .i64 y1, .int .u64 y2, .int .i64 y3, .int .u64 y4]) rfl rfl (by kernel_rfl)
      have I9 := hide (I7h.out.kp k9 (by simp))
      have J9 := hide J9_
      have K9 := hide (K7.out.kp k9 (fun x hx => by simp at hx; have := hH.out; omega))
      have B9 : Hid (Below base w w9) := B7.out.trans (k9.to_below (by have := B7.out.size; omega) (by simp; have := hH.out; omega))
      replace SW := hide (SW.out.kp J7.out k9)
      have HST2 := hide hst
      clear hst J9_ k9
      refine step_store_w rfl 30 (.tmp 3) (.tmp 58) rfl rfl rfl HST2.out ?_
      refine hK.out _ _ ?_
      clear hK K
      try simp only [Act.put]
      refine doneL (by kernel_rfl) ?_ _
      clear hHeld
      go_wp2
      refine ret_rr (p := 2) (q := 3) (a := H) (b := H + 1) Tryd.results33 rfl rfl rfl rfl I9.out J9.out ?_
      have h9 := HRN.out
      have h10 := HTOT.out
      rw [htg.out] at h9 h10
      have h8 : ((hn : Int)).toNat = hn := Int.toNat_natCast hn
      refine ⟨?_, ⟨wv', ?_⟩, K9.out, B9.out⟩
      · rw [h8, h9, HEY.out, HX.out, HY.out]
      · rw [h8, h10, ← HT9.out]
        exact SW.out
    · have e1 : (((p + 1 : Nat) : Int) - 1) = (p : Int) := by omega
      rw [e1]
      obtain ⟨i, hi, g1, g2, g3, g4⟩ := iq.at hM.out HH.out ((p : Nat) : Int)
      have hro := hM.out.row_ok (iq.row ((p : Nat) : Int))
      have hsl := stepL_len hM.out (tg := tg) g1 hi
      have LA := left_any base b (hn : Int) (p : Int) a c m hM.out.len hM.out.ok hM.out.h32 (by omega) (by omega) tr tn wv' hs (by omega) lv rq hro.1 hro.2.1 hro.2.2 _ rfl i g1 hi (by rw [htg.out]; exact g4) wr (by have := HBB.out.size; omega) HRR.out sW
      obtain ⟨hs', lv', hh'⟩ := last_hop hs lv (p : Int) rq (stepL (hn : Int) m tg (p : Int) rq)
      have hmap : hs ++ [(lv, rq)] ++ (lfL (rowL (hn : Int) (flt (p : Int) (prV (p : Int) rq) m)) tg i).map (fun x => ((p : Int), x)) ++ (if (p : Int) = 0 then [((p : Int), (rowL (hn : Int) (flt (p : Int) (prV (p : Int) rq) m)).getD (i - (lfL (rowL (hn : Int) (flt (p : Int) (prV (p : Int) rq) m)) tg i).length - 1) zr)] else []) = hs' ++ [(lv', (stepL (hn : Int) m tg (p : Int) rq).getLastD rq)] := by
        rw [← hh', stepL_eq g1, List.map_append]
        split <;> simp
      rw [htg.out, hmap] at LA
      have HLA := hide LA
      have HLL : Hid (hs'.length + 1 = hs.length + 1 + (stepL (hn : Int) m tg (p : Int) rq).length) := by
        have h9 := congrArg List.length hh'
        simp at h9
        show _ = _
        omega
      have HSL := hide hsl
      have HHH := hide hh'
      have HIQ := hide iq
      have HTT := hide hT
      have HR0 := hide hr0
      have hlen2 := hide hlen
      clear LA hmap hh' hsl hro g1 g2 g3 g4 hi sW iq hT hr0 hlen e1
      go_wp2_with fail
      refine HLA.out.mono ?_
      rintro e w6 ⟨rfl, ⟨wv6, s6⟩, k6, b6⟩
      have S6 := hide s6
      have R6 := hide (Kt.rw HRR.out k6)
      have A6 := hide (Kt.isr HA.out (by decide) (by decide) k6)
      have C6 := hide (Kt.isr HB2.out (by decide) (by decide) k6)
      have K6 := hide (HK.out.trans k6)
      have B6 := hide (HBB.out.trans b6)
      clear s6 k6 b6 HLA
      go_wp2
      refine ⟨⟨p, by omega, by simp, ⟨hs', lv', _, wv6, S6.out, ?_, ?_⟩, R6.out, A6.out, C6.out, K6.out, B6.out⟩, by simp [intOf]⟩
      · have h1 := HLL.out
        have h2 := HSL.out
        have h3 := hlen2.out
        omega
      · cases p with
        | zero => exact Or.inl ⟨rfl, by rw [← HHH.out, ← HTT.out]; rfl, HR0.out⟩
        | succ p' =>
          refine Or.inr ⟨p', rfl, HIQ.out.next HH.out (by omega), ?_, HR0.out⟩
          rw [← HHH.out, ← HTT.out, List.append_assoc]
          rfl

end Go.Proofs.YtfcmmchppcffmaaDoor
