/- Package graph: Way, of a search that goes left. -/
import Derived.Test.YtfcmmchppcffmaaDoorGQ
namespace Go.Proofs.YtfcmmchppcffmaaDoor
open Go.RowKit Go.Maps Go.ChangeMaps

theorem results_tcct {fn : Func} {s p q u : Tmp} {ty ty2 : TypeId} (h : fn.results = #[.tmp s, .cell p ty, .cell q ty2, .tmp u]) (tmps : Array Value) (P : Program) (w : World) :
    (results fn tmps).run P w =
      ((asAddr (tmps.getD p undef)).run P w).andThen fun a w₁ => ((loadVar ty a).run P w₁).andThen fun v w₂ => ((asAddr (tmps.getD q undef)).run P w₂).andThen fun b w₃ => ((loadVar ty2 b).run P w₃).andThen fun y w₄ => .ok (.tuple #[tmps.getD s undef, v, y, tmps.getD u undef]) w₄ := by
  simp only [results, h]
  simp [Sem.run_bind, Result.andThen]
theorem ret_way {fn : Func} {s p q u : Tmp} (hf : fn.results = #[.tmp s, .cell p 30, .cell q 30, .tmp u]) {Q : Ending → World → Prop} {tmps : Array Value} {w : World} {a b : Nat} {cs ds : Array Value} {v y : Value} (hs : cs.size = 5) (hs2 : ds.size = 5)
    (hsv : tmps.getD s undef = y) (hp : tmps.getD p undef = .pointer (some ⟨a, 0, none⟩)) (hq : tmps.getD q undef = .pointer (some ⟨b, 0, none⟩)) (hu : tmps.getD u undef = v) (I : IsB w a cs 30) (J : IsB w b ds 30) (hQ : Q (.returned (.tuple #[y, .agg cs, .agg ds, v])) w) :
    bodyPost Tryd.prog fn Q .ret ⟨tmps, []⟩ w := by
  refine bodyPost_ret ?_ rfl hQ
  rw [results_tcct hf, hsv, hp, hq, hu]
  have h := run_loadVar_row (P := Tryd.prog) w a 30 30 cs (0, 0) _ I Tryd.underlying30 rfl (by rw [hs]; exact ref_info)
  have h2 := run_loadVar_row (P := Tryd.prog) w b 30 30 ds (0, 0) _ J Tryd.underlying30 rfl (by rw [hs2]; exact ref_info)
  simp [asAddr, h, h2, Result.andThen]

set_option maxHeartbeats 4000000 in
set_option maxRecDepth 100000 in
theorem way_left (h d : Int) (tr tn : Int) (v : Value) (l : List Rf) (hl : l.length ≤ 1000) (hbt : ∀ r ∈ l, 0 ≤ r.bt) (hg : okG h l) (m : List Rf) (hp : m.Perm l) (hso : m.Pairwise keyLt) (i : Nat) (hil : i < (rowL h m).length) (hpi : plI d (rowL h m) = (i : Int)) (hck : ckE tr tn = 0) (htr : tr ≠ 1) (hh : keyLt (hdR h) (tgR tr tn)) (I : InvL h m (tgR tr tn) (rowL h m)[i]) (w : World) (hR : Ranks w) (hs : RSl w v l) :
    Calls Tryd.prog 14 #[.int .i64 h, .int .i64 d, .agg #[.int .i64 tr, .int .u64 tn], v] w fun e w' => ∃ wv', e = .returned (.tuple #[wv', .agg ((goL h m (tgR tr tn) h.toNat (rowL h m)[i]).2).cells, .agg (endY h m ((goL h m (tgR tr tn) h.toNat (rowL h m)[i]).2)).cells, .int .i64 0]) ∧ Rw w' 98 6 wv' ((h, (rowL h m)[i]) :: (goL h m (tgR tr tn) h.toNat (rowL h m)[i]).1).length (hps ((h, (rowL h m)[i]) :: (goL h m (tgR tr tn) h.toNat (rowL h m)[i]).1)) ∧ Below w.heap.size w w' := by
  have mixed : Tryd.prog.follows .mixedOrders = true := by kernel_rfl
  have M := Mem.of hg hbt hl hp
  have hM := hide M
  have HI := hide I
  have HH := hide hh
  have HG := hide hg
  have HPI := hide hpi
  have b3 := ((((Below.refl w.heap.size w).alloc (Nat.le_refl _) (.cells #[.int .i64 tr, .int .u64 tn] 26)).alloc (by simp) (.cells #[.int .i64 0, .int .i64 0, .int .u64 0, .int .i64 0, .int .u64 0] 30)).alloc (by simp; omega) (.cells #[.int .i64 0, .int .i64 0, .int .u64 0, .int .i64 0, .int .u64 0] 30))
  have Vb : Hid (IsB (((w.alloc (.cells #[.int .i64 tr, .int .u64 tn] 26)).alloc (.cells #[.int .i64 0, .int .i64 0, .int .u64 0, .int .i64 0, .int .u64 0] 30)).alloc (.cells #[.int .i64 0, .int .i64 0, .int .u64 0, .int .i64 0, .int .u64 0] 30)) w.heap.size #[.int .i64 tr, .int .u64 tn] 26) := ((IsB.new w #[.int .i64 tr, .int .u64 tn] _).below ((Below.refl _ _).alloc (Nat.le_refl _) _)).below ((Below.refl _ _).alloc (Nat.le_refl _) _)
  have Ab : Hid (IsB (((w.alloc (.cells #[.int .i64 tr, .int .u64 tn] 26)).alloc (.cells #[.int .i64 0, .int .i64 0, .int .u64 0, .int .i64 0, .int .u64 0] 30)).alloc (.cells #[.int .i64 0, .int .i64 0, .int .u64 0, .int .i64 0, .int .u64 0] 30)) (w.heap.size + 1) #[.int .i64 0, .int .i64 0, .int .u64 0, .int .i64 0, .int .u64 0] 30) := by
    have := IsB.new (w.alloc (.cells #[.int .i64 tr, .int .u64 tn] 26)) #[.int .i64 0, .int .i64 0, .int .u64 0, .int .i64 0, .int .u64 0] 30
    rw [World.size_alloc] at this
    exact this.below ((Below.refl _ _).alloc (Nat.le_refl _) _)
  have Bb : Hid (IsB (((w.alloc (.cells #[.int .i64 tr, .int .u64 tn] 26)).alloc (.cells #[.int .i64 0, .int .i64 0, .int .u64 0, .int .i64 0, .int .u64 0] 30)).alloc (.cells #[.int .i64 0, .int .i64 0, .int .u64 0, .int .i64 0, .int .u64 0] 30)) (w.heap.size + 1 + 1) #[.int .i64 0, .int .i64 0, .int .u64 0, .int .i64 0, .int .u64 0] 30) := by
    have := IsB.new ((w.alloc (.cells #[.int .i64 tr, .int .u64 tn] 26)).alloc (.cells #[.int .i64 0, .int .i64 0, .int .u64 0, .int .i64 0, .int .u64 0] 30)) #[.int .i64 0, .int .i64 0, .int .u64 0, .int .i64 0, .int .u64 0] 30
    rwa [World.size_alloc, World.size_alloc] at this
  have BU := hide (build_any h v l hl hbt _ (hs.below b3))
  have RK := hide (hR.below b3)
  have B := hide b3
  clear b3 hs M I hh hpi hR
  go_enter Tryd.func14, Tryd.ntmps14
  go_wp2_with fail
  generalize (((w.alloc (.cells #[.int .i64 tr, .int .u64 tn] 26)).alloc (.cells #[.int .i64 0, .int .i64 0, .int .u64 0, .int .i64 0, .int .u64 0] 30)).alloc (.cells #[.int .i64 0, .int .i64 0, .int .u64 0, .int .i64 0, .int .u64 0] 30)) = W1 at *
  generalize hH : w.heap.size = H at Vb Ab Bb ⊢
  replace hH := hide hH
  refine BU.out.mono ?_
  rintro e w2 ⟨(⟨-, a, c, m', rfl, hp', hso', hrw, hnew⟩ | ⟨h9, -⟩), hb⟩
  rotate_left
  · exact absurd HG.out h9
  obtain rfl : m' = m := sorted_one hp' hp hso' hso
  have R2 := hide hrw
  replace Vb := hide (Vb.out.below hb)
  replace Ab := hide (Ab.out.below hb)
  replace Bb := hide (Bb.out.below hb)
  replace RK := hide (RK.out.below hb)
  replace B := hide (B.out.trans (hb.mono B.out.size))
  clear hb hrw hnew hp' hso'
  have ED := fun W hsW => ended_any h a m'.length c a c m' hM.out.len W hsW
  unfold gcs at ED
  unfold gcs
  have GBn := hide (IsB.new w2 #[.int .i64 h, .int .i64 0, .int .i64 1, .int .u64 0, .int .i64 h, .int .u64 0, .int .i64 1, .int .i64 3, .int .u64 0, .int .i64 h, .int .u64 0, .slice a m'.length c] 55)
  have b4 := (Below.refl w2.heap.size w2).alloc (Nat.le_refl _) (.cells #[.int .i64 h, .int .i64 0, .int .i64 1, .int .u64 0, .int .i64 h, .int .u64 0, .int .i64 1, .int .i64 3, .int .u64 0, .int .i64 h, .int .u64 0, .slice a m'.length c] 55)
  replace Vb := hide (Vb.out.below b4)
  replace Ab := hide (Ab.out.below b4)
  replace Bb := hide (Bb.out.below b4)
  replace R2 := hide (R2.out.below b4)
  replace RK := hide (RK.out.below b4)
  replace B := hide (B.out.trans (b4.mono B.out.size))
  clear b4 BU
  have HED := hide ED
  clear ED
  obtain ⟨r, hr⟩ : ∃ z, (rowL h m')[i] = z := ⟨_, rfl⟩
  obtain ⟨rw, hrw⟩ : ∃ z, (rowL h m').length = z := ⟨_, rfl⟩
  have HRI := rfs_get (rowL h m') i hil
  rw [hr] at HRI HI
  rw [hrw] at hil
  replace HRI := hide HRI
  have hrw2 : rw ≤ 1002 := by rw [← hrw, rowL_len]; have := hM.out.len; omega
  go_wp2_with fail
  generalize (w2.alloc (.cells #[.int .i64 h, .int .i64 0, .int .i64 1, .int .u64 0, .int .i64 h, .int .u64 0, .int .i64 1, .int .i64 3, .int .u64 0, .int .i64 h, .int .u64 0, .slice a m'.length c] 55)) = W3 at *
  generalize w2.heap.size = GBk at GBn ⊢
  refine (HED.out W3 (Rw.rsl R2.out)).mono ?_
  rintro e w4 ⟨v4, rfl, hrw4, hnw4, hb⟩
  replace Vb := hide (Vb.out.below hb)
  replace Ab := hide (Ab.out.below hb)
  replace Bb := hide (Bb.out.below hb)
  replace R2 := hide (R2.out.below hb)
  replace RK := hide (RK.out.below hb)
  replace GBn := hide (GBn.out.below hb)
  replace B := hide (B.out.trans (hb.mono B.out.size))
  have R4 := hide hrw4
  clear hb hrw4 hnw4 HED
  have PL := fun W hsW => place_any v4 (rowL h m') (by omega) d W hsW
  rw [HPI.out] at PL
  go_wp2_with fail
  refine (PL w4 R4.out.rsl).mono ?_
  rintro e w5 ⟨rfl, hb⟩
  replace Vb := hide (Vb.out.below hb)
  replace Ab := hide (Ab.out.below hb)
  replace Bb := hide (Bb.out.below hb)
  replace R2 := hide (R2.out.below hb)
  replace RK := hide (RK.out.below hb)
  replace GBn := hide (GBn.out.below hb)
  replace R4 := hide (R4.out.below hb)
  replace B := hide (B.out.trans (hb.mono B.out.size))
  clear hb PL
  have k0 := Vb.out.cell 0
  have k1 := Vb.out.cell 1
  simp at k0 k1
  have hdi : decide ((i : Int) < 0) = false := by simp
  have KC := kCheck_any tr tn w5 RK.out
  rw [hck] at KC
  replace KC := hide KC
  go_wp2_with fail
  refine KC.out.mono ?_
  rintro e w6 ⟨rfl, hgr⟩
  have hb := hgr.below
  replace Vb := hide (Vb.out.below hb)
  replace Ab := hide (Ab.out.below hb)
  replace Bb := hide (Bb.out.below hb)
  replace R2 := hide (R2.out.below hb)
  replace RK := hide (RK.out.below hb)
  replace GBn := hide (GBn.out.below hb)
  replace R4 := hide (R4.out.below hb)
  replace B := hide (B.out.trans (hb.mono B.out.size))
  clear hb hgr KC k0 k1
  have k0 := Vb.out.cell 0
  have k1 := Vb.out.cell 1
  simp at k0 k1
  have g0 := GBn.out.cell 0
  have g1 := GBn.out.cell 1
  have g2 := GBn.out.cell 2
  have g3 := GBn.out.cell 3
  have g4 := GBn.out.cell 4
  have g5 := GBn.out.cell 5
  have g6 := GBn.out.cell 6
  have g7 := GBn.out.cell 7
  have g8 := GBn.out.cell 8
  have g9 := GBn.out.cell 9
  have g10 := GBn.out.cell 10
  have g11 := GBn.out.cell 11
  simp at g0 g1 g2 g3 g4 g5 g6 g7 g8 g9 g10 g11
  rw [hrw] at R4
  obtain ⟨gv, vc, rfl, -, -, -⟩ := R4.out.form (by omega)
  obtain ⟨z0, z1, z2, z3, z4⟩ := HRI.out
  have q0 := (R4.out.cellAt (i * 5) (by omega)).trans z0
  have q1 := (R4.out.cellAt (i * 5 + 1) (by omega)).trans z1
  have q2 := (R4.out.cellAt (i * 5 + 2) (by omega)).trans z2
  have q3 := (R4.out.cellAt (i * 5 + 3) (by omega)).trans z3
  have q4 := (R4.out.cellAt (i * 5 + 4) (by omega)).trans z4
  clear z0 z1 z2 z3 z4
  have hw6 := hide B.out.size
  have b7 := (Below.refl w6.heap.size w6).alloc (Nat.le_refl _) (.cells #[.int .i64 h, .int .i64 0, .int .i64 1, .int .u64 0, .int .i64 h, .int .u64 0, .int .i64 1, .int .i64 3, .int .u64 0, .int .i64 h, .int .u64 0, .slice a m'.length c, .int .i64 tr, .int .u64 tn, .slice none 0 0] 75)
  have Sb := hide (IsB.new w6 #[.int .i64 h, .int .i64 0, .int .i64 1, .int .u64 0, .int .i64 h, .int .u64 0, .int .i64 1, .int .i64 3, .int .u64 0, .int .i64 h, .int .u64 0, .slice a m'.length c, .int .i64 tr, .int .u64 tn, .slice none 0 0] 75)
  have y0 := (b7.cell (lt_of_cell q0)).trans q0
  have y1 := (b7.cell (lt_of_cell q1)).trans q1
  have y2 := (b7.cell (lt_of_cell q2)).trans q2
  have y3 := (b7.cell (lt_of_cell q3)).trans q3
  have y4 := (b7.cell (lt_of_cell q4)).trans q4
  replace Vb := hide (Vb.out.below b7)
  replace Ab := hide (Ab.out.below b7)
  replace Bb := hide (Bb.out.below b7)
  replace R2 := hide (R2.out.below b7)
  replace RK := hide (RK.out.below b7)
  replace B := hide (B.out.trans (b7.mono B.out.size))
  clear b7 q0 q1 q2 q3 q4
  have S0 : Hid (Sr (w6.alloc (.cells #[.int .i64 h, .int .i64 0, .int .i64 1, .int .u64 0, .int .i64 h, .int .u64 0, .int .i64 1, .int .i64 3, .int .u64 0, .int .i64 h, .int .u64 0, .slice a m'.length c, .int .i64 tr, .int .u64 tn, .slice none 0 0] 75)) w.heap.size w6.heap.size h a m'.length c tr tn (.slice none 0 0) []) := ⟨Sb.out, ⟨rfl, Or.inl ⟨rfl, rfl⟩⟩, fun k hk => (by cases hk), hw6.out⟩
  have SD := hide (stand_any w.heap.size w6.heap.size h a m'.length c tr tn (.slice none 0 0) [] (by simp) h r _ B.out.size S0.out)
  have hRC : Hid (r.cells = #[.int .i64 r.id, .int .i64 r.rk, .int .u64 r.kn, .int .i64 r.ln, .int .u64 r.bt]) := rfl
  rw [hRC.out] at SD
  obtain ⟨r0, hr0⟩ : ∃ z, z = r := ⟨_, rfl⟩
  generalize r.id = x0 at SD hRC y0 y1 y2 y3 y4
  generalize r.rk = x1 at SD hRC y0 y1 y2 y3 y4
  generalize r.kn = x2 at SD hRC y0 y1 y2 y3 y4
  generalize r.ln = x3 at SD hRC y0 y1 y2 y3 y4
  generalize r.bt = x4 at SD hRC y0 y1 y2 y3 y4
  have hir : i < rw := hil
  go_wp2_with fail
  generalize w6.alloc (.cells #[.int .i64 h, .int .i64 0, .int .i64 1, .int .u64 0, .int .i64 h, .int .u64 0, .int .i64 1, .int .i64 3, .int .u64 0, .int .i64 h, .int .u64 0, .slice a m'.length c, .int .i64 tr, .int .u64 tn, .slice none 0 0] 75) = W7 at *
  generalize w6.heap.size = SBk at Sb S0 SD ⊢
  refine SD.out.mono ?_
  rintro e w8 ⟨rfl, ⟨wv8, s8⟩, k8, b8⟩
  have S8 := hide s8
  replace R2 := hide (Kt.rw R2.out k8)
  replace Ab := hide (Kt.isr Ab.out (by decide) (by decide) k8)
  replace Bb := hide (Kt.isr Bb.out (by decide) (by decide) k8)
  have B8 := hide (B.out.trans b8)
  clear s8 k8 b8 SD S0 Sb y0 y1 y2 y3 y4
  have RN := hide (run_left w.heap.size SBk h a c m' hM.out tr tn htr HH.out wv8 r HI.out w8 B8.out.size R2.out S8.out)
  go_wp2_with fail
  refine RN.out.mono ?_
  rintro e w9 ⟨rfl, ⟨wv9, s9⟩, k9, b9⟩
  have S9 := hide s9
  replace Ab := hide (Kt.isr Ab.out (by decide) (by decide) k9)
  replace Bb := hide (Kt.isr Bb.out (by decide) (by decide) k9)
  have B9 := hide (B8.out.trans b9)
  clear s9 k9 b9 RN S8 R2 B8 HRI
  obtain ⟨X1, hX1⟩ : ∃ z, (goL h m' (tgR tr tn) h.toNat r).2 = z := ⟨_, rfl⟩
  rw [hX1]
  obtain ⟨Y1, hY1⟩ : ∃ z, endY h m' X1 = z := ⟨_, rfl⟩
  rw [hY1]
  have HXY : Hid ((goL h m' (tgR tr tn) h.toNat r).2 = X1 ∧ endY h m' X1 = Y1) := ⟨hX1, hY1⟩
  clear hX1 hY1
  obtain ⟨p0, p1, p2, p3, p4⟩ := X1
  obtain ⟨q0, q1, q2, q3, q4⟩ := Y1
  simp only [Rf.cells]
  obtain ⟨wa9, wc9, rfl, -, -⟩ := S9.out.row.shape
  obtain ⟨wn9, hwn9⟩ : ∃ z, ((h, r) :: (goL h m' (tgR tr tn) h.toNat r).1).length = z := ⟨_, rfl⟩
  have RY0 := S9.out.row
  have SX0 := S9.out.blk
  unfold scs at SX0
  simp only [hwn9] at RY0 SX0
  have RY := hide RY0
  have SX := hide SX0
  clear RY0 SX0 S9
  have hAL : Hid (H + 1 + 1 < w9.heap.size) := Bb.out.lt
  have b10 := ((Below.refl w9.heap.size w9).alloc (Nat.le_refl _) (.cells #[.int .i64 p0, .int .i64 p1, .int .u64 p2, .int .i64 p3, .int .u64 p4] 30)).alloc (by simp) (.cells #[.int .i64 q0, .int .i64 q1, .int .u64 q2, .int .i64 q3, .int .u64 q4] 30)
  have Lb : Hid (IsB ((w9.alloc (.cells #[.int .i64 p0, .int .i64 p1, .int .u64 p2, .int .i64 p3, .int .u64 p4] 30)).alloc (.cells #[.int .i64 q0, .int .i64 q1, .int .u64 q2, .int .i64 q3, .int .u64 q4] 30)) w9.heap.size #[.int .i64 p0, .int .i64 p1, .int .u64 p2, .int .i64 p3, .int .u64 p4] 30) := (IsB.new w9 #[.int .i64 p0, .int .i64 p1, .int .u64 p2, .int .i64 p3, .int .u64 p4] _).below ((Below.refl _ _).alloc (Nat.le_refl _) _)
  have Mb : Hid (IsB ((w9.alloc (.cells #[.int .i64 p0, .int .i64 p1, .int .u64 p2, .int .i64 p3, .int .u64 p4] 30)).alloc (.cells #[.int .i64 q0, .int .i64 q1, .int .u64 q2, .int .i64 q3, .int .u64 q4] 30)) (w9.heap.size + 1) #[.int .i64 q0, .int .i64 q1, .int .u64 q2, .int .i64 q3, .int .u64 q4] 30) := by
    have := IsB.new (w9.alloc (.cells #[.int .i64 p0, .int .i64 p1, .int .u64 p2, .int .i64 p3, .int .u64 p4] 30)) #[.int .i64 q0, .int .i64 q1, .int .u64 q2, .int .i64 q3, .int .u64 q4] 30
    rwa [World.size_alloc] at this
  replace Ab := hide (Ab.out.below b10)
  replace Bb := hide (Bb.out.below b10)
  replace SX := hide (SX.out.below b10)
  replace RY := hide (RY.out.below b10)
  replace B9 := hide (B9.out.trans (b10.mono B9.out.size))
  clear b10
  have y14 := SX.out.cell 14
  simp at y14
  go_wp2_with fail
  clear y14
  generalize ((w9.alloc (.cells #[.int .i64 p0, .int .i64 p1, .int .u64 p2, .int .i64 p3, .int .u64 p4] 30)).alloc (.cells #[.int .i64 q0, .int .i64 q1, .int .u64 q2, .int .i64 q3, .int .u64 q4] 30)) = W10 at *
  generalize w9.heap.size = LB at Lb Mb hAL ⊢
  replace Ab := hide (Ab.out.below ((Below.refl _ _).drew))
  replace Bb := hide (Bb.out.below ((Below.refl _ _).drew))
  replace SX := hide (SX.out.below ((Below.refl _ _).drew))
  replace RY := hide (RY.out.below ((Below.refl _ _).drew))
  replace Lb := hide (Lb.out.below ((Below.refl _ _).drew))
  replace Mb := hide (Mb.out.below ((Below.refl _ _).drew))
  replace B9 := hide B9.out.drew
  refine regionL 10 (fun w' => IsB w' SBk #[.int .i64 h, .int .i64 0, .int .i64 1, .int .u64 0, .int .i64 h, .int .u64 0, .int .i64 1, .int .i64 3, .int .u64 0, .int .i64 h, .int .u64 0, .slice a m'.length c, .int .i64 tr, .int .u64 tn, .slice wa9 wn9 wc9] 75 ∧ IsB w' LB #[.int .i64 p0, .int .i64 p1, .int .u64 p2, .int .i64 p3, .int .u64 p4] 30 ∧ IsB w' (LB + 1) #[.int .i64 q0, .int .i64 q1, .int .u64 q2, .int .i64 q3, .int .u64 q4] 30) mixed ⟨SX.out, Lb.out, Mb.out⟩ (fun hHeld => ?_)
  generalize W10.drew = WD at *
  refine pickA (v := ?_) 0 (some 62) rfl rfl (by kernel_rfl) (by kernel_rfl) (by kernel_rfl) (by decide) (fun _ _ _ h => h) (by rfl) ?_ (by assumption) ?_
  rotate_left
  · intro w'
    go_simp
    try with_reducible rfl
  try simp only [Act.put, List.setIfInBounds_toArray, List.set_cons_zero, List.set_cons_succ]
  refine pickA (v := ?_) 1 (some 63) rfl rfl (by kernel_rfl) (by kernel_rfl) (by kernel_rfl) (by decide) (fun _ _ _ h => h) (by rfl) ?_ (by assumption) ?_
  rotate_left
  · intro w'
    go_simp
    try with_reducible rfl
  try simp only [Act.put, List.setIfInBounds_toArray, List.set_cons_zero, List.set_cons_succ]
  refine pickA (v := ?_) 2 (some 64) rfl rfl (by kernel_rfl) (by kernel_rfl) (by kernel_rfl) (by decide) (fun _ _ _ h => h) (by rfl) ?_ (by assumption) ?_
  rotate_left
  · intro w'
    go_simp
    try with_reducible rfl
  try simp only [Act.put, List.setIfInBounds_toArray, List.set_cons_zero, List.set_cons_succ]
  refine pickL (v := .slice wa9 wn9 wc9) 3 (some 65) rfl rfl (by kernel_rfl) (by kernel_rfl) (by kernel_rfl) (by decide) (by kernel_rfl) (by kernel_rfl) (fun _ _ _ h => h) (by rfl) ?_ (by assumption) ?_
  · intro w' hSw
    obtain ⟨u0, u1, u2⟩ := hSw
    have y14 := u0.cell 14
    simp at y14
    go_simp
  try simp only [Act.put, List.setIfInBounds_toArray, List.set_cons_zero, List.set_cons_succ]
  refine pickL (v := .agg #[.int .i64 p0, .int .i64 p1, .int .u64 p2, .int .i64 p3, .int .u64 p4]) 4 (some 66) rfl rfl (by kernel_rfl) (by kernel_rfl) (by kernel_rfl) (by decide) (by kernel_rfl) (by kernel_rfl) (fun _ _ _ h => h) (by rfl) ?_ (by assumption) ?_
  · intro w' hSw
    obtain ⟨u0, u1, u2⟩ := hSw
    exact exec_load rfl rfl (load_ref u1 rfl)
  try simp only [Act.put, List.setIfInBounds_toArray, List.set_cons_zero, List.set_cons_succ]
  refine pickL (v := .agg #[.int .i64 q0, .int .i64 q1, .int .u64 q2, .int .i64 q3, .int .u64 q4]) 5 (some 67) rfl rfl (by kernel_rfl) (by kernel_rfl) (by kernel_rfl) (by decide) (by kernel_rfl) (by kernel_rfl) (fun _ _ _ h => h) (by rfl) ?_ (by assumption) ?_
  · intro w' hSw
    obtain ⟨u0, u1, u2⟩ := hSw
    exact exec_load rfl rfl (load_ref u2 rfl)
  try simp only [Act.put, List.setIfInBounds_toArray, List.set_cons_zero, List.set_cons_succ]
  refine pickA (v := ?_) 6 (some 8) rfl rfl (by kernel_rfl) (by kernel_rfl) (by kernel_rfl) (by decide) (fun _ _ _ h => h) (by rfl) ?_ (by assumption) ?_
  rotate_left
  · intro w'
    go_simp
    try with_reducible rfl
  try simp only [Act.put, List.setIfInBounds_toArray, List.set_cons_zero, List.set_cons_succ]
  refine oneL (i := 7) (by kernel_rfl) rfl (fun K hK => ?_)
  obtain ⟨w11, hst, I9, k9⟩ := store_ref Ab.out (cs := #[.int .i64 p0, .int .i64 p1, .int .u64 p2, .int .i64 p3, .int .u64 p4]) rfl rfl (by kernel_rfl)
  replace Lb := hide (Lb.out.kp k9 (by simp; have := hAL.out; omega))
  replace Mb := hide (Mb.out.kp k9 (by simp; have := hAL.out; omega))
  have SX2 := hide (SX.out.kp k9 (fun hm => by simp at hm; subst hm; exact absurd (cells_inj SX.out Ab.out) (by decide)))
  have RY2 := hide (RY.out.kp k9 (fun q hq hm => by simp at hm; subst hm; obtain ⟨-, cur, hc⟩ := RY.out.lt _ hq; exact absurd (cells_inj hc Ab.out) (by decide)))
  have B11 := hide (Bb.out.kp k9 (by simp))
  have KK : Hid (Below w.heap.size w w11) := B9.out.trans (k9.to_below (by have := B9.out.size; omega) (by simp; have := hH.out; omega))
  have HST := hide hst
  have I9h := hide I9
  clear hst I9 k9
  refine step_store_w rfl 30 (.tmp 9) (.tmp 66) rfl rfl rfl HST.out ?_
  refine hK.out _ _ ?_ ?_
  · exact ⟨SX2.out, Lb.out, Mb.out⟩
  clear hK K
  try simp only [Act.put, List.setIfInBounds_toArray]
  clear hHeld
  have hHeld : (fun w' => IsB w' SBk #[.int .i64 h, .int .i64 0, .int .i64 1, .int .u64 0, .int .i64 h, .int .u64 0, .int .i64 1, .int .i64 3, .int .u64 0, .int .i64 h, .int .u64 0, .slice a m'.length c, .int .i64 tr, .int .u64 tn, .slice wa9 wn9 wc9] 75 ∧ IsB w' LB #[.int .i64 p0, .int .i64 p1, .int .u64 p2, .int .i64 p3, .int .u64 p4] 30 ∧ IsB w' (LB + 1) #[.int .i64 q0, .int .i64 q1, .int .u64 q2, .int .i64 q3, .int .u64 q4] 30) w11 := ⟨SX2.out, Lb.out, Mb.out⟩
  refine oneL (i := 8) (by kernel_rfl) rfl (fun K hK => ?_)
  obtain ⟨w12, hst, J9, k9⟩ := store_ref B11.out (cs := #[.int .i64 q0, .int .i64 q1, .int .u64 q2, .int .i64 q3, .int .u64 q4]) rfl rfl (by kernel_rfl)
  replace Lb := hide (Lb.out.kp k9 (by simp; have := hAL.out; omega))
  replace Mb := hide (Mb.out.kp k9 (by simp; have := hAL.out; omega))
  have SX3 := hide (SX2.out.kp k9 (fun hm => by simp at hm; subst hm; exact absurd (cells_inj SX2.out B11.out) (by decide)))
  have RY3 := hide (RY2.out.kp k9 (fun q hq hm => by simp at hm; subst hm; obtain ⟨-, cur, hc⟩ := RY2.out.lt _ hq; exact absurd (cells_inj hc B11.out) (by decide)))
  have I12 := hide (I9h.out.kp k9 (by simp))
  have K12 : Hid (Below w.heap.size w w12) := KK.out.trans (k9.to_below (by have := KK.out.size; omega) (by simp; have := hH.out; omega))
  have HST2 := hide hst
  have J12 := hide J9
  clear hst J9 k9
  refine step_store_w rfl 30 (.tmp 10) (.tmp 67) rfl rfl rfl HST2.out ?_
  refine hK.out _ _ ?_ ?_
  · exact ⟨SX3.out, Lb.out, Mb.out⟩
  clear hK K
  try simp only [Act.put]
  clear hHeld
  have hHeld : (fun w' => IsB w' SBk #[.int .i64 h, .int .i64 0, .int .i64 1, .int .u64 0, .int .i64 h, .int .u64 0, .int .i64 1, .int .i64 3, .int .u64 0, .int .i64 h, .int .u64 0, .slice a m'.length c, .int .i64 tr, .int .u64 tn, .slice wa9 wn9 wc9] 75 ∧ IsB w' LB #[.int .i64 p0, .int .i64 p1, .int .u64 p2, .int .i64 p3, .int .u64 p4] 30 ∧ IsB w' (LB + 1) #[.int .i64 q0, .int .i64 q1, .int .u64 q2, .int .i64 q3, .int .u64 q4] 30) w12 := ⟨SX3.out, Lb.out, Mb.out⟩
  refine pickA (v := ?_) 9 (some 11) rfl rfl (by kernel_rfl) (by kernel_rfl) (by kernel_rfl) (by decide) (fun _ _ _ h => h) (by rfl) ?_ (by assumption) ?_
  rotate_left
  · intro w'
    go_simp
    try with_reducible rfl
  try simp only [Act.put]
  refine doneL (by kernel_rfl) ?_ _
  clear hHeld
  go_wp2
  refine ret_way (s := 8) (p := 9) (q := 10) (u := 11) (a := H + 1) (b := H + 1 + 1) Tryd.results14 rfl rfl rfl rfl rfl rfl I12.out J12.out ?_
  refine ⟨.slice wa9 wn9 wc9, ?_, ?_, K12.out⟩
  · rw [HXY.out.1, HXY.out.2]; rfl
  · have h9 := hwn9
    rw [List.length_cons] at h9
    rw [h9]
    exact RY3.out

end Go.Proofs.YtfcmmchppcffmaaDoor
