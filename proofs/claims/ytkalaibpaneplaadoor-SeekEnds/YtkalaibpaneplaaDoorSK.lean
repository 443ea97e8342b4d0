/- The law SeekEnds walked. -/
import Derived.Test.YtkalaibpaneplaaDoorSJ
namespace Go.Proofs.YtkalaibpaneplaaDoor
open Go.RowKit Go.Maps Go.ChangeMaps

/-- An answer of a kind, and nothing else. -/
def aK (k : Int) : An := ⟨k, false, zr, zr, none, 0, 0⟩
theorem aK_ok (k : Int) : AOk (aK k) := ⟨zr_wf, zr_wf⟩
theorem tell_K {S : Sk} {ws : List (Pl × Rf)} {k : Int} (hk : k ≠ 1) (ho : S.ov = false) (hl : S.lk = false) : (S.tell ws (aK k)).1 = S.begin := by
  unfold Sk.tell
  rw [ho, hl, if_neg (by decide), if_neg (by decide)]
  unfold Sk.hearH
  rw [if_neg (show ¬(aK k).k = 1 from hk)]
  split <;> rfl
theorem fld0 (k : Int) (r : Rf) (q x y e : Int) (l r2 : Rf) (f : Bool) (w : World) : (Instr.field 57 (.agg (spL k r q x y e l r2 f).toArray) 0).run Tryd.prog w = .ok (.int .i64 k) w := by kernel_rfl

set_option maxHeartbeats 8000000 in
set_option maxRecDepth 100000 in
theorem ends_any (h : Int) (s : Rf) (tr tn kd : Int) (hb0 : 0 ≤ s.bt) (hi : (Lit.int .i64 s.id).wf = true) (hk0 : 0 ≤ kd) (hk255 : kd ≤ 255) (w : World) (hR : Ranks w) : Calls Tryd.prog 7 #[.agg (cfL h s tr tn).toArray, .int .u8 kd] w fun e w' => e = .returned (.bool true) ∧ Below w.heap.size w w' := by
  have mixed : Tryd.prog.follows .mixedOrders = true := by kernel_rfl
  obtain ⟨k, hkk⟩ : ∃ k : Int, k = 2 + kd % 4 := ⟨_, rfl⟩
  have hk1 : k ≠ 1 := by omega
  have HK := hide hk1
  have w1 : IntKind.i64.wrap kd = kd := wrap_pos _ (by omega) (by omega)
  have w2 : kd.tmod 4 = kd % 4 := by rw [Int.tmod_eq_emod_of_nonneg (by omega)]
  have w3 : IntKind.i64.wrap (kd % 4) = kd % 4 := wrap_pos _ (by omega) (by omega)
  have w4 : IntKind.i64.wrap (2 + kd % 4) = k := by rw [hkk]; exact wrap_pos _ (by omega) (by omega)
  clear hkk
  have b1 := (Below.refl w.heap.size w).alloc (Nat.le_refl _) (.cells (cfL h s tr tn).toArray 31)
  have CB := hide (IsB.new w (cfL h s tr tn).toArray 31)
  have HR := hide (hR.below b1)
  have B := hide b1
  have AW := hide (awake_any _ (hR.below b1))
  clear b1 hR hk1
  go_enter Tryd.func7, Tryd.ntmps7
  go_wp2_with fail
  refine AW.out.mono ?_
  rintro e wa ⟨rfl, hb⟩
  replace CB := hide (CB.out.below hb)
  replace HR := hide (HR.out.below hb)
  replace B := hide (B.out.trans (hb.mono B.out.size))
  clear hb AW
  have LC := hide (ld_conf CB.out)
  cases hm : mayC h s tr tn with
  | false =>
    go_wp2_with (first | (focus ((with_reducible refine wpList_load_w ?_ 31 (.tmp 2) ?_ ?_ LC.out ?_); rotate_left; rfl; rfl; rotate_left; rfl)))
    refine (new_bad h s tr tn hb0 hm wa HR.out).mono ?_
    rintro e wb ⟨rfl, hb⟩
    replace B := hide (B.out.trans (hb.mono B.out.size))
    clear hb LC
    go_wp2
    go_ret
    exact ⟨rfl, B.out⟩
  | true =>
    go_wp2_with (first | (focus ((with_reducible refine wpList_load_w ?_ 31 (.tmp 2) ?_ ?_ LC.out ?_); rotate_left; rfl; rfl; rotate_left; rfl)))
    refine (new_ok h s tr tn hb0 hm wa HR.out).mono ?_
    rintro e wb ⟨b, m, rfl, X', h1, h2, hb⟩
    have X := hide X'
    have hbm : Hid (w.heap.size ≤ b ∧ w.heap.size ≤ m) := ⟨Nat.le_trans B.out.size h1, Nat.le_trans B.out.size h2⟩
    replace HR := hide (HR.out.below hb)
    replace B := hide (B.out.trans (hb.mono B.out.size))
    have SO := hide (newS_ok hm hb0 hi)
    clear hb h1 h2 X' LC CB
    go_wp2_with fail
    go_loopw [7] (fun v7 wr => ∃ (j : Nat) (S : Sk) (ws : List (Pl × Rf)), j ≤ 64 ∧ v7 = .int .i64 (j : Int) ∧ Hid (SkAt wr b m S ws) ∧ Hid (SOk S ws) ∧ Hid (S.n = (j : Int) ∧ S.ov = false ∧ S.lk = false) ∧ Hid (Ranks wr) ∧ Hid (Below w.heap.size w wr)) (fun v7 _ => 64 - (intOf v7).toNat)
    case atStart => exact ⟨0, newS h s tr tn, [], by omega, rfl, X, SO, ⟨rfl, rfl, rfl⟩, HR, B⟩
    case round =>
      clear X SO HR B
      obtain ⟨j, S, ws, hj, rfl, X, SO, hn, HR, B⟩ := hrel
      by_cases hlt : j < 64
      · have hd : decide ((j : Int) < 64) = true := decide_eq_true (by omega)
        have wj : IntKind.i64.wrap ((j : Int) + 1) = (j : Int) + 1 := wrap_pos _ (by omega) (by omega)
        go_wp2_with fail
        have TL := tell_any b m S ws (aK k) SO.out (aK_ok k) wr HR.out X.out
        rw [tell_K HK.out hn.out.2.1 hn.out.2.2] at TL
        have SO2 := hide (SO.out.tell (aK_ok k))
        rw [tell_K HK.out hn.out.2.1 hn.out.2.2] at SO2
        obtain ⟨ws2, hws⟩ : ∃ ws2, (S.tell ws (aK k)).2 = ws2 := ⟨_, rfl⟩
        rw [hws] at TL SO2
        clear hws
        refine TL.mono ?_
        clear TL
        rintro e wc ⟨rfl, X', K'⟩
        have hbB : Below w.heap.size wr wc := K'.to_below B.out.size (by have := hbm.out; simp; omega)
        replace HR := hide (HR.out.kp K' X.out)
        replace B := hide (B.out.trans hbB)
        replace X := hide X'
        clear X' K' hbB
        have hbg : S.begin = { S with n := S.n + 1, wl := S.hd.ln, wb := S.hd.bt, pt := S.hd, ah := zr, lk := false } := by unfold Sk.begin; rw [if_neg (by rw [hn.out.1]; omega)]
        have hn2 : Hid (S.begin.n = (j : Int) + 1 ∧ S.begin.ov = false ∧ S.begin.lk = false) := by rw [hbg]; exact ⟨by show S.n + 1 = _; rw [hn.out.1], hn.out.2.1, rfl⟩
        clear hbg hn
        generalize S.begin = S2 at *
        have NX := next_any b m S2 ws2 wc X.out
        have TR := hide (fun (W : World) (hX : SkAt W b m S2 ws2) => tries_any b m S2 ws2 W hX)
        rw [hn2.out.1] at TR
        unfold Sk.step at NX
        rw [hn2.out.2.1, if_neg (by decide)] at NX
        have F0 := fld0 1 S2.to 1 S2.wl S2.wb 0 zr zr false
        generalize (spL 1 S2.to 1 S2.wl S2.wb 0 zr zr false).toArray = SV at *
        go_wp2_with fail
        refine NX.mono ?_
        clear NX
        rintro e wd ⟨rfl, hb⟩
        replace X := hide (X.out.below hb)
        replace HR := hide (HR.out.below hb)
        replace B := hide (B.out.trans (hb.mono B.out.size))
        clear hb
        go_wp2_with fail
        refine (TR.out wd X.out).mono ?_
        rintro e we ⟨rfl, hwe⟩
        rw [hwe]
        clear hwe we TR
        go_wp2
        exact ⟨⟨j + 1, S2, ws2, by omega, by simp, X, SO2, by simpa using hn2, HR, B⟩, by simp [intOf]; omega⟩
      · have hd : decide ((j : Int) < 64) = false := decide_eq_false (by omega)
        have hj64 : Hid ((j : Int) = 64) := hide (by omega)
        go_wp2_with fail
        have TL := tell_any b m S ws (aK k) SO.out (aK_ok k) wr HR.out X.out
        rw [tell_K HK.out hn.out.2.1 hn.out.2.2] at TL
        have SO2 := hide (SO.out.tell (aK_ok k))
        rw [tell_K HK.out hn.out.2.1 hn.out.2.2] at SO2
        obtain ⟨ws2, hws⟩ : ∃ ws2, (S.tell ws (aK k)).2 = ws2 := ⟨_, rfl⟩
        rw [hws] at TL SO2
        clear hws
        refine TL.mono ?_
        clear TL
        rintro e wc ⟨rfl, X', K'⟩
        have hbB : Below w.heap.size wr wc := K'.to_below B.out.size (by have := hbm.out; simp; omega)
        replace HR := hide (HR.out.kp K' X.out)
        replace B := hide (B.out.trans hbB)
        replace X := hide X'
        clear X' K' hbB
        have hbg : Hid (S.begin = S.busy) := by show S.begin = S.busy; unfold Sk.begin; rw [if_pos (by rw [hn.out.1, hj64.out])]
        rw [hbg.out] at X
        have NX : Calls Tryd.prog 18 #[.pointer (some ⟨b, 0, none⟩)] wc fun e w' => e = .returned (.agg (spL 3 zr 0 0 0 121 zr zr false).toArray) ∧ Below wc.heap.size wc w' := next_any b m S.busy ws2 wc X.out
        go_wp2_with fail
        refine NX.mono ?_
        clear NX
        rintro e wd ⟨rfl, hb⟩
        replace B := hide (B.out.trans (hb.mono B.out.size))
        clear hb
        have SS := hide (store_step wd (spL 3 zr 0 0 0 121 zr zr false).toArray rfl (by kernel_rfl))
        have hbA := (Below.refl wd.heap.size wd).alloc (Nat.le_refl _) (.cells (spL 3 zr 0 0 0 121 zr zr false).toArray 57)
        have Q := hide (IsB.new wd (spL 3 zr 0 0 0 121 zr zr false).toArray 57)
        replace B := hide (B.out.trans (hbA.mono B.out.size))
        clear hbA
        have y0 : (wd.alloc (.cells (spL 3 zr 0 0 0 121 zr zr false).toArray 57)).cell? ⟨wd.heap.size, 0, none⟩ = some (.int .i64 3) := Q.out.cell 0
        have y21 : (wd.alloc (.cells (spL 3 zr 0 0 0 121 zr zr false).toArray 57)).cell? ⟨wd.heap.size, 21, none⟩ = some (.int .i64 121) := Q.out.cell 21
        go_wp2_with (first | (focus ((with_reducible refine wpList_store_w ?_ 57 (.tmp 8) (.tmp 50) ?_ ?_ ?_ SS.out ?_); rotate_left; rfl; rfl; rfl; rotate_left; rfl)))
        go_ret
        exact ⟨rfl, B.out⟩

end Go.Proofs.YtkalaibpaneplaaDoor
