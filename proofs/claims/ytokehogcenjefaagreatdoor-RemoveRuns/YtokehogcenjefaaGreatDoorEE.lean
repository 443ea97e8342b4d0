/- may, New. -/
import Derived.Test.YtokehogcenjefaaGreatDoorEA
import Derived.Deep.WholeRow
namespace Go.Proofs.YtokehogcenjefaaGreatDoor
open Go.RowKit Go.Maps Go.ChangeMaps








/-- May settings be? -/
def umayC (wl wb : Int) (me : Rf) (oa oo : Int) : Bool := me.rk == 2 && (bgS me.ln me.bt wl wb && okO oa oo)

set_option maxHeartbeats 2000000 in
set_option maxRecDepth 100000 in
theorem umay_any (wl wb : Int) (me : Rf) (oa oo : Int) (hb0 : 0 ≤ me.bt) (hc0 : 0 ≤ wb) (w : World) : Calls Tryz.prog 120 #[.agg (ucfL wl wb me oa oo).toArray] w fun e w' => e = .returned (.bool (umayC wl wb me oa oo)) ∧ Below w.heap.size w w' := by
 have b1 := (Below.refl w.heap.size w).alloc (Nat.le_refl _) (.cells (ucfL wl wb me oa oo).toArray 100)
 have CB := hide (IsB.new w (ucfL wl wb me oa oo).toArray 100)
 have B := hide b1
 generalize hE : umayC wl wb me oa oo = E
 unfold umayC at hE
 clear b1
 have y3 : (w.alloc (.cells (ucfL wl wb me oa oo).toArray 100)).cell? ⟨w.heap.size, 3, none⟩ = some (.int .i64 me.rk) := CB.out.cell 3
 by_cases h0 : me.rk = 2
 rotate_left
 · have e2 : (me.rk == 2) = false := by simpa using h0
   have E0 : Hid (E = false) := by rw [← hE, e2]; rfl
   clear hE
   generalize me.rk = rk at *
   go_enter Tryz.func120, Tryz.ntmps120
   go_wp2
   go_ret
   exact ⟨by rw [E0.out]; rfl, B.out⟩
 have e2 : (me.rk == 2) = true := by simpa using h0
 rw [e2, Bool.true_and] at hE
 rw [h0] at y3
 replace h0 := hide h0
 clear e2
 have L1 := hide (ld_cmev CB.out)
 have L2 := hide (ld_cw CB.out)
 go_enter Tryz.func120, Tryz.ntmps120
 go_wp2_with (first | (focus ((with_reducible refine wpList_load_w ?_ 27 (.tmp 10) ?_ ?_ L1.out ?_); rotate_left; rfl; rfl; rotate_left; rfl)) | (focus ((with_reducible refine wpList_load_w ?_ 27 (.tmp 12) ?_ ?_ L2.out ?_); rotate_left; rfl; rfl; rotate_left; rfl)))
 generalize (w.alloc (.cells (ucfL wl wb me oa oo).toArray 100)) = W1 at *
 refine (vBegins_any me.ln me.bt wl wb hb0 hc0 W1).mono ?_
 rintro e w2 ⟨rfl, hb⟩
 replace CB := hide (CB.out.below hb)
 replace B := hide (B.out.trans (hb.mono B.out.size))
 clear hb
 clear L1 L2 y3
 by_cases h1 : bgS me.ln me.bt wl wb = true
 rotate_left
 · replace h1 : bgS me.ln me.bt wl wb = false := by simpa using h1
   rw [h1]
   have E0 : Hid (E = false) := by rw [← hE, h1]; rfl
   clear hE h1
   go_wp2
   go_ret
   exact ⟨by rw [E0.out]; rfl, B.out⟩
 rw [h1]
 rw [h1, Bool.true_and] at hE
 replace h1 := hide h1
 have L6 := hide (ld_cow CB.out)
 go_wp2_with (first | (focus ((with_reducible refine wpList_load_w ?_ 31 (.tmp 17) ?_ ?_ L6.out ?_); rotate_left; rfl; rfl; rotate_left; rfl)))
 refine (check_any oa oo w2).mono ?_
 rintro e w5 ⟨rfl, hb⟩
 replace CB := hide (CB.out.below hb)
 replace B := hide (B.out.trans (hb.mono B.out.size))
 clear hb
 clear L6
 by_cases h6 : okO oa oo = true
 · rw [chE_yes h6]
   have E0 : Hid (E = true) := hE.symm.trans h6
   clear hE h6
   go_wp2
   go_ret
   exact ⟨by rw [E0.out]; rfl, B.out⟩
 · replace h6 : okO oa oo = false := by simpa using h6
   rw [chE_no h6]
   have E0 : Hid (E = false) := hE.symm.trans h6
   clear hE h6
   go_wp2
   go_ret
   exact ⟨by rw [E0.out]; rfl, B.out⟩

set_option maxHeartbeats 2000000 in
set_option maxRecDepth 100000 in
theorem unew_bad (wl wb : Int) (me : Rf) (oa oo : Int) (hb0 : 0 ≤ me.bt) (hc0 : 0 ≤ wb) (hm : umayC wl wb me oa oo = false) (w : World) : Calls Tryz.prog 114 #[.agg (ucfL wl wb me oa oo).toArray] w fun e w' => e = .returned (.tuple #[.pointer none, .int .i64 140]) ∧ Below w.heap.size w w' := by
 have b1 := (Below.refl w.heap.size w).alloc (Nat.le_refl _) (.cells (ucfL wl wb me oa oo).toArray 100)
 have CB := hide (IsB.new w (ucfL wl wb me oa oo).toArray 100)
 have L1 := hide (ld_cconf CB.out)
 have MY := hide (umay_any wl wb me oa oo hb0 hc0 (w.alloc (.cells (ucfL wl wb me oa oo).toArray 100)))
 have B := hide b1
 rw [hm] at MY
 clear b1 hm
 go_enter Tryz.func114, Tryz.ntmps114
 go_wp2_with (first | (focus ((with_reducible refine wpList_load_w ?_ 100 (.tmp 1) ?_ ?_ L1.out ?_); rotate_left; rfl; rfl; rotate_left; rfl)))
 refine MY.out.mono ?_
 rintro e w2 ⟨rfl, hb⟩
 replace CB := hide (CB.out.below hb)
 replace B := hide (B.out.trans (hb.mono B.out.size))
 clear hb MY L1
 clear CB
 go_wp2
 refine bodyPost_ret (results_tmp2 Tryz.results114 _ _ _) rfl ?_
 exact ⟨rfl, B.out⟩

/-- A new unsplice: the program's. -/
def unewS (wl wb : Int) (me : Rf) (oa oo : Int) : Us := ⟨wl, wb, me, oa, oo, 1, zr, zr, 9, 0⟩
/-- A new unsplice: the document's. -/
def newD (wl wb : Int) (me : Rf) (oa oo : Int) : Us := ⟨wl, wb, me, oa, oo, 1, zr, zr, 0, 0⟩
theorem set_info : (Tryz.prog.info? 212).map (·.size) = some 9 := by kernel_rfl
theorem store_set (w : World) (cs : Array Value) (hs : cs.size = 9) (h1 : cs.all (·.oneCell') = true) : (Instr.storeAt 212 (.pointer (some ⟨w.heap.size, 0, none⟩)) (.agg cs)).run Tryz.prog (w.alloc (.cells #[.int .i64 0, .int .u64 0, .int .i64 0, .int .i64 0, .int .u64 0, .int .i64 0, .int .u64 0, .int .i64 0, .int .i64 0] 212)) = .ok () (w.alloc (.cells cs 212)) := run_storeAt_new w 212 _ cs (by rw [hs]; exact set_info) (by rw [hs]; rfl) h1
theorem ld_set {w : World} {b : Nat} {wl wb : Int} {me : Rf} {oa oo : Int} (I : IsB w b (ucfL wl wb me oa oo).toArray 212) : (Instr.loadAt 212 (.pointer (some ⟨b, 0, none⟩))).run Tryz.prog w = .ok (.agg (ucfL wl wb me oa oo).toArray) w := load_mid I 0 _ (ucfL wl wb me oa oo) _ rfl Tryz.underlying212 rfl (by kernel_rfl)

set_option maxHeartbeats 2000000 in
set_option maxRecDepth 100000 in
theorem unew_ok (wl wb : Int) (me : Rf) (oa oo : Int) (hb0 : 0 ≤ me.bt) (hc0 : 0 ≤ wb) (hm : umayC wl wb me oa oo = true) (w : World) : Calls Tryz.prog 114 #[.agg (ucfL wl wb me oa oo).toArray] w fun e w' => ∃ b, e = .returned (.tuple #[.pointer (some ⟨b, 0, none⟩), .int .i64 0]) ∧ UsAt w' b (unewS wl wb me oa oo) ∧ w.heap.size ≤ b ∧ Below w.heap.size w w' := by
 have b1 := (Below.refl w.heap.size w).alloc (Nat.le_refl _) (.cells (ucfL wl wb me oa oo).toArray 100)
 have CB := hide (IsB.new w (ucfL wl wb me oa oo).toArray 100)
 have L1 := hide (ld_cconf CB.out)
 have MY := hide (umay_any wl wb me oa oo hb0 hc0 (w.alloc (.cells (ucfL wl wb me oa oo).toArray 100)))
 have B := hide b1
 rw [hm] at MY
 clear b1 hm
 go_enter Tryz.func114, Tryz.ntmps114
 go_wp2_with (first | (focus ((with_reducible refine wpList_load_w ?_ 100 (.tmp 1) ?_ ?_ L1.out ?_); rotate_left; rfl; rfl; rotate_left; rfl)))
 refine MY.out.mono ?_
 rintro e w2 ⟨rfl, hb⟩
 replace CB := hide (CB.out.below hb)
 replace B := hide (B.out.trans (hb.mono B.out.size))
 clear hb MY L1
 have LW := hide (ld_cw CB.out)
 have LM : Hid ((Instr.loadAt 29 (.pointer (some ⟨w.heap.size, 2, none⟩))).run Tryz.prog w2 = .ok (.agg #[.int .i64 me.id, .int .i64 me.rk, .int .u64 me.kn, .int .i64 me.ln, .int .u64 me.bt]) w2) := ld_cme CB.out
 have LO := hide (ld_cow CB.out)
 have SS : Hid ((Instr.storeAt 212 (.pointer (some ⟨w2.heap.size, 0, none⟩)) (.agg #[.int .i64 wl, .int .u64 wb, .int .i64 me.id, .int .i64 me.rk, .int .u64 me.kn, .int .i64 me.ln, .int .u64 me.bt, .int .i64 oa, .int .i64 oo])).run Tryz.prog (w2.alloc (.cells #[.int .i64 0, .int .u64 0, .int .i64 0, .int .i64 0, .int .u64 0, .int .i64 0, .int .u64 0, .int .i64 0, .int .i64 0] 212)) = .ok () (w2.alloc (.cells #[.int .i64 wl, .int .u64 wb, .int .i64 me.id, .int .i64 me.rk, .int .u64 me.kn, .int .i64 me.ln, .int .u64 me.bt, .int .i64 oa, .int .i64 oo] 212))) := store_set w2 #[.int .i64 wl, .int .u64 wb, .int .i64 me.id, .int .i64 me.rk, .int .u64 me.kn, .int .i64 me.ln, .int .u64 me.bt, .int .i64 oa, .int .i64 oo] rfl (by kernel_rfl)
 have bS := (Below.refl w2.heap.size w2).alloc (Nat.le_refl _) (.cells (ucfL wl wb me oa oo).toArray 212)
 have LS : Hid ((Instr.loadAt 212 (.pointer (some ⟨w2.heap.size, 0, none⟩))).run Tryz.prog (w2.alloc (.cells #[.int .i64 wl, .int .u64 wb, .int .i64 me.id, .int .i64 me.rk, .int .u64 me.kn, .int .i64 me.ln, .int .u64 me.bt, .int .i64 oa, .int .i64 oo] 212)) = .ok (.agg #[.int .i64 wl, .int .u64 wb, .int .i64 me.id, .int .i64 me.rk, .int .u64 me.kn, .int .i64 me.ln, .int .u64 me.bt, .int .i64 oa, .int .i64 oo]) (w2.alloc (.cells #[.int .i64 wl, .int .u64 wb, .int .i64 me.id, .int .i64 me.rk, .int .u64 me.kn, .int .i64 me.ln, .int .u64 me.bt, .int .i64 oa, .int .i64 oo] 212))) := ld_set (IsB.new w2 (ucfL wl wb me oa oo).toArray _)
 have bU := bS.alloc (by simp) (.cells (usL (unewS wl wb me oa oo)).toArray 215)
 have F0 : UsAt ((w2.alloc (.cells (ucfL wl wb me oa oo).toArray 212)).alloc (.cells (usL (unewS wl wb me oa oo)).toArray 215)) (w2.alloc (.cells (ucfL wl wb me oa oo).toArray 212)).heap.size (unewS wl wb me oa oo) := IsB.new (w2.alloc (.cells (ucfL wl wb me oa oo).toArray 212)) _ _
 rw [World.size_alloc] at F0
 replace F0 := hide F0
 have hsz := hide B.out.size
 replace B := hide (B.out.trans (bU.mono B.out.size))
 clear bS bU CB
 go_wp2_with (first | (focus ((with_reducible refine wpList_load_w ?_ 27 (.tmp 8) ?_ ?_ LW.out ?_); rotate_left; rfl; rfl; rotate_left; rfl)) | (focus ((with_reducible refine wpList_load_w ?_ 29 (.tmp 10) ?_ ?_ LM.out ?_); rotate_left; rfl; rfl; rotate_left; rfl)) | (focus ((with_reducible refine wpList_load_w ?_ 31 (.tmp 12) ?_ ?_ LO.out ?_); rotate_left; rfl; rfl; rotate_left; rfl)) | (focus ((with_reducible refine wpList_store_w ?_ 212 (.tmp 4) (.tmp 14) ?_ ?_ ?_ SS.out ?_); rotate_left; rfl; rfl; rfl; rotate_left; rfl)) | (focus ((with_reducible refine wpList_load_w ?_ 212 (.tmp 4) ?_ ?_ LS.out ?_); rotate_left; rfl; rfl; rotate_left; rfl)))
 refine bodyPost_ret (results_tmp2 Tryz.results114 _ _ _) rfl ?_
 exact ⟨w2.heap.size + 1, rfl, F0.out, by have := hsz.out; omega, B.out⟩

end Go.Proofs.YtokehogcenjefaaGreatDoor
