/- may, New; the document's Head, At. -/
import Derived.Test.YtokehogcenjefaaGreatDoorSH
namespace Go.Proofs.YtokehogcenjefaaGreatDoor
open Go.RowKit Go.Maps Go.ChangeMaps

/-- A search's settings. -/
def cfL (h : Int) (s : Rf) (tr tn : Int) : List Value := [.int .i64 h, .int .i64 s.id, .int .i64 s.rk, .int .u64 s.kn, .int .i64 s.ln, .int .u64 s.bt, .int .i64 tr, .int .u64 tn]
section
variable {w : World} {b : Nat} {h : Int} {s : Rf} {tr tn : Int} (I : IsB w b (cfL h s tr tn).toArray 94)
include I
theorem ld_conf : (Instr.loadAt 94 (.pointer (some ⟨b, 0, none⟩))).run Tryz.prog w = .ok (.agg (cfL h s tr tn).toArray) w := load_mid I 0 _ (cfL h s tr tn) _ rfl Tryz.underlying94 rfl (by kernel_rfl)
theorem ld_cs : (Instr.loadAt 29 (.pointer (some ⟨b, 1, none⟩))).run Tryz.prog w = .ok (.agg s.cells) w := load_mid I 1 _ s.cs _ rfl Tryz.underlying29 rfl (by kernel_rfl)
theorem ld_csk : (Instr.loadAt 25 (.pointer (some ⟨b, 2, none⟩))).run Tryz.prog w = .ok (.agg #[.int .i64 (s.rk), .int .u64 (s.kn)]) w := load_mid I 2 _ [.int .i64 s.rk, .int .u64 s.kn] _ rfl Tryz.underlying25 rfl (by kernel_rfl)
theorem ld_csv : (Instr.loadAt 27 (.pointer (some ⟨b, 4, none⟩))).run Tryz.prog w = .ok (.agg #[.int .i64 (s.ln), .int .u64 (s.bt)]) w := load_mid I 4 _ [.int .i64 s.ln, .int .u64 s.bt] _ rfl Tryz.underlying27 rfl (by kernel_rfl)
theorem ld_ct : (Instr.loadAt 25 (.pointer (some ⟨b, 6, none⟩))).run Tryz.prog w = .ok (.agg #[.int .i64 (tr), .int .u64 (tn)]) w := load_mid I 6 _ [.int .i64 tr, .int .u64 tn] _ rfl Tryz.underlying25 rfl (by kernel_rfl)
end
/-- May settings be? -/
def mayC (h : Int) (s : Rf) (tr tn : Int) : Bool := rt s.ln s.bt && (s.ln == h && (decide (ckE s.rk s.kn = 0) && (decide (ckE tr tn = 0) && !(tr == 1))))

set_option maxHeartbeats 2000000 in
set_option maxRecDepth 100000 in
theorem may_any (h : Int) (s : Rf) (tr tn : Int) (hb0 : 0 ≤ s.bt) (w : World) (hR : Ranks w) : Calls Tryz.prog 86 #[.agg (cfL h s tr tn).toArray] w fun e w' => e = .returned (.bool (mayC h s tr tn)) ∧ Below w.heap.size w w' := by
 have b1 := (Below.refl w.heap.size w).alloc (Nat.le_refl _) (.cells (cfL h s tr tn).toArray 94)
 have CB := hide (IsB.new w (cfL h s tr tn).toArray 94)
 have HR := hide (hR.below b1)
 have B := hide b1
 generalize hE : mayC h s tr tn = E
 unfold mayC at hE
 clear b1 hR
 have L1 := hide (ld_csv CB.out)
 go_enter Tryz.func86, Tryz.ntmps86
 go_wp2_with (first | (focus ((with_reducible refine wpList_load_w ?_ 27 (.tmp 4) ?_ ?_ L1.out ?_); rotate_left; rfl; rfl; rotate_left; rfl)))
 generalize (w.alloc (.cells (cfL h s tr tn).toArray 94)) = W1 at *
 refine (vright_any s.ln s.bt hb0 W1).mono ?_
 rintro e w2 ⟨rfl, hb⟩
 replace CB := hide (CB.out.below hb)
 replace HR := hide (HR.out.below hb)
 replace B := hide (B.out.trans (hb.mono B.out.size))
 clear hb L1
 by_cases h1 : rt s.ln s.bt = true
 rotate_left
 · rw [reS_no (by simpa using h1)]
   have E0 : Hid (E = false) := hide (by rw [← hE]; simp [h1])
   clear hE h1
   go_wp2
   go_ret
   exact ⟨by rw [E0.out]; rfl, B.out⟩
 rw [reS_yes h1]
 rw [h1, Bool.true_and] at hE
 replace h1 := hide h1
 have y4 : w2.cell? ⟨w.heap.size, 4, none⟩ = some (.int .i64 s.ln) := CB.out.cell 4
 have y0 : w2.cell? ⟨w.heap.size, 0, none⟩ = some (.int .i64 h) := CB.out.cell 0
 by_cases h2 : s.ln = h
 rotate_left
 · have e2 : (s.ln == h) = false := by simpa using h2
   have E0 : Hid (E = false) := by rw [← hE, e2]; rfl
   clear hE
   go_wp2
   go_ret
   exact ⟨by rw [E0.out]; rfl, B.out⟩
 have e2 : (s.ln == h) = true := by simpa using h2
 rw [e2, Bool.true_and] at hE
 rw [h2] at y4
 have L2 := hide (ld_csk CB.out)
 clear h2 e2
 go_wp2_with (first | (focus ((with_reducible refine wpList_load_w ?_ 25 (.tmp 19) ?_ ?_ L2.out ?_); rotate_left; rfl; rfl; rotate_left; rfl)))
 refine (kCheck_any s.rk s.kn w2 HR.out).mono ?_
 rintro e w3 ⟨rfl, hg⟩
 have hb := hg.below
 replace CB := hide (CB.out.below hb)
 replace HR := hide (HR.out.below hb)
 replace B := hide (B.out.trans (hb.mono B.out.size))
 clear hb hg L2 y4 y0
 rcases ck_cases s.rk s.kn with ⟨h3, -⟩ | ⟨h3, -⟩
 · rw [h3]
   have E0 : Hid (E = false) := by rw [← hE, h3]; rfl
   clear hE h3
   go_wp2
   go_ret
   exact ⟨by rw [E0.out]; rfl, B.out⟩
 rw [h3]
 rw [h3] at hE
 simp only [decide_true, Bool.true_and] at hE
 replace h3 := hide h3
 have L3 := hide (ld_ct CB.out)
 go_wp2_with (first | (focus ((with_reducible refine wpList_load_w ?_ 25 (.tmp 25) ?_ ?_ L3.out ?_); rotate_left; rfl; rfl; rotate_left; rfl)))
 refine (kCheck_any tr tn w3 HR.out).mono ?_
 rintro e w4 ⟨rfl, hg⟩
 have hb := hg.below
 replace CB := hide (CB.out.below hb)
 replace HR := hide (HR.out.below hb)
 replace B := hide (B.out.trans (hb.mono B.out.size))
 clear hb hg L3
 rcases ck_cases tr tn with ⟨h4, -⟩ | ⟨h4, -⟩
 · rw [h4]
   have E0 : Hid (E = false) := by rw [← hE, h4]; rfl
   clear hE h4
   go_wp2
   go_ret
   exact ⟨by rw [E0.out]; rfl, B.out⟩
 rw [h4]
 rw [h4] at hE
 simp only [decide_true, Bool.true_and] at hE
 replace h4 := hide h4
 have y6 : w4.cell? ⟨w.heap.size, 6, none⟩ = some (.int .i64 tr) := CB.out.cell 6
 by_cases h5 : tr = 1
 · rw [h5] at y6
   have E0 : Hid (E = false) := by rw [← hE, h5]; rfl
   clear hE
   go_wp2
   go_ret
   exact ⟨by rw [E0.out]; rfl, B.out⟩
 have e5 : (tr == 1) = false := by simpa using h5
 have e6 : (tr != 1) = true := by simpa using h5
 have E0 : Hid (E = true) := by rw [← hE, e5]; rfl
 clear hE
 go_wp2
 go_ret
 exact ⟨by rw [E0.out]; rfl, B.out⟩

/-- A new search. -/
def newS (h : Int) (s : Rf) (tr tn : Int) : Sk := ⟨⟨0, 1, 0, h, 0⟩, tr, tn, s, s.ln, s.bt, zr, false, 0, false, 0, zr, zr, false⟩
theorem newS_ok {h : Int} {s : Rf} {tr tn : Int} (hm : mayC h s tr tn = true) (hb : 0 ≤ s.bt) (hi : (Lit.int .i64 s.id).wf = true) : SOk (newS h s tr tn) [] := by
 unfold mayC at hm
 simp only [Bool.and_eq_true, beq_iff_eq] at hm
 obtain ⟨h1, h2, -⟩ := hm
 have h3 := of_decide_eq_true h1
 refine ⟨Int.le_refl 0, by show (0 : Int) ≤ 64; decide, h1, hb, ?_, Int.le_refl 0, zr_wf, hi, zr_wf, zr_wf, by simp⟩
 show rt h 0 = true
 rw [← h2]
 have h4 : (0 : Int) < 2 ^ s.ln.toNat := Int.pow_pos (by decide)
 exact decide_eq_true ⟨h3.1, h3.2.1, h4⟩

set_option maxHeartbeats 2000000 in
set_option maxRecDepth 100000 in
theorem new_bad (h : Int) (s : Rf) (tr tn : Int) (hb0 : 0 ≤ s.bt) (hm : mayC h s tr tn = false) (w : World) (hR : Ranks w) : Calls Tryz.prog 49 #[.agg (cfL h s tr tn).toArray] w fun e w' => e = .returned (.tuple #[.pointer none, .int .i64 120]) ∧ Below w.heap.size w w' := by
 have b1 := (Below.refl w.heap.size w).alloc (Nat.le_refl _) (.cells (cfL h s tr tn).toArray 94)
 have L1 := hide (ld_conf (IsB.new w (cfL h s tr tn).toArray 94))
 have MY := hide (may_any h s tr tn hb0 _ (hR.below b1))
 have B := hide b1
 rw [hm] at MY
 clear b1 hR hm
 go_enter Tryz.func49, Tryz.ntmps49
 go_wp2_with (first | (focus ((with_reducible refine wpList_load_w ?_ 94 (.tmp 1) ?_ ?_ L1.out ?_); rotate_left; rfl; rfl; rotate_left; rfl)))
 refine MY.out.mono ?_
 rintro e w2 ⟨rfl, hb⟩
 replace B := hide (B.out.trans (hb.mono B.out.size))
 clear hb MY L1
 go_wp2
 refine bodyPost_ret (results_tmp2 Tryz.results49 _ _ _) rfl ?_
 exact ⟨rfl, B.out⟩

set_option maxHeartbeats 2000000 in
set_option maxRecDepth 100000 in
theorem new_ok (h : Int) (s : Rf) (tr tn : Int) (hb0 : 0 ≤ s.bt) (hm : mayC h s tr tn = true) (w : World) (hR : Ranks w) : Calls Tryz.prog 49 #[.agg (cfL h s tr tn).toArray] w fun e w' => ∃ b m, e = .returned (.tuple #[.pointer (some ⟨b, 0, none⟩), .int .i64 0]) ∧ SkAt w' b m (newS h s tr tn) [] ∧ w.heap.size ≤ b ∧ w.heap.size ≤ m ∧ Below w.heap.size w w' := by
 have b1 := (Below.refl w.heap.size w).alloc (Nat.le_refl _) (.cells (cfL h s tr tn).toArray 94)
 have CB := hide (IsB.new w (cfL h s tr tn).toArray 94)
 have L1 := hide (ld_conf CB.out)
 have MY := hide (may_any h s tr tn hb0 _ (hR.below b1))
 have B := hide b1
 rw [hm] at MY
 clear b1 hR hm
 go_enter Tryz.func49, Tryz.ntmps49
 go_wp2_with (first | (focus ((with_reducible refine wpList_load_w ?_ 94 (.tmp 1) ?_ ?_ L1.out ?_); rotate_left; rfl; rfl; rotate_left; rfl)))
 refine MY.out.mono ?_
 rintro e w2 ⟨rfl, hb⟩
 replace CB := hide (CB.out.below hb)
 replace B := hide (B.out.trans (hb.mono B.out.size))
 clear hb MY L1
 have L2 : Hid ((Instr.loadAt 29 (.pointer (some ⟨w.heap.size, 1, none⟩))).run Tryz.prog w2 = .ok (.agg #[.int .i64 s.id, .int .i64 s.rk, .int .u64 s.kn, .int .i64 s.ln, .int .u64 s.bt]) w2) := ld_cs CB.out
 have L3 := hide (ld_ct CB.out)
 have L4 := hide (ld_csv CB.out)
 have y0 : w2.cell? ⟨w.heap.size, 0, none⟩ = some (.int .i64 h) := CB.out.cell 0
 have bM := (Below.refl w2.heap.size w2).alloc (Nat.le_refl _) (.map #[] 0)
 have M0 := PMp.made w2
 have bS := (Below.refl (w2.alloc (.map #[] 0)).heap.size (w2.alloc (.map #[] 0))).alloc (Nat.le_refl _) (.cells (skL (newS h s tr tn) (.map (some w2.heap.size))).toArray 171)
 have I0 := IsB.new (w2.alloc (.map #[] 0)) (skL (newS h s tr tn) (.map (some w2.heap.size))).toArray 171
 have F0 : Hid (SkAt ((w2.alloc (.map #[] 0)).alloc (.cells (skL (newS h s tr tn) (.map (some w2.heap.size))).toArray 171)) (w2.heap.size + 1) w2.heap.size (newS h s tr tn) []) := ⟨by rw [World.size_alloc] at I0; exact I0, M0.below bS⟩
 have B9 : Hid (Below w.heap.size w ((w2.alloc (.map #[] 0)).alloc (.cells (skL (newS h s tr tn) (.map (some w2.heap.size))).toArray 171))) := (B.out.trans (bM.mono B.out.size)).trans (bS.mono (by have := B.out.size; simp; omega))
 have MM : (Instr.makeMap 169 none).run Tryz.prog w2 = .ok (.map (some w2.heap.size)) (w2.alloc (.map #[] 0)) := by kernel_rfl
 have hsz := hide B.out.size
 clear bM M0 bS I0 B
 go_wp2_with (first | (focus ((with_reducible refine wpList_load_w ?_ 25 (.tmp 12) ?_ ?_ L3.out ?_); rotate_left; rfl; rfl; rotate_left; rfl)) | (focus ((with_reducible refine wpList_load_w ?_ 29 (.tmp 14) ?_ ?_ L2.out ?_); rotate_left; rfl; rfl; rotate_left; rfl)) | (focus ((with_reducible refine wpList_load_w ?_ 27 (.tmp 17) ?_ ?_ L4.out ?_); rotate_left; rfl; rfl; rotate_left; rfl)))
 refine bodyPost_ret (results_tmp2 Tryz.results49 _ _ _) rfl ?_
 exact ⟨w2.heap.size + 1, w2.heap.size, rfl, F0.out, by have := hsz.out; omega, hsz.out, B9.out⟩

theorem key_info : (Tryz.prog.info? 25).map (·.size) = some 2 := by kernel_rfl
theorem ret_key {fn : Func} {p : Tmp} (hf : fn.results = #[.cell p 25]) {Q : Ending → World → Prop} {tmps : Array Value} {w : World} {b : Nat} {cs : Array Value} (hs : cs.size = 2)
   (hp : tmps.getD p undef = .pointer (some ⟨b, 0, none⟩)) (I : IsB w b cs 25) (hQ : Q (.returned (.agg cs)) w) :
   bodyPost Tryz.prog fn Q .ret ⟨tmps, []⟩ w :=
 bodyPost_ret (results_cell_row hf tmps w b 25 cs (0, 0) _ hp I Tryz.underlying25 rfl (by rw [hs]; exact key_info)) rfl hQ
theorem ret_ref {fn : Func} {p : Tmp} (hf : fn.results = #[.cell p 29]) {Q : Ending → World → Prop} {tmps : Array Value} {w : World} {b : Nat} {cs : Array Value} (hs : cs.size = 5)
   (hp : tmps.getD p undef = .pointer (some ⟨b, 0, none⟩)) (I : IsB w b cs 29) (hQ : Q (.returned (.agg cs)) w) :
   bodyPost Tryz.prog fn Q .ret ⟨tmps, []⟩ w :=
 bodyPost_ret (results_cell_row hf tmps w b 29 cs (0, 0) _ hp I Tryz.underlying29 rfl (by rw [hs]; exact ref_info)) rfl hQ

set_option maxHeartbeats 2000000 in
set_option maxRecDepth 100000 in
theorem at2_any (n : Int) (w : World) : Calls Tryz.prog 19 #[.int .u64 n] w fun e w' => e = .returned (.agg #[.int .i64 (2), .int .u64 (n)]) ∧ Below w.heap.size w w' := by
 have B := hide ((Below.refl w.heap.size w).alloc (Nat.le_refl _) (.cells #[.int .i64 2, .int .u64 n] 25))
 have I := hide (IsB.new w #[.int .i64 2, .int .u64 n] 25)
 go_enter Tryz.func19, Tryz.ntmps19
 go_wp2
 refine ret_key (p := 2) (b := w.heap.size) Tryz.results19 rfl rfl I.out ?_
 exact ⟨rfl, B.out⟩

set_option maxHeartbeats 2000000 in
set_option maxRecDepth 100000 in
theorem head_any (n : Int) (w : World) : Calls Tryz.prog 23 #[.int .i64 n] w fun e w' => e = .returned (.agg #[.int .i64 0, .int .i64 1, .int .u64 0, .int .i64 n, .int .u64 0]) ∧ Below w.heap.size w w' := by
 have B := hide ((Below.refl w.heap.size w).alloc (Nat.le_refl _) (.cells #[.int .i64 0, .int .i64 1, .int .u64 0, .int .i64 n, .int .u64 0] 29))
 have I := hide (IsB.new w #[.int .i64 0, .int .i64 1, .int .u64 0, .int .i64 n, .int .u64 0] 29)
 go_enter Tryz.func23, Tryz.ntmps23
 go_wp2
 refine ret_ref (p := 2) (b := w.heap.size) Tryz.results23 rfl rfl I.out ?_
 exact ⟨rfl, B.out⟩

set_option maxHeartbeats 2000000 in
set_option maxRecDepth 100000 in
theorem tail_any (n : Int) (w : World) : Calls Tryz.prog 24 #[.int .i64 n] w fun e w' => e = .returned (.agg #[.int .i64 1, .int .i64 3, .int .u64 0, .int .i64 n, .int .u64 0]) ∧ Below w.heap.size w w' := by
 have B := hide ((Below.refl w.heap.size w).alloc (Nat.le_refl _) (.cells #[.int .i64 1, .int .i64 3, .int .u64 0, .int .i64 n, .int .u64 0] 29))
 have I := hide (IsB.new w #[.int .i64 1, .int .i64 3, .int .u64 0, .int .i64 n, .int .u64 0] 29)
 go_enter Tryz.func24, Tryz.ntmps24
 go_wp2
 refine ret_ref (p := 2) (b := w.heap.size) Tryz.results24 rfl rfl I.out ?_
 exact ⟨rfl, B.out⟩



end Go.Proofs.YtokehogcenjefaaGreatDoor
