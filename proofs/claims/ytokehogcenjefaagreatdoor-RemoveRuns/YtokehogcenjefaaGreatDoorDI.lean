/- The document's Right, New. -/
import Derived.Test.YtokehogcenjefaaGreatDoorDF
namespace Go.Proofs.YtokehogcenjefaaGreatDoor
open Go.RowKit Go.Maps Go.ChangeMaps

/-- May a reference be, in lists of a height? -/
def rhB (r : Rf) (h : Int) : Bool := decide (ckE r.rk r.kn = 0) && (rt r.ln r.bt && r.ln == h)
theorem ld_rvec {w : World} {b : Nat} {r : Rf} (I : IsB w b r.cells 29) : (Instr.loadAt 27 (.pointer (some ⟨b, 3, none⟩))).run Tryz.prog w = .ok (.agg #[.int .i64 (r.ln), .int .u64 (r.bt)]) w := load_mid (cs := r.cs) I 3 _ [.int .i64 r.ln, .int .u64 r.bt] _ rfl Tryz.underlying27 rfl (by kernel_rfl)

set_option maxHeartbeats 2000000 in
set_option maxRecDepth 100000 in
theorem rR_1 (r : Rf) (h : Int) (hc : ckE r.rk r.kn = 20) (w : World) : Calls Tryz.prog 50 #[.agg r.cells, .int .i64 h] w fun e w' => e = .returned (.bool false) ∧ Below w.heap.size w w' := by
 have b1 := (Below.refl w.heap.size w).alloc (Nat.le_refl _) (.cells r.cells 29)
 have RB := hide (IsB.new w r.cells 29)
 have B := hide b1
 clear b1
 have L1 := hide (ld_key RB.out)
 go_enter Tryz.func50, Tryz.ntmps50
 go_wp2_with (first | (focus ((with_reducible refine wpList_load_w ?_ 25 (.tmp 5) ?_ ?_ L1.out ?_); rotate_left; rfl; rfl; rotate_left; rfl)))
 generalize (w.alloc (.cells r.cells 29)) = W1 at *
 skip
 skip
 skip
 refine (rCheck_any r.rk r.kn W1).mono ?_
 rintro e w1 ⟨rfl, hg⟩
 have hb := hg.below
 clear hg L1
 replace RB := hide (RB.out.below hb)
 replace B := hide (B.out.trans (hb.mono B.out.size))
 clear hb
 rw [hc]
 clear hc
 go_wp2
 refine bodyPost_ret (results_tmp Tryz.results50 _ _ _) rfl ?_
 exact ⟨rfl, B.out⟩

set_option maxHeartbeats 2000000 in
set_option maxRecDepth 100000 in
theorem rR_2 (r : Rf) (h : Int) (hc : ckE r.rk r.kn = 0) (hr : rt r.ln r.bt = false) (w : World) : Calls Tryz.prog 50 #[.agg r.cells, .int .i64 h] w fun e w' => e = .returned (.bool false) ∧ Below w.heap.size w w' := by
 have b1 := (Below.refl w.heap.size w).alloc (Nat.le_refl _) (.cells r.cells 29)
 have RB := hide (IsB.new w r.cells 29)
 have B := hide b1
 clear b1
 have L1 := hide (ld_key RB.out)
 go_enter Tryz.func50, Tryz.ntmps50
 go_wp2_with (first | (focus ((with_reducible refine wpList_load_w ?_ 25 (.tmp 5) ?_ ?_ L1.out ?_); rotate_left; rfl; rfl; rotate_left; rfl)))
 generalize (w.alloc (.cells r.cells 29)) = W1 at *
 skip
 skip
 skip
 refine (rCheck_any r.rk r.kn W1).mono ?_
 rintro e w1 ⟨rfl, hg⟩
 have hb := hg.below
 clear hg L1
 replace RB := hide (RB.out.below hb)
 replace B := hide (B.out.trans (hb.mono B.out.size))
 clear hb
 rw [hc]
 clear hc
 have L2 := hide (ld_rvec RB.out)
 go_wp2_with (first | (focus ((with_reducible refine wpList_load_w ?_ 27 (.tmp 10) ?_ ?_ L2.out ?_); rotate_left; rfl; rfl; rotate_left; rfl)))
 refine (rright_any r.ln r.bt w1).mono ?_
 rintro e w2 ⟨rfl, hb⟩
 replace RB := hide (RB.out.below hb)
 replace B := hide (B.out.trans (hb.mono B.out.size))
 clear hb
 clear L2
 rw [hr]
 clear hr
 go_wp2
 refine bodyPost_ret (results_tmp Tryz.results50 _ _ _) rfl ?_
 exact ⟨rfl, B.out⟩

set_option maxHeartbeats 2000000 in
set_option maxRecDepth 100000 in
theorem rR_3 (r : Rf) (h : Int) (hc : ckE r.rk r.kn = 0) (hr : rt r.ln r.bt = true) (w : World) : Calls Tryz.prog 50 #[.agg r.cells, .int .i64 h] w fun e w' => e = .returned (.bool (r.ln == h)) ∧ Below w.heap.size w w' := by
 have b1 := (Below.refl w.heap.size w).alloc (Nat.le_refl _) (.cells r.cells 29)
 have RB := hide (IsB.new w r.cells 29)
 have B := hide b1
 clear b1
 have L1 := hide (ld_key RB.out)
 go_enter Tryz.func50, Tryz.ntmps50
 go_wp2_with (first | (focus ((with_reducible refine wpList_load_w ?_ 25 (.tmp 5) ?_ ?_ L1.out ?_); rotate_left; rfl; rfl; rotate_left; rfl)))
 generalize (w.alloc (.cells r.cells 29)) = W1 at *
 skip
 skip
 skip
 refine (rCheck_any r.rk r.kn W1).mono ?_
 rintro e w1 ⟨rfl, hg⟩
 have hb := hg.below
 clear hg L1
 replace RB := hide (RB.out.below hb)
 replace B := hide (B.out.trans (hb.mono B.out.size))
 clear hb
 rw [hc]
 clear hc
 have L2 := hide (ld_rvec RB.out)
 go_wp2_with (first | (focus ((with_reducible refine wpList_load_w ?_ 27 (.tmp 10) ?_ ?_ L2.out ?_); rotate_left; rfl; rfl; rotate_left; rfl)))
 refine (rright_any r.ln r.bt w1).mono ?_
 rintro e w2 ⟨rfl, hb⟩
 replace RB := hide (RB.out.below hb)
 replace B := hide (B.out.trans (hb.mono B.out.size))
 clear hb
 clear L2
 rw [hr]
 clear hr
 have y3 : w2.cell? ⟨w.heap.size, 3, none⟩ = some (.int .i64 r.ln) := RB.out.cell 3
 go_wp2
 refine bodyPost_ret (results_tmp Tryz.results50 _ _ _) rfl ?_
 exact ⟨rfl, B.out⟩

theorem rR_any (r : Rf) (h : Int) (w : World) : Calls Tryz.prog 50 #[.agg r.cells, .int .i64 h] w fun e w' => e = .returned (.bool (rhB r h)) ∧ Below w.heap.size w w' := by
 unfold rhB
 rcases ck_cases r.rk r.kn with ⟨hc, -⟩ | ⟨hc, -⟩
 · rw [show decide (ckE r.rk r.kn = 0) = false by rw [hc]; rfl, Bool.false_and]; exact rR_1 r h hc w
 · rw [show decide (ckE r.rk r.kn = 0) = true by rw [hc]; rfl, Bool.true_and]
   cases hr : rt r.ln r.bt with
   | false => rw [Bool.false_and]; exact rR_2 r h hc hr w
   | true => rw [Bool.true_and]; exact rR_3 r h hc hr w

set_option maxHeartbeats 2000000 in
set_option maxRecDepth 100000 in
theorem dnew_1 (h : Int) (s : Rf) (tr tn : Int) (h1 : h < 0) (w : World) : Calls Tryz.prog 27 #[.agg (cfL h s tr tn).toArray] w fun e w' => e = .returned (.tuple #[.pointer none, .int .i64 120]) ∧ Below w.heap.size w w' := by
 have b1 := (Below.refl w.heap.size w).alloc (Nat.le_refl _) (.cells (cfL h s tr tn).toArray 94)
 have CB := hide (IsB.new w (cfL h s tr tn).toArray 94)
 have B := hide b1
 clear b1
 have y0 : (w.alloc (.cells (cfL h s tr tn).toArray 94)).cell? ⟨w.heap.size, 0, none⟩ = some (.int .i64 h) := CB.out.cell 0
 have d1 : decide (h < 0) = true := decide_eq_true h1
 clear h1
 go_enter Tryz.func27, Tryz.ntmps27
 go_wp2
 refine bodyPost_ret (results_tmp2 Tryz.results27 _ _ _) rfl ?_
 exact ⟨rfl, B.out⟩

set_option maxHeartbeats 2000000 in
set_option maxRecDepth 100000 in
theorem dnew_2 (h : Int) (s : Rf) (tr tn : Int) (h1 : ¬h < 0) (h2 : 32 < h) (w : World) : Calls Tryz.prog 27 #[.agg (cfL h s tr tn).toArray] w fun e w' => e = .returned (.tuple #[.pointer none, .int .i64 120]) ∧ Below w.heap.size w w' := by
 have b1 := (Below.refl w.heap.size w).alloc (Nat.le_refl _) (.cells (cfL h s tr tn).toArray 94)
 have CB := hide (IsB.new w (cfL h s tr tn).toArray 94)
 have B := hide b1
 clear b1
 have y0 : (w.alloc (.cells (cfL h s tr tn).toArray 94)).cell? ⟨w.heap.size, 0, none⟩ = some (.int .i64 h) := CB.out.cell 0
 have d1 : decide (h < 0) = false := decide_eq_false h1
 have d2 : decide (h > 32) = true := decide_eq_true h2
 have d3 : decide (32 < h) = true := decide_eq_true h2
 clear h1 h2
 go_enter Tryz.func27, Tryz.ntmps27
 go_wp2
 refine bodyPost_ret (results_tmp2 Tryz.results27 _ _ _) rfl ?_
 exact ⟨rfl, B.out⟩

set_option maxHeartbeats 2000000 in
set_option maxRecDepth 100000 in
theorem dnew_3 (h : Int) (s : Rf) (tr tn : Int) (h1 : ¬h < 0) (h2 : ¬32 < h) (h3 : rhB s h = false) (w : World) : Calls Tryz.prog 27 #[.agg (cfL h s tr tn).toArray] w fun e w' => e = .returned (.tuple #[.pointer none, .int .i64 120]) ∧ Below w.heap.size w w' := by
 have b1 := (Below.refl w.heap.size w).alloc (Nat.le_refl _) (.cells (cfL h s tr tn).toArray 94)
 have CB := hide (IsB.new w (cfL h s tr tn).toArray 94)
 have B := hide b1
 clear b1
 have y0 : (w.alloc (.cells (cfL h s tr tn).toArray 94)).cell? ⟨w.heap.size, 0, none⟩ = some (.int .i64 h) := CB.out.cell 0
 have d1 : decide (h < 0) = false := decide_eq_false h1
 have d2 : decide (h > 32) = false := decide_eq_false h2
 have d3 : decide (32 < h) = false := decide_eq_false h2
 have L1 := hide (ld_cs CB.out)
 clear h1 h2
 go_enter Tryz.func27, Tryz.ntmps27
 go_wp2_with (first | (focus ((with_reducible refine wpList_load_w ?_ 29 (.tmp 13) ?_ ?_ L1.out ?_); rotate_left; rfl; rfl; rotate_left; rfl)))
 generalize (w.alloc (.cells (cfL h s tr tn).toArray 94)) = W1 at *
 refine (rR_any s h W1).mono ?_
 rintro e w1 ⟨rfl, hb⟩
 replace CB := hide (CB.out.below hb)
 replace B := hide (B.out.trans (hb.mono B.out.size))
 clear hb
 clear L1 y0 d1 d2 d3
 rw [h3]
 clear h3
 go_wp2
 refine bodyPost_ret (results_tmp2 Tryz.results27 _ _ _) rfl ?_
 exact ⟨rfl, B.out⟩

set_option maxHeartbeats 2000000 in
set_option maxRecDepth 100000 in
theorem dnew_4 (h : Int) (s : Rf) (tr tn : Int) (h1 : ¬h < 0) (h2 : ¬32 < h) (h3 : rhB s h = true) (h4 : ckE tr tn = 20) (w : World) : Calls Tryz.prog 27 #[.agg (cfL h s tr tn).toArray] w fun e w' => e = .returned (.tuple #[.pointer none, .int .i64 120]) ∧ Below w.heap.size w w' := by
 have b1 := (Below.refl w.heap.size w).alloc (Nat.le_refl _) (.cells (cfL h s tr tn).toArray 94)
 have CB := hide (IsB.new w (cfL h s tr tn).toArray 94)
 have B := hide b1
 clear b1
 have y0 : (w.alloc (.cells (cfL h s tr tn).toArray 94)).cell? ⟨w.heap.size, 0, none⟩ = some (.int .i64 h) := CB.out.cell 0
 have d1 : decide (h < 0) = false := decide_eq_false h1
 have d2 : decide (h > 32) = false := decide_eq_false h2
 have d3 : decide (32 < h) = false := decide_eq_false h2
 have L1 := hide (ld_cs CB.out)
 clear h1 h2
 go_enter Tryz.func27, Tryz.ntmps27
 go_wp2_with (first | (focus ((with_reducible refine wpList_load_w ?_ 29 (.tmp 13) ?_ ?_ L1.out ?_); rotate_left; rfl; rfl; rotate_left; rfl)))
 generalize (w.alloc (.cells (cfL h s tr tn).toArray 94)) = W1 at *
 refine (rR_any s h W1).mono ?_
 rintro e w1 ⟨rfl, hb⟩
 replace CB := hide (CB.out.below hb)
 replace B := hide (B.out.trans (hb.mono B.out.size))
 clear hb
 clear L1 y0 d1 d2 d3
 rw [h3]
 clear h3
 have L2 := hide (ld_ct CB.out)
 go_wp2_with (first | (focus ((with_reducible refine wpList_load_w ?_ 25 (.tmp 21) ?_ ?_ L2.out ?_); rotate_left; rfl; rfl; rotate_left; rfl)))
 refine (rCheck_any tr tn w1).mono ?_
 rintro e w2 ⟨rfl, hg⟩
 have hb := hg.below
 clear hg
 replace CB := hide (CB.out.below hb)
 replace B := hide (B.out.trans (hb.mono B.out.size))
 clear hb
 clear L2
 rw [h4]
 clear h4
 go_wp2
 refine bodyPost_ret (results_tmp2 Tryz.results27 _ _ _) rfl ?_
 exact ⟨rfl, B.out⟩

set_option maxHeartbeats 2000000 in
set_option maxRecDepth 100000 in
theorem dnew_5 (h : Int) (s : Rf) (tr tn : Int) (h1 : ¬h < 0) (h2 : ¬32 < h) (h3 : rhB s h = true) (h4 : ckE tr tn = 0) (h5 : tr = 1) (w : World) : Calls Tryz.prog 27 #[.agg (cfL h s tr tn).toArray] w fun e w' => e = .returned (.tuple #[.pointer none, .int .i64 120]) ∧ Below w.heap.size w w' := by
 replace h5 := hide h5
 have b1 := (Below.refl w.heap.size w).alloc (Nat.le_refl _) (.cells (cfL h s tr tn).toArray 94)
 have CB := hide (IsB.new w (cfL h s tr tn).toArray 94)
 have B := hide b1
 clear b1
 have y0 : (w.alloc (.cells (cfL h s tr tn).toArray 94)).cell? ⟨w.heap.size, 0, none⟩ = some (.int .i64 h) := CB.out.cell 0
 have d1 : decide (h < 0) = false := decide_eq_false h1
 have d2 : decide (h > 32) = false := decide_eq_false h2
 have d3 : decide (32 < h) = false := decide_eq_false h2
 have L1 := hide (ld_cs CB.out)
 clear h1 h2
 go_enter Tryz.func27, Tryz.ntmps27
 go_wp2_with (first | (focus ((with_reducible refine wpList_load_w ?_ 29 (.tmp 13) ?_ ?_ L1.out ?_); rotate_left; rfl; rfl; rotate_left; rfl)))
 generalize (w.alloc (.cells (cfL h s tr tn).toArray 94)) = W1 at *
 refine (rR_any s h W1).mono ?_
 rintro e w1 ⟨rfl, hb⟩
 replace CB := hide (CB.out.below hb)
 replace B := hide (B.out.trans (hb.mono B.out.size))
 clear hb
 clear L1 y0 d1 d2 d3
 rw [h3]
 clear h3
 have L2 := hide (ld_ct CB.out)
 go_wp2_with (first | (focus ((with_reducible refine wpList_load_w ?_ 25 (.tmp 21) ?_ ?_ L2.out ?_); rotate_left; rfl; rfl; rotate_left; rfl)))
 refine (rCheck_any tr tn w1).mono ?_
 rintro e w2 ⟨rfl, hg⟩
 have hb := hg.below
 clear hg
 replace CB := hide (CB.out.below hb)
 replace B := hide (B.out.trans (hb.mono B.out.size))
 clear hb
 clear L2
 rw [h4]
 clear h4
 have y6 : w2.cell? ⟨w.heap.size, 6, none⟩ = some (.int .i64 tr) := CB.out.cell 6
 rw [h5.out] at y6
 go_wp2
 refine bodyPost_ret (results_tmp2 Tryz.results27 _ _ _) rfl ?_
 exact ⟨rfl, B.out⟩

set_option maxHeartbeats 2000000 in
set_option maxRecDepth 100000 in
theorem dnew_ok (h : Int) (s : Rf) (tr tn : Int) (h1 : ¬h < 0) (h2 : ¬32 < h) (h3 : rhB s h = true) (h4 : ckE tr tn = 0) (h5 : ¬tr = 1) (w : World) : Calls Tryz.prog 27 #[.agg (cfL h s tr tn).toArray] w fun e w' => ∃ d, e = .returned (.tuple #[.pointer (some ⟨d, 0, none⟩), .int .i64 0]) ∧ Dk w' d w.heap.size (newS h s tr tn) s [] ∧ Below w.heap.size w w' := by
 have b1 := (Below.refl w.heap.size w).alloc (Nat.le_refl _) (.cells (cfL h s tr tn).toArray 94)
 have CB := hide (IsB.new w (cfL h s tr tn).toArray 94)
 have B := hide b1
 clear b1
 have y0 : (w.alloc (.cells (cfL h s tr tn).toArray 94)).cell? ⟨w.heap.size, 0, none⟩ = some (.int .i64 h) := CB.out.cell 0
 have d1 : decide (h < 0) = false := decide_eq_false h1
 have d2 : decide (h > 32) = false := decide_eq_false h2
 have d3 : decide (32 < h) = false := decide_eq_false h2
 have L1 := hide (ld_cs CB.out)
 clear h1 h2
 go_enter Tryz.func27, Tryz.ntmps27
 go_wp2_with (first | (focus ((with_reducible refine wpList_load_w ?_ 29 (.tmp 13) ?_ ?_ L1.out ?_); rotate_left; rfl; rfl; rotate_left; rfl)))
 generalize (w.alloc (.cells (cfL h s tr tn).toArray 94)) = W1 at *
 refine (rR_any s h W1).mono ?_
 rintro e w1 ⟨rfl, hb⟩
 replace CB := hide (CB.out.below hb)
 replace B := hide (B.out.trans (hb.mono B.out.size))
 clear hb
 clear L1 y0 d1 d2 d3
 rw [h3]
 clear h3
 have L2 := hide (ld_ct CB.out)
 go_wp2_with (first | (focus ((with_reducible refine wpList_load_w ?_ 25 (.tmp 21) ?_ ?_ L2.out ?_); rotate_left; rfl; rfl; rotate_left; rfl)))
 refine (rCheck_any tr tn w1).mono ?_
 rintro e w2 ⟨rfl, hg⟩
 have hb := hg.below
 clear hg
 replace CB := hide (CB.out.below hb)
 replace B := hide (B.out.trans (hb.mono B.out.size))
 clear hb
 clear L2
 rw [h4]
 clear h4
 have y6 : w2.cell? ⟨w.heap.size, 6, none⟩ = some (.int .i64 tr) := CB.out.cell 6
 have d6 : (tr == 1) = false := by simpa using h5
 clear h5
 have L3 : Hid ((Instr.loadAt 94 (.pointer (some ⟨w.heap.size, 0, none⟩))).run Tryz.prog w2 = .ok (.agg #[.int .i64 h, .int .i64 s.id, .int .i64 s.rk, .int .u64 s.kn, .int .i64 s.ln, .int .u64 s.bt, .int .i64 tr, .int .u64 tn]) w2) := ld_conf CB.out
 have L4 : Hid ((Instr.loadAt 29 (.pointer (some ⟨w.heap.size, 1, none⟩))).run Tryz.prog w2 = .ok (.agg #[.int .i64 s.id, .int .i64 s.rk, .int .u64 s.kn, .int .i64 s.ln, .int .u64 s.bt]) w2) := ld_cs CB.out
 have L5 := hide (ld_csv CB.out)
 have bS := (Below.refl w2.heap.size w2).alloc (Nat.le_refl _) (.cells (dkL (newS h s tr tn) s zr (.slice none 0 0)).toArray 105)
 have I0 := IsB.new w2 (dkL (newS h s tr tn) s zr (.slice none 0 0)).toArray 105
 have hsz := B.out.size
 have F0 : Hid (Dk (w2.alloc (.cells (dkL (newS h s tr tn) s zr (.slice none 0 0)).toArray 105)) w2.heap.size w.heap.size (newS h s tr tn) s []) := ⟨zr, .slice none 0 0, fun c => Bool.noConfusion (show false = true from c), hsz, I0, ⟨rfl, Or.inl ⟨rfl, rfl⟩⟩, fun k hk => by cases hk⟩
 have B9 : Hid (Below w.heap.size w (w2.alloc (.cells (dkL (newS h s tr tn) s zr (.slice none 0 0)).toArray 105))) := B.out.trans (bS.mono hsz)
 clear bS I0 hsz B CB
 go_wp2_with (first | (focus ((with_reducible refine wpList_load_w ?_ 94 (.tmp 1) ?_ ?_ L3.out ?_); rotate_left; rfl; rfl; rotate_left; rfl)) | (focus ((with_reducible refine wpList_load_w ?_ 29 (.tmp 33) ?_ ?_ L4.out ?_); rotate_left; rfl; rfl; rotate_left; rfl)) | (focus ((with_reducible refine wpList_load_w ?_ 27 (.tmp 36) ?_ ?_ L5.out ?_); rotate_left; rfl; rfl; rotate_left; rfl)))
 refine bodyPost_ret (results_tmp2 Tryz.results27 _ _ _) rfl ?_
 exact ⟨w2.heap.size, rfl, F0.out, B9.out⟩

theorem dnew_bad (h : Int) (s : Rf) (tr tn : Int) (hm : mayC h s tr tn = false) (w : World) : Calls Tryz.prog 27 #[.agg (cfL h s tr tn).toArray] w fun e w' => e = .returned (.tuple #[.pointer none, .int .i64 120]) ∧ Below w.heap.size w w' := by
 by_cases h1 : h < 0
 · exact dnew_1 h s tr tn h1 w
 by_cases h2 : 32 < h
 · exact dnew_2 h s tr tn h1 h2 w
 cases h3 : rhB s h with
 | false => exact dnew_3 h s tr tn h1 h2 h3 w
 | true =>
   rcases ck_cases tr tn with ⟨h4, -⟩ | ⟨h4, -⟩
   · exact dnew_4 h s tr tn h1 h2 h3 h4 w
   · by_cases h5 : tr = 1
     · exact dnew_5 h s tr tn h1 h2 h3 h4 h5 w
     · exfalso
       unfold rhB at h3
       simp only [Bool.and_eq_true, decide_eq_true_eq] at h3
       unfold mayC at hm
       rw [h3.1, h3.2.1, h3.2.2, h4] at hm
       simp [h5] at hm
theorem mayC_all {h : Int} {s : Rf} {tr tn : Int} (hm : mayC h s tr tn = true) : ¬h < 0 ∧ ¬32 < h ∧ rhB s h = true ∧ ckE tr tn = 0 ∧ ¬tr = 1 := by
 unfold mayC at hm
 simp only [Bool.and_eq_true, decide_eq_true_eq, Bool.not_eq_true', beq_eq_false_iff_ne, ne_eq, beq_iff_eq] at hm
 obtain ⟨g1, g2, g3, g4, g5⟩ := hm
 have g6 := of_decide_eq_true g1
 refine ⟨by omega, by omega, ?_, g4, g5⟩
 unfold rhB
 rw [g1, g2, g3]
 simp

end Go.Proofs.YtokehogcenjefaaGreatDoor
