/- Answers in memory; beginAgain, keep, pass. -/
import Derived.Test.YtokehogcenjefaaGreatDoorSB
namespace Go.Proofs.YtokehogcenjefaaGreatDoor
open Go.RowKit Go.Maps Go.ChangeMaps

theorem exec_mapU {P : Program} {t : TypeId} {x y z : Operand} {oi : Oper} {ρ : Operand → Value} {X Y Z : Value} {w w' : World} (hop : oi.op = Op.mapUpdate t x y z) (hx : ρ x = X) (hy : ρ y = Y) (hz : ρ z = Z) (hl : (Instr.mapUpdate t X Y Z).run P w = .ok () w') : (execOp ρ oi).run P w = .ok .skip w' := by
 simp [execOp, hop, hx, hy, hz, hl, Result.andThen]
theorem exec_look {P : Program} {t : TypeId} {x y : Operand} {ok : Bool} {oi : Oper} {ρ : Operand → Value} {X Y v : Value} {w : World} (hop : oi.op = Op.lookup t x y ok) (hx : ρ x = X) (hy : ρ y = Y) (hl : (Instr.lookup t X Y ok).run P w = .ok v w) : (execOp ρ oi).run P w = .ok (.value v) w := by
 simp [execOp, hop, hx, hy, hl, Result.andThen]
theorem step_mapU {P : Program} {w w' : World} {ops : Array Oper} {o : Oper} {a : Act} {K : Act → World → Prop} {Q : Exit → Act → World → Prop} {E : Prop} (hg : o.guard = none) (ty : TypeId) (x y z : Operand) (ho : o.op = .mapUpdate ty x y z) {X Y Z : Value} (hx : a.eval x = X) (hy : a.eval y = Y) (hz : a.eval z = Z) (hl : (Instr.mapUpdate ty X Y Z).run P w = .ok () w') (hK : K (a.put o.dst undef) w') : if Region.wanted o (yielded ops a.tmps) = true then Oper.wp P o a w K Q else E := by
 have hw : Region.wanted o (yielded ops a.tmps) = true := by simp [Region.wanted, hg]
 rw [if_pos hw]
 unfold Oper.wp
 rw [exec_mapU ho hx hy hz hl]
 exact hK

/-- An answer: its kind, is it marked, its sides, its value. -/
structure An where
 k : Int
 mr : Bool
 l : Rf
 r : Rf
 va : Option Addr
 vn : Nat
 vc : Nat
def anL (a : An) : List Value := [.int .i64 a.k, .bool a.mr, .int .i64 a.l.id, .int .i64 a.l.rk, .int .u64 a.l.kn, .int .i64 a.l.ln, .int .u64 a.l.bt, .int .i64 a.r.id, .int .i64 a.r.rk, .int .u64 a.r.kn, .int .i64 a.r.ln, .int .u64 a.r.bt, .slice a.va a.vn a.vc]
section
variable {w : World} {b : Nat} {a : An} (I : IsB w b (anL a).toArray 62)
include I
theorem ld_ans : (Instr.loadAt 62 (.pointer (some ⟨b, 0, none⟩))).run Tryz.prog w = .ok (.agg (anL a).toArray) w := load_mid I 0 _ (anL a) _ rfl Tryz.underlying62 rfl (by kernel_rfl)
theorem ld_al : (Instr.loadAt 29 (.pointer (some ⟨b, 2, none⟩))).run Tryz.prog w = .ok (.agg a.l.cells) w := load_mid I 2 _ a.l.cs _ rfl Tryz.underlying29 rfl (by kernel_rfl)
theorem ld_ar : (Instr.loadAt 29 (.pointer (some ⟨b, 7, none⟩))).run Tryz.prog w = .ok (.agg a.r.cells) w := load_mid I 7 _ a.r.cs _ rfl Tryz.underlying29 rfl (by kernel_rfl)
theorem cl_ak : w.cell? ⟨b, 0, none⟩ = some (.int .i64 a.k) := I.cell 0
end
theorem ld_id {w : World} {b : Nat} {r : Rf} (I : IsB w b r.cells 29) : w.cell? ⟨b, 0, none⟩ = some (.int .i64 r.id) := I.cell 0
theorem ld_key {w : World} {b : Nat} {r : Rf} (I : IsB w b r.cells 29) : (Instr.loadAt 25 (.pointer (some ⟨b, 1, none⟩))).run Tryz.prog w = .ok (.agg #[.int .i64 (r.rk), .int .u64 (r.kn)]) w := load_mid (cs := r.cs) I 1 _ [.int .i64 r.rk, .int .u64 r.kn] _ rfl Tryz.underlying25 rfl (by kernel_rfl)
/-- It begins again. -/
def Sk.begin (S : Sk) : Sk := if S.n = 64 then S.busy else { S with n := S.n + 1, wl := S.hd.ln, wb := S.hd.bt, pt := S.hd, ah := zr, lk := false }

set_option maxHeartbeats 2000000 in
set_option maxRecDepth 100000 in
theorem begin_any (b m : Nat) (S : Sk) (ws : List (Pl × Rf)) (h0 : 0 ≤ S.n) (h1 : S.n ≤ 64) (w : World) (X : SkAt w b m S ws) : Calls Tryz.prog 150 #[.pointer (some ⟨b, 0, none⟩)] w fun e w' => e = .returned (.tuple #[]) ∧ SkAt w' b m S.begin ws ∧ Kp [b, m] w w' := by
 unfold Sk.begin
 by_cases hn : S.n = 64
 · rw [if_pos hn]
   have AG := hide (again_no b m S ws hn w X)
   clear X h0 h1
   go_enter Tryz.func150, Tryz.ntmps150
   go_wp2_with fail
   refine AG.out.mono ?_
   rintro e w' ⟨rfl, hF⟩
   replace hF := hide hF
   clear AG
   go_wp2
   refine bodyPost_end (results_none rfl _ _ _) rfl ?_
   exact ⟨rfl, hF.out⟩
 · rw [if_neg hn]
   have AG := hide (again_yes b m S ws h0 (by omega) w X)
   clear X h0 h1 hn
   go_enter Tryz.func150, Tryz.ntmps150
   go_wp2_with fail
   refine AG.out.mono ?_
   rintro e w1 ⟨rfl, X1, K1⟩
   clear AG
   have L1 := hide (ld_hvec X1.blk)
   obtain ⟨w2, hs2, I2, k2⟩ := st_list X1.blk S.hd.ln S.hd.bt
   have X2 := X1.turn k2 I2
   have HS2 := hide hs2
   have L2 := hide (ld_head I2)
   have K2 : Hid (Kp [b, m] w w2) := K1.tr k2.wide
   have SD := hide (stand_any b m _ ws S.hd w2 X2)
   clear hs2 I2 k2 X1 X2 K1
   simp only [] at L1 L2
   go_wp2_with (first | (focus ((with_reducible refine wpList_load_w ?_ 27 (.tmp 8) ?_ ?_ L1.out ?_); rotate_left; rfl; rfl; rotate_left; rfl)) | (focus ((with_reducible refine wpList_store_w ?_ 27 (.tmp 11) (.tmp 9) ?_ ?_ ?_ HS2.out ?_); rotate_left; rfl; rfl; rfl; rotate_left; rfl)) | (focus ((with_reducible refine wpList_load_w ?_ 29 (.tmp 15) ?_ ?_ L2.out ?_); rotate_left; rfl; rfl; rotate_left; rfl)))
   refine SD.out.mono ?_
   rintro e w3 ⟨rfl, X3, K3⟩
   have F3 := hide X3
   have K4 := hide (K2.out.tr K3)
   clear SD K2 K3 X3 L1 L2 HS2
   go_wp2
   refine bodyPost_end (results_none rfl _ _ _) rfl ?_
   exact ⟨rfl, F3.out, K4.out⟩

/-- The will of a dead one, in this list. -/
def Sk.plc (S : Sk) (d : Rf) : Pl := (d.id, S.wl, S.wb)

set_option maxHeartbeats 2000000 in
set_option maxRecDepth 100000 in
theorem keep_any (b m : Nat) (S : Sk) (ws : List (Pl × Rf)) (d : Rf) (a : An) (hk : okC (S.plc d)) (w : World) (X : SkAt w b m S ws) : Calls Tryz.prog 153 #[.pointer (some ⟨b, 0, none⟩), .agg d.cells, .agg (anL a).toArray] w fun e w' => e = .returned (.tuple #[]) ∧ SkAt w' b m S (putW ws (S.plc d) a.r) ∧ Kp [b, m] w w' := by
 have mixed : Tryz.prog.follows .mixedOrders = true := by kernel_rfl
 have hH0 := X.blk.lt
 have hH1 := X.map.lt
 have b1 := (((Below.refl w.heap.size w).alloc (Nat.le_refl _) (.cells d.cells 29)).alloc (by simp) (.cells (anL a).toArray 62)).drew
 have RB : Hid (IsB (((w.alloc (.cells d.cells 29)).alloc (.cells (anL a).toArray 62)).drew) w.heap.size d.cells 29) := (IsB.new w d.cells 29).below (((Below.refl _ _).alloc (Nat.le_refl _) _).drew)
 have AB : Hid (IsB (((w.alloc (.cells d.cells 29)).alloc (.cells (anL a).toArray 62)).drew) (w.heap.size + 1) (anL a).toArray 62) := by
   have := (IsB.new (w.alloc (.cells d.cells 29)) (anL a).toArray 62).below ((Below.refl _ _).drew)
   rwa [World.size_alloc] at this
 have X1 := hide (X.below b1)
 have KZ : Hid (Kp [b, m] w (((w.alloc (.cells d.cells 29)).alloc (.cells (anL a).toArray 62)).drew)) := Kp.of_below b1
 clear b1
 obtain ⟨w2, hs2, M2, g2⟩ := X1.out.map.put (S.plc d) hk a.r
 have F4 : Hid (SkAt w2 b m S (putW ws (S.plc d) a.r) ∧ Kp [b, m] w w2) := by
   have hbm := X.map.off X.blk
   refine ⟨⟨(g2.block b X1.out.blk.lt (fun e => hbm (by injection e))).trans X1.out.blk, M2⟩, KZ.out.grown g2 (fun k hk => Or.inl (by injection hk with hk; simp [hk]))⟩
 have HM : Hid ((Instr.mapUpdate 169 (.map (some m)) (.agg #[.int .i64 d.id, .int .i64 S.wl, .int .u64 S.wb]) (.agg a.r.cells)).run Tryz.prog (((w.alloc (.cells d.cells 29)).alloc (.cells (anL a).toArray 62)).drew) = .ok () w2) := hs2
 clear hs2 M2 g2 X KZ hk
 go_enter Tryz.func153, Tryz.ntmps153
 go_wp2_with fail
 generalize hH : w.heap.size = H at RB AB hH0 hH1 ⊢
 refine regionL 13 (fun w' => IsB w' b (skL S (.map (some m))).toArray 171 ∧ IsB w' H d.cells 29 ∧ IsB w' (H + 1) (anL a).toArray 62) mixed ⟨X1.out.blk, RB.out, AB.out⟩ (fun hHeld => ?_)
 generalize (((w.alloc (.cells d.cells 29)).alloc (.cells (anL a).toArray 62)).drew) = WD at *
 refine pkA (v := ?_) 0 (some 6) rfl rfl ?_ (by assumption) ?_
 rotate_left
 · intro w'
   go_simp
   try with_reducible rfl
 try simp only [Act.put, zqa, zqb, zqc]
 refine pkA (v := ?_) 1 (some 7) rfl rfl ?_ (by assumption) ?_
 rotate_left
 · intro w'
   go_simp
   try with_reducible rfl
 try simp only [Act.put, zqa, zqb, zqc]
 refine pkA (v := ?_) 2 (some 8) rfl rfl ?_ (by assumption) ?_
 rotate_left
 · intro w'
   go_simp
   try with_reducible rfl
 try simp only [Act.put, zqa, zqb, zqc]
 refine pkL (v := .map (some m)) 3 (some 9) rfl rfl ?_ (by assumption) ?_
 · intro w' hSw
   obtain ⟨q0, q1, q2⟩ := hSw
   have y20 := cl_map q0
   go_simp
 try simp only [Act.put, zqa, zqb, zqc]
 refine pkA (v := ?_) 4 (some 10) rfl rfl ?_ (by assumption) ?_
 rotate_left
 · intro w'
   go_simp
   try with_reducible rfl
 try simp only [Act.put, zqa, zqb, zqc]
 refine pkL (v := .int .i64 d.id) 5 (some 11) rfl rfl ?_ (by assumption) ?_
 · intro w' hSw
   obtain ⟨q0, q1, q2⟩ := hSw
   have y0 := ld_id q1
   go_simp
 try simp only [Act.put, zqa, zqb, zqc]
 refine pkA (v := ?_) 6 (some 12) rfl rfl ?_ (by assumption) ?_
 rotate_left
 · intro w'
   go_simp
   try with_reducible rfl
 try simp only [Act.put, zqa, zqb, zqc]
 refine pkA (v := ?_) 7 (some 13) rfl rfl ?_ (by assumption) ?_
 rotate_left
 · intro w'
   go_simp
   try with_reducible rfl
 try simp only [Act.put, zqa, zqb, zqc]
 refine pkA (v := ?_) 8 (some 14) rfl rfl ?_ (by assumption) ?_
 rotate_left
 · intro w'
   go_simp
   try with_reducible rfl
 try simp only [Act.put, zqa, zqb, zqc]
 refine pkL (v := .agg #[.int .i64 S.wl, .int .u64 S.wb]) 9 (some 15) rfl rfl ?_ (by assumption) ?_
 · intro w' hSw
   obtain ⟨q0, q1, q2⟩ := hSw
   exact exec_load rfl rfl (ld_list q0)
 try simp only [Act.put, zqa, zqb, zqc]
 refine pkA (v := .agg #[.int .i64 d.id, .int .i64 S.wl, .int .u64 S.wb]) 10 (some 16) rfl rfl ?_ (by assumption) ?_
 · intro w'
   go_simp
   try with_reducible rfl
 try simp only [Act.put, zqa, zqb, zqc]
 refine pkA (v := ?_) 11 (some 17) rfl rfl ?_ (by assumption) ?_
 rotate_left
 · intro w'
   go_simp
   try with_reducible rfl
 try simp only [Act.put, zqa, zqb, zqc]
 refine pkL (v := .agg a.r.cells) 12 (some 18) rfl rfl ?_ (by assumption) ?_
 · intro w' hSw
   obtain ⟨q0, q1, q2⟩ := hSw
   exact exec_load rfl rfl (ld_ar q2)
 try simp only [Act.put, zqa, zqb, zqc]
 refine lateL (i := 13) (by kernel_rfl) rfl (by decide) (by kernel_rfl) (fun K hK => ?_)
 refine step_mapU rfl 169 (.tmp 9) (.tmp 16) (.tmp 18) rfl rfl rfl rfl HM.out ?_
 refine hK.out _ _ ?_
 clear hK K
 try simp only [Act.put, List.setIfInBounds_toArray]
 refine doneL (by kernel_rfl) ?_ _
 clear hHeld
 refine bodyPost_end (results_none rfl _ _ _) rfl ?_
 exact ⟨rfl, F4.out⟩

/-- It passes a dead one. -/
def Sk.passed (S : Sk) : Sk := if S.n = 64 then S.busy else { S with n := S.n + 1, ov := false, e := 0, rl := zr, rr := zr, fd := false, ah := zr, lk := false }

set_option maxHeartbeats 2000000 in
set_option maxRecDepth 100000 in
theorem pass_any (b m : Nat) (S : Sk) (ws : List (Pl × Rf)) (d : Rf) (a : An) (hk : okC (S.plc d)) (h0 : 0 ≤ S.n) (h1 : S.n ≤ 64) (w : World) (X : SkAt w b m S ws) : Calls Tryz.prog 149 #[.pointer (some ⟨b, 0, none⟩), .agg d.cells, .agg (anL a).toArray] w fun e w' => e = .returned (.tuple #[]) ∧ SkAt w' b m S.passed (putW ws (S.plc d) a.r) ∧ Kp [b, m] w w' := by
 have b1 := ((Below.refl w.heap.size w).alloc (Nat.le_refl _) (.cells d.cells 29)).alloc (by simp) (.cells (anL a).toArray 62)
 have RB : IsB ((w.alloc (.cells d.cells 29)).alloc (.cells (anL a).toArray 62)) w.heap.size d.cells 29 := (IsB.new w d.cells 29).below ((Below.refl _ _).alloc (Nat.le_refl _) _)
 have AB : IsB ((w.alloc (.cells d.cells 29)).alloc (.cells (anL a).toArray 62)) (w.heap.size + 1) (anL a).toArray 62 := by
   have := IsB.new (w.alloc (.cells d.cells 29)) (anL a).toArray 62
   rwa [World.size_alloc] at this
 have KE := hide (keep_any b m S ws d a hk _ (X.below b1))
 have KZ : Hid (Kp [b, m] w ((w.alloc (.cells d.cells 29)).alloc (.cells (anL a).toArray 62))) := Kp.of_below b1
 have L1 := hide (load_ref RB rfl)
 have L2 := hide (ld_ans AB)
 clear b1 RB AB X hk
 go_enter Tryz.func149, Tryz.ntmps149
 go_wp2_with (first | (focus ((with_reducible refine wpList_load_w ?_ 29 (.tmp 4) ?_ ?_ L1.out ?_); rotate_left; rfl; rfl; rotate_left; rfl)) | (focus ((with_reducible refine wpList_load_w ?_ 62 (.tmp 5) ?_ ?_ L2.out ?_); rotate_left; rfl; rfl; rotate_left; rfl)))
 refine KE.out.mono ?_
 rintro e w1 ⟨rfl, X1, K1⟩
 have K2 := hide (KZ.out.tr K1)
 clear KE KZ L1 L2 K1
 by_cases hn : S.n = 64
 · have AG := hide (again_no b m S (putW ws (S.plc d) a.r) hn w1 X1)
   have HN := hide hn
   clear X1 h0 h1 hn
   go_wp2_with fail
   refine AG.out.mono ?_
   rintro e w2 ⟨rfl, X2, K3⟩
   have F3 := hide X2
   have K4 := hide (K2.out.tr K3)
   clear AG K2 K3 X2
   go_wp2
   refine bodyPost_end (results_none rfl _ _ _) rfl ?_
   exact ⟨rfl, by unfold Sk.passed; rw [if_pos HN.out]; exact F3.out, K4.out⟩
 · have AG := hide (again_yes b m S (putW ws (S.plc d) a.r) h0 (by omega) w1 X1)
   have HN := hide hn
   clear X1 h0 h1 hn
   go_wp2_with fail
   refine AG.out.mono ?_
   rintro e w2 ⟨rfl, X2, K3⟩
   clear AG
   obtain ⟨w3, hs3, I3, k3⟩ := st_over X2.blk false
   obtain ⟨w4, hs4, I4, k4⟩ := st_res I3 0 zr zr false
   have X4 := X2.turn (k3.tr k4) I4
   have HS3 := hide hs3
   have HS4 := hide hs4
   have LH := hide (ld_here I4)
   have K5 : Hid (Kp [b, m] w w4) := (K2.out.tr K3).tr (k3.tr k4).wide
   have SD := hide (stand_any b m _ (putW ws (S.plc d) a.r) S.pt w4 X4)
   clear hs3 hs4 I3 I4 k3 k4 X2 X4 K3 K2
   simp only [] at LH
   go_wp2_with (first | (focus ((with_reducible refine wpList_store_w ?_ 4 (.tmp 16) (.const (.bool false)) ?_ ?_ ?_ HS3.out ?_); rotate_left; rfl; rfl; rfl; rotate_left; rfl)) | (focus ((with_reducible refine wpList_store_w ?_ 51 (.tmp 18) (.tmp 14) ?_ ?_ ?_ HS4.out ?_); rotate_left; rfl; rfl; rfl; rotate_left; rfl)) | (focus ((with_reducible refine wpList_load_w ?_ 29 (.tmp 22) ?_ ?_ LH.out ?_); rotate_left; rfl; rfl; rotate_left; rfl)))
   refine SD.out.mono ?_
   rintro e w5 ⟨rfl, X5, K6⟩
   have F3 := hide X5
   have K4 := hide (K5.out.tr K6)
   clear SD K5 K6 X5 LH HS3 HS4
   go_wp2
   refine bodyPost_end (results_none rfl _ _ _) rfl ?_
   exact ⟨rfl, by unfold Sk.passed; rw [if_neg HN.out]; exact F3.out, K4.out⟩

end Go.Proofs.YtokehogcenjefaaGreatDoor
