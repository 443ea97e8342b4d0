/- A removal that leaves lists: exit, leave, left, hearMark. -/
import Derived.Test.YtokehogcenjefaaGreatDoorEC
import Derived.Test.YtokehogcenjefaaGreatDoorED
import Derived.Test.YtokehogcenjefaaGreatDoorEE
namespace Go.Proofs.YtokehogcenjefaaGreatDoor
open Go.RowKit Go.Maps Go.ChangeMaps

set_option maxHeartbeats 2000000 in
set_option maxRecDepth 100000 in
theorem exit_bad (x : Rf) (ll lb oa oo : Int) (hx : 0 ≤ x.bt) (hl : 0 ≤ lb) (hm : umayC ll lb x oa oo = false) (w : World) : Calls Tryz.prog 89 #[.agg #[.int .i64 x.id, .int .i64 x.rk, .int .u64 x.kn, .int .i64 x.ln, .int .u64 x.bt], (.agg #[.int .i64 (ll), .int .u64 (lb)]), .agg #[.int .i64 oa, .int .i64 oo]] w fun e' w' => e' = .returned (.tuple #[.iface 197 (.pointer none), .int .i64 140]) ∧ Below w.heap.size w w' := by
 have b3 := ((gb1 w (.cells #[.int .i64 x.id, .int .i64 x.rk, .int .u64 x.kn, .int .i64 x.ln, .int .u64 x.bt] 29)).trans ((gb1 (w.alloc (.cells #[.int .i64 x.id, .int .i64 x.rk, .int .u64 x.kn, .int .i64 x.ln, .int .u64 x.bt] 29)) (.cells #[.int .i64 ll, .int .u64 lb] 27)).mono (by simp))).trans ((gb1 ((w.alloc (.cells #[.int .i64 x.id, .int .i64 x.rk, .int .u64 x.kn, .int .i64 x.ln, .int .u64 x.bt] 29)).alloc (.cells #[.int .i64 ll, .int .u64 lb] 27)) (.cells #[.int .i64 oa, .int .i64 oo] 31)).mono (by simp; omega))
 have Q1 : IsB (((w.alloc (.cells #[.int .i64 x.id, .int .i64 x.rk, .int .u64 x.kn, .int .i64 x.ln, .int .u64 x.bt] 29)).alloc (.cells #[.int .i64 ll, .int .u64 lb] 27)).alloc (.cells #[.int .i64 oa, .int .i64 oo] 31)) w.heap.size #[.int .i64 x.id, .int .i64 x.rk, .int .u64 x.kn, .int .i64 x.ln, .int .u64 x.bt] 29 := ((IsB.new w _ _).below (gb1 _ _)).below (gb1 _ _)
 have Q2 : IsB (((w.alloc (.cells #[.int .i64 x.id, .int .i64 x.rk, .int .u64 x.kn, .int .i64 x.ln, .int .u64 x.bt] 29)).alloc (.cells #[.int .i64 ll, .int .u64 lb] 27)).alloc (.cells #[.int .i64 oa, .int .i64 oo] 31)) (w.heap.size + 1) #[.int .i64 ll, .int .u64 lb] 27 := by
   have h7 := (IsB.new (w.alloc (.cells #[.int .i64 x.id, .int .i64 x.rk, .int .u64 x.kn, .int .i64 x.ln, .int .u64 x.bt] 29)) #[.int .i64 ll, .int .u64 lb] 27).below (gb1 _ (.cells #[.int .i64 oa, .int .i64 oo] 31))
   rw [World.size_alloc] at h7
   exact h7
 have Q3 : IsB (((w.alloc (.cells #[.int .i64 x.id, .int .i64 x.rk, .int .u64 x.kn, .int .i64 x.ln, .int .u64 x.bt] 29)).alloc (.cells #[.int .i64 ll, .int .u64 lb] 27)).alloc (.cells #[.int .i64 oa, .int .i64 oo] 31)) (w.heap.size + 1 + 1) #[.int .i64 oa, .int .i64 oo] 31 := by
   have h7 := IsB.new ((w.alloc (.cells #[.int .i64 x.id, .int .i64 x.rk, .int .u64 x.kn, .int .i64 x.ln, .int .u64 x.bt] 29)).alloc (.cells #[.int .i64 ll, .int .u64 lb] 27)) #[.int .i64 oa, .int .i64 oo] 31
   rw [World.size_alloc, World.size_alloc] at h7
   exact h7
 have L1 := hide (load_mid (cs := [.int .i64 x.id, .int .i64 x.rk, .int .u64 x.kn, .int .i64 x.ln, .int .u64 x.bt]) Q1 0 29 [.int .i64 x.id, .int .i64 x.rk, .int .u64 x.kn, .int .i64 x.ln, .int .u64 x.bt] _ rfl Tryz.underlying29 rfl (by kernel_rfl))
 have L2 := hide (load_mid (cs := [.int .i64 ll, .int .u64 lb]) Q2 0 27 [.int .i64 ll, .int .u64 lb] _ rfl Tryz.underlying27 rfl (by kernel_rfl))
 have L3 := hide (load_mid (cs := [.int .i64 oa, .int .i64 oo]) Q3 0 31 [.int .i64 oa, .int .i64 oo] _ rfl Tryz.underlying31 rfl (by kernel_rfl))
 clear Q1 Q2 Q3
 go_enter Tryz.func89, Tryz.ntmps89
 go_wp2_with (first | (focus ((with_reducible refine wpList_load_w ?_ 27 (.tmp 4) ?_ ?_ L2.out ?_); rotate_left; rfl; rfl; rotate_left; rfl)) | (focus ((with_reducible refine wpList_load_w ?_ 29 (.tmp 3) ?_ ?_ L1.out ?_); rotate_left; rfl; rfl; rotate_left; rfl)) | (focus ((with_reducible refine wpList_load_w ?_ 31 (.tmp 5) ?_ ?_ L3.out ?_); rotate_left; rfl; rfl; rotate_left; rfl)))
 refine (unew_bad ll lb x oa oo hx hl hm _).mono ?_
 rintro e1 w1 ⟨rfl, hb⟩
 have B := b3.trans (hb.mono b3.size)
 clear hb
 go_wp2
 refine bodyPost_ret (results_tmp2 Tryz.results89 _ _ _) rfl ?_
 exact ⟨rfl, B⟩

set_option maxHeartbeats 2000000 in
set_option maxRecDepth 100000 in
theorem exit_ok (x : Rf) (ll lb oa oo : Int) (hx : 0 ≤ x.bt) (hl : 0 ≤ lb) (hm : umayC ll lb x oa oo = true) (w : World) : Calls Tryz.prog 89 #[.agg #[.int .i64 x.id, .int .i64 x.rk, .int .u64 x.kn, .int .i64 x.ln, .int .u64 x.bt], (.agg #[.int .i64 (ll), .int .u64 (lb)]), .agg #[.int .i64 oa, .int .i64 oo]] w fun e' w' => ∃ u, e' = .returned (.tuple #[.iface 197 (.pointer (some ⟨u, 0, none⟩)), .int .i64 0]) ∧ UsAt w' u (unewS ll lb x oa oo) ∧ w.heap.size ≤ u ∧ Below w.heap.size w w' := by
 have b3 := ((gb1 w (.cells #[.int .i64 x.id, .int .i64 x.rk, .int .u64 x.kn, .int .i64 x.ln, .int .u64 x.bt] 29)).trans ((gb1 (w.alloc (.cells #[.int .i64 x.id, .int .i64 x.rk, .int .u64 x.kn, .int .i64 x.ln, .int .u64 x.bt] 29)) (.cells #[.int .i64 ll, .int .u64 lb] 27)).mono (by simp))).trans ((gb1 ((w.alloc (.cells #[.int .i64 x.id, .int .i64 x.rk, .int .u64 x.kn, .int .i64 x.ln, .int .u64 x.bt] 29)).alloc (.cells #[.int .i64 ll, .int .u64 lb] 27)) (.cells #[.int .i64 oa, .int .i64 oo] 31)).mono (by simp; omega))
 have Q1 : IsB (((w.alloc (.cells #[.int .i64 x.id, .int .i64 x.rk, .int .u64 x.kn, .int .i64 x.ln, .int .u64 x.bt] 29)).alloc (.cells #[.int .i64 ll, .int .u64 lb] 27)).alloc (.cells #[.int .i64 oa, .int .i64 oo] 31)) w.heap.size #[.int .i64 x.id, .int .i64 x.rk, .int .u64 x.kn, .int .i64 x.ln, .int .u64 x.bt] 29 := ((IsB.new w _ _).below (gb1 _ _)).below (gb1 _ _)
 have Q2 : IsB (((w.alloc (.cells #[.int .i64 x.id, .int .i64 x.rk, .int .u64 x.kn, .int .i64 x.ln, .int .u64 x.bt] 29)).alloc (.cells #[.int .i64 ll, .int .u64 lb] 27)).alloc (.cells #[.int .i64 oa, .int .i64 oo] 31)) (w.heap.size + 1) #[.int .i64 ll, .int .u64 lb] 27 := by
   have h7 := (IsB.new (w.alloc (.cells #[.int .i64 x.id, .int .i64 x.rk, .int .u64 x.kn, .int .i64 x.ln, .int .u64 x.bt] 29)) #[.int .i64 ll, .int .u64 lb] 27).below (gb1 _ (.cells #[.int .i64 oa, .int .i64 oo] 31))
   rw [World.size_alloc] at h7
   exact h7
 have Q3 : IsB (((w.alloc (.cells #[.int .i64 x.id, .int .i64 x.rk, .int .u64 x.kn, .int .i64 x.ln, .int .u64 x.bt] 29)).alloc (.cells #[.int .i64 ll, .int .u64 lb] 27)).alloc (.cells #[.int .i64 oa, .int .i64 oo] 31)) (w.heap.size + 1 + 1) #[.int .i64 oa, .int .i64 oo] 31 := by
   have h7 := IsB.new ((w.alloc (.cells #[.int .i64 x.id, .int .i64 x.rk, .int .u64 x.kn, .int .i64 x.ln, .int .u64 x.bt] 29)).alloc (.cells #[.int .i64 ll, .int .u64 lb] 27)) #[.int .i64 oa, .int .i64 oo] 31
   rw [World.size_alloc, World.size_alloc] at h7
   exact h7
 have L1 := hide (load_mid (cs := [.int .i64 x.id, .int .i64 x.rk, .int .u64 x.kn, .int .i64 x.ln, .int .u64 x.bt]) Q1 0 29 [.int .i64 x.id, .int .i64 x.rk, .int .u64 x.kn, .int .i64 x.ln, .int .u64 x.bt] _ rfl Tryz.underlying29 rfl (by kernel_rfl))
 have L2 := hide (load_mid (cs := [.int .i64 ll, .int .u64 lb]) Q2 0 27 [.int .i64 ll, .int .u64 lb] _ rfl Tryz.underlying27 rfl (by kernel_rfl))
 have L3 := hide (load_mid (cs := [.int .i64 oa, .int .i64 oo]) Q3 0 31 [.int .i64 oa, .int .i64 oo] _ rfl Tryz.underlying31 rfl (by kernel_rfl))
 clear Q1 Q2 Q3
 go_enter Tryz.func89, Tryz.ntmps89
 go_wp2_with (first | (focus ((with_reducible refine wpList_load_w ?_ 27 (.tmp 4) ?_ ?_ L2.out ?_); rotate_left; rfl; rfl; rotate_left; rfl)) | (focus ((with_reducible refine wpList_load_w ?_ 29 (.tmp 3) ?_ ?_ L1.out ?_); rotate_left; rfl; rfl; rotate_left; rfl)) | (focus ((with_reducible refine wpList_load_w ?_ 31 (.tmp 5) ?_ ?_ L3.out ?_); rotate_left; rfl; rfl; rotate_left; rfl)))
 refine (unew_ok ll lb x oa oo hx hl hm _).mono ?_
 rintro e1 w1 ⟨u, rfl, X, h1, hb⟩
 have B := b3.trans (hb.mono b3.size)
 have h2 := Nat.le_trans b3.size h1
 clear hb h1
 go_wp2
 refine bodyPost_ret (results_tmp2 Tryz.results89 _ _ _) rfl ?_
 exact ⟨u, rfl, X, h2, B⟩

/-- A list is left, if it may be. -/
def Rm.leave (R : Rm) (x y : Int) : Rm := if umayC x y R.x R.oa R.oo = true then { R with pl := 3, ll := x, lb := y } else { R with pl := 4, e := 0 }
section
variable {w : World} {b : Nat} {R : Rm} {h : Value} (I : IsB w b (rmL R h).toArray 90)
include I
theorem rl_own : (Instr.loadAt 31 (.pointer (some ⟨b, 0, none⟩))).run Tryz.prog w = .ok (.agg #[.int .i64 R.oa, .int .i64 R.oo]) w := load_mid I 0 _ [.int .i64 R.oa, .int .i64 R.oo] _ rfl Tryz.underlying31 rfl (by kernel_rfl)
theorem rl_l : (Instr.loadAt 27 (.pointer (some ⟨b, 10, none⟩))).run Tryz.prog w = .ok (.agg #[.int .i64 (R.ll), .int .u64 (R.lb)]) w := load_mid I 10 _ [.int .i64 R.ll, .int .u64 R.lb] _ rfl Tryz.underlying27 rfl (by kernel_rfl)
theorem rc_ll : w.cell? ⟨b, 10, none⟩ = some (.int .i64 R.ll) := I.cell 10
end
theorem ld_vecb {w : World} {b : Nat} {x y : Int} (I : IsB w b #[.int .i64 x, .int .u64 y] 27) : (Instr.loadAt 27 (.pointer (some ⟨b, 0, none⟩))).run Tryz.prog w = .ok (.agg #[.int .i64 (x), .int .u64 (y)]) w := load_mid (cs := [.int .i64 x, .int .u64 y]) I 0 _ [.int .i64 x, .int .u64 y] _ rfl Tryz.underlying27 rfl (by kernel_rfl)

theorem UsAt.bel {w w' : World} {b : Nat} {S : Us} (h : UsAt w b S) (hb : Below w.heap.size w w') : UsAt w' b S := IsB.below h hb

set_option maxHeartbeats 4000000 in
set_option maxRecDepth 100000 in
theorem leave_bad (b : Nat) (R : Rm) (h : Value) (x y : Int) (hx : 0 ≤ R.x.bt) (hy : 0 ≤ y) (hm : umayC x y R.x R.oa R.oo = false) (w : World) (I : IsB w b (rmL R h).toArray 90) : Calls Tryz.prog 55 #[.pointer (some ⟨b, 0, none⟩), (.agg #[.int .i64 (x), .int .u64 (y)])] w fun e' w' => e' = .returned (.tuple #[]) ∧ IsB w' b (rmL { R with pl := 4, e := 0 } .nilIface).toArray 90 ∧ Kp [b] w w' := by
 have mixed : Tryz.prog.follows .mixedOrders = true := by kernel_rfl
 have b1 := gb1 w (.cells #[.int .i64 x, .int .u64 y] 27)
 have I1 := I.below b1
 have Q1 := IsB.new w #[.int .i64 x, .int .u64 y] 27
 have K0 : Hid (Kp [b] w (w.alloc (.cells #[.int .i64 x, .int .u64 y] 27))) := Kp.of_below b1
 have hbA : b < w.heap.size := I.lt
 have hWA : w.heap.size ≤ (w.alloc (.cells #[.int .i64 x, .int .u64 y] 27)).heap.size := b1.size
 go_enter Tryz.func55, Tryz.ntmps55
 go_wp2_with fail
 have dr := (Below.refl (w.alloc (.cells #[.int .i64 x, .int .u64 y] 27)).heap.size (w.alloc (.cells #[.int .i64 x, .int .u64 y] 27))).drew
 have I2 := hide (I1.below dr)
 have Q2 := hide (Q1.below dr)
 have K1 := hide (K0.out.drew)
 have hWA2 : w.heap.size ≤ (w.alloc (.cells #[.int .i64 x, .int .u64 y] 27)).drew.heap.size := Nat.le_trans hWA dr.size
 clear dr I1 Q1 b1 K0 I hWA
 obtain ⟨A, hA⟩ : ∃ A, w.heap.size = A := ⟨_, rfl⟩
 rw [hA] at Q2 hWA2 hbA ⊢
 refine regionL 15 (fun w' => IsB w' b (rmL R h).toArray 90 ∧ IsB w' A #[.int .i64 x, .int .u64 y] 27) mixed ⟨I2.out, Q2.out⟩ (fun hHeld => ?_)
 generalize (w.alloc (.cells #[.int .i64 x, .int .u64 y] 27)).drew = WD at *
 refine pkA (v := ?_) 0 (some 7) rfl rfl ?_ (by assumption) ?_
 rotate_left
 · intro w'
   go_simp
   try with_reducible rfl
 try simp only [Act.put, zqa, zqb, zqc]
 refine pkA (v := ?_) 1 (some 8) rfl rfl ?_ (by assumption) ?_
 rotate_left
 · intro w'
   go_simp
   try with_reducible rfl
 try simp only [Act.put, zqa, zqb, zqc]
 refine pkA (v := ?_) 2 (some 9) rfl rfl ?_ (by assumption) ?_
 rotate_left
 · intro w'
   go_simp
   try with_reducible rfl
 try simp only [Act.put, zqa, zqb, zqc]
 refine pkT (v := .agg #[.int .i64 R.x.id, .int .i64 R.x.rk, .int .u64 R.x.kn, .int .i64 R.x.ln, .int .u64 R.x.bt]) 3 (some 10) rfl rfl ?_ (by assumption) ?_
 · intro w' hSw
   obtain ⟨q0, q1⟩ := hSw
   exact exec_load rfl rfl (rl_x q0)
 try simp only [Act.put, zqa, zqb, zqc]
 refine pkT (v := (.agg #[.int .i64 (x), .int .u64 (y)])) 4 (some 11) rfl rfl ?_ (by assumption) ?_
 · intro w' hSw
   obtain ⟨q0, q1⟩ := hSw
   exact exec_load rfl rfl (ld_vecb q1)
 try simp only [Act.put, zqa, zqb, zqc]
 refine pkA (v := ?_) 5 (some 12) rfl rfl ?_ (by assumption) ?_
 rotate_left
 · intro w'
   go_simp
   try with_reducible rfl
 try simp only [Act.put, zqa, zqb, zqc]
 refine pkA (v := ?_) 6 (some 13) rfl rfl ?_ (by assumption) ?_
 rotate_left
 · intro w'
   go_simp
   try with_reducible rfl
 try simp only [Act.put, zqa, zqb, zqc]
 refine pkA (v := ?_) 7 (some 14) rfl rfl ?_ (by assumption) ?_
 rotate_left
 · intro w'
   go_simp
   try with_reducible rfl
 try simp only [Act.put, zqa, zqb, zqc]
 refine pkT (v := .agg #[.int .i64 R.oa, .int .i64 R.oo]) 8 (some 15) rfl rfl ?_ (by assumption) ?_
 · intro w' hSw
   obtain ⟨q0, q1⟩ := hSw
   exact exec_load rfl rfl (rl_own q0)
 try simp only [Act.put, zqa, zqb, zqc]
 refine oneL (i := 9) (by kernel_rfl) rfl (fun K hK => ?_)
 go_simp
 refine (exit_bad R.x x y R.oa R.oo hx hy hm WD).mono ?_
 rintro e1 w3 ⟨rfl, hb⟩
 have I3 := hide (I2.out.below hb)
 have Q3 := hide (Q2.out.below hb)
 have K3 := hide (K1.out.tr (Kp.of_below hb))
 clear hb
 refine hK.out _ _ ?_ ?_
 · exact ⟨I3.out, Q3.out⟩
 clear hK K
 try simp only [Act.put, zqa, zqb, zqc]
 clear hHeld
 have hHeld : (fun w' => IsB w' b (rmL R h).toArray 90 ∧ IsB w' A #[.int .i64 x, .int .u64 y] 27) w3 := ⟨I3.out, Q3.out⟩
 refine pkA (v := ?_) 10 (some 6) rfl rfl ?_ (by assumption) ?_
 rotate_left
 · intro w'
   go_simp
   try with_reducible rfl
 try simp only [Act.put, zqa, zqb, zqc]
 refine pkA (v := .iface 197 (.pointer none)) 11 (some 17) rfl rfl ?_ (by assumption) ?_
 · intro w'
   go_simp
   try rfl
 try simp only [Act.put, zqa, zqb, zqc]
 refine pkA (v := .int .i64 140) 12 (some 18) rfl rfl ?_ (by assumption) ?_
 · intro w'
   go_simp
   try rfl
 try simp only [Act.put, zqa, zqb, zqc]
 refine pkA (v := ?_) 13 (some 4) rfl rfl ?_ (by assumption) ?_
 rotate_left
 · intro w'
   go_simp
   try with_reducible rfl
 try simp only [Act.put, zqa, zqb, zqc]
 refine pkA (v := ?_) 14 (some 5) rfl rfl ?_ (by assumption) ?_
 rotate_left
 · intro w'
   go_simp
   try with_reducible rfl
 try simp only [Act.put, zqa, zqb, zqc]
 refine doneL (by kernel_rfl) ?_ _
 clear hHeld
 go_wp2_with fail
 refine (rend_any b R h 0 w3 I3.out).mono ?_
 rintro e2 w4 ⟨rfl, I4, k4⟩
 have K4 := K3.out.tr k4
 go_wp2
 refine bodyPost_ret (results_none rfl _ _ _) rfl ?_
 exact ⟨rfl, I4, K4⟩

set_option maxHeartbeats 4000000 in
set_option maxRecDepth 100000 in
theorem leave_ok (b : Nat) (R : Rm) (h : Value) (x y : Int) (hx : 0 ≤ R.x.bt) (hy : 0 ≤ y) (hm : umayC x y R.x R.oa R.oo = true) (w : World) (I : IsB w b (rmL R h).toArray 90) : Calls Tryz.prog 55 #[.pointer (some ⟨b, 0, none⟩), (.agg #[.int .i64 (x), .int .u64 (y)])] w fun e' w' => ∃ u, e' = .returned (.tuple #[]) ∧ IsB w' b (rmL { R with pl := 3, ll := x, lb := y } (.iface 197 (.pointer (some ⟨u, 0, none⟩)))).toArray 90 ∧ UsAt w' u (unewS x y R.x R.oa R.oo) ∧ w.heap.size ≤ u ∧ Kp [b] w w' := by
 have mixed : Tryz.prog.follows .mixedOrders = true := by kernel_rfl
 have b1 := gb1 w (.cells #[.int .i64 x, .int .u64 y] 27)
 have I1 := I.below b1
 have Q1 := IsB.new w #[.int .i64 x, .int .u64 y] 27
 have K0 : Hid (Kp [b] w (w.alloc (.cells #[.int .i64 x, .int .u64 y] 27))) := Kp.of_below b1
 have hbA : b < w.heap.size := I.lt
 have hWA : w.heap.size ≤ (w.alloc (.cells #[.int .i64 x, .int .u64 y] 27)).heap.size := b1.size
 go_enter Tryz.func55, Tryz.ntmps55
 go_wp2_with fail
 have dr := (Below.refl (w.alloc (.cells #[.int .i64 x, .int .u64 y] 27)).heap.size (w.alloc (.cells #[.int .i64 x, .int .u64 y] 27))).drew
 have I2 := hide (I1.below dr)
 have Q2 := hide (Q1.below dr)
 have K1 := hide (K0.out.drew)
 have hWA2 : w.heap.size ≤ (w.alloc (.cells #[.int .i64 x, .int .u64 y] 27)).drew.heap.size := Nat.le_trans hWA dr.size
 clear dr I1 Q1 b1 K0 I hWA
 obtain ⟨A, hA⟩ : ∃ A, w.heap.size = A := ⟨_, rfl⟩
 rw [hA] at Q2 hWA2 hbA ⊢
 refine regionL 15 (fun w' => IsB w' b (rmL R h).toArray 90 ∧ IsB w' A #[.int .i64 x, .int .u64 y] 27) mixed ⟨I2.out, Q2.out⟩ (fun hHeld => ?_)
 generalize (w.alloc (.cells #[.int .i64 x, .int .u64 y] 27)).drew = WD at *
 refine pkA (v := ?_) 0 (some 7) rfl rfl ?_ (by assumption) ?_
 rotate_left
 · intro w'
   go_simp
   try with_reducible rfl
 try simp only [Act.put, zqa, zqb, zqc]
 refine pkA (v := ?_) 1 (some 8) rfl rfl ?_ (by assumption) ?_
 rotate_left
 · intro w'
   go_simp
   try with_reducible rfl
 try simp only [Act.put, zqa, zqb, zqc]
 refine pkA (v := ?_) 2 (some 9) rfl rfl ?_ (by assumption) ?_
 rotate_left
 · intro w'
   go_simp
   try with_reducible rfl
 try simp only [Act.put, zqa, zqb, zqc]
 refine pkT (v := .agg #[.int .i64 R.x.id, .int .i64 R.x.rk, .int .u64 R.x.kn, .int .i64 R.x.ln, .int .u64 R.x.bt]) 3 (some 10) rfl rfl ?_ (by assumption) ?_
 · intro w' hSw
   obtain ⟨q0, q1⟩ := hSw
   exact exec_load rfl rfl (rl_x q0)
 try simp only [Act.put, zqa, zqb, zqc]
 refine pkT (v := (.agg #[.int .i64 (x), .int .u64 (y)])) 4 (some 11) rfl rfl ?_ (by assumption) ?_
 · intro w' hSw
   obtain ⟨q0, q1⟩ := hSw
   exact exec_load rfl rfl (ld_vecb q1)
 try simp only [Act.put, zqa, zqb, zqc]
 refine pkA (v := ?_) 5 (some 12) rfl rfl ?_ (by assumption) ?_
 rotate_left
 · intro w'
   go_simp
   try with_reducible rfl
 try simp only [Act.put, zqa, zqb, zqc]
 refine pkA (v := ?_) 6 (some 13) rfl rfl ?_ (by assumption) ?_
 rotate_left
 · intro w'
   go_simp
   try with_reducible rfl
 try simp only [Act.put, zqa, zqb, zqc]
 refine pkA (v := ?_) 7 (some 14) rfl rfl ?_ (by assumption) ?_
 rotate_left
 · intro w'
   go_simp
   try with_reducible rfl
 try simp only [Act.put, zqa, zqb, zqc]
 refine pkT (v := .agg #[.int .i64 R.oa, .int .i64 R.oo]) 8 (some 15) rfl rfl ?_ (by assumption) ?_
 · intro w' hSw
   obtain ⟨q0, q1⟩ := hSw
   exact exec_load rfl rfl (rl_own q0)
 try simp only [Act.put, zqa, zqb, zqc]
 refine oneL (i := 9) (by kernel_rfl) rfl (fun K hK => ?_)
 go_simp
 refine (exit_ok R.x x y R.oa R.oo hx hy hm WD).mono ?_
 rintro e1 w3 ⟨u, rfl, X3', h3', hb⟩
 have X3 := hide X3'
 have h3 := hide h3'
 clear X3' h3'
 have I3 := hide (I2.out.below hb)
 have Q3 := hide (Q2.out.below hb)
 have K3 := hide (K1.out.tr (Kp.of_below hb))
 clear hb
 refine hK.out _ _ ?_ ?_
 · exact ⟨I3.out, Q3.out⟩
 clear hK K
 try simp only [Act.put, zqa, zqb, zqc]
 clear hHeld
 have hHeld : (fun w' => IsB w' b (rmL R h).toArray 90 ∧ IsB w' A #[.int .i64 x, .int .u64 y] 27) w3 := ⟨I3.out, Q3.out⟩
 refine pkA (v := ?_) 10 (some 6) rfl rfl ?_ (by assumption) ?_
 rotate_left
 · intro w'
   go_simp
   try with_reducible rfl
 try simp only [Act.put, zqa, zqb, zqc]
 refine pkA (v := .iface 197 (.pointer (some ⟨u, 0, none⟩))) 11 (some 17) rfl rfl ?_ (by assumption) ?_
 · intro w'
   go_simp
   try rfl
 try simp only [Act.put, zqa, zqb, zqc]
 refine pkA (v := .int .i64 0) 12 (some 18) rfl rfl ?_ (by assumption) ?_
 · intro w'
   go_simp
   try rfl
 try simp only [Act.put, zqa, zqb, zqc]
 refine pkA (v := ?_) 13 (some 4) rfl rfl ?_ (by assumption) ?_
 rotate_left
 · intro w'
   go_simp
   try with_reducible rfl
 try simp only [Act.put, zqa, zqb, zqc]
 refine pkA (v := ?_) 14 (some 5) rfl rfl ?_ (by assumption) ?_
 rotate_left
 · intro w'
   go_simp
   try with_reducible rfl
 try simp only [Act.put, zqa, zqb, zqc]
 refine doneL (by kernel_rfl) ?_ _
 clear hHeld
 go_wp2_with fail
 have dr := (Below.refl w3.heap.size w3).drew
 replace I3 := hide (I3.out.below dr)
 replace Q3 := hide (Q3.out.below dr)
 replace X3 := hide (UsAt.bel X3.out dr)
 replace K3 := hide (K3.out.drew)
 clear dr I2 Q2
 refine regionL 14 (fun w' => IsB w' A #[.int .i64 x, .int .u64 y] 27) mixed Q3.out (fun hHeld => ?_)
 generalize w3.drew = WE at *
 obtain ⟨w4, hs1, I4, k4⟩ := rs_pl I3.out 3
 have HS1 := hide hs1
 obtain ⟨w5, hs2, I5, k5⟩ := rs_h I4 197 (.pointer (some ⟨u, 0, none⟩))
 have HS2 := hide hs2
 obtain ⟨w6, hs3, I6, k6⟩ := rs_l I5 x y
 have HS3 := hide hs3
 have Q4 := hide (Q3.out.kp k4 (by simp; omega))
 have Q5 := hide (Q4.out.kp k5 (by simp; omega))
 have Q6 := hide (Q5.out.kp k6 (by simp; omega))
 have hub : u ≠ b := by have := h3.out; omega
 have F : Hid (IsB w6 b (rmL { R with pl := 3, ll := x, lb := y } (.iface 197 (.pointer (some ⟨u, 0, none⟩)))).toArray 90 ∧ UsAt w6 u (unewS x y R.x R.oa R.oo) ∧ A ≤ u ∧ Kp [b] w w6) := ⟨I6, IsB.kp X3.out (k4.tr (k5.tr k6)) (by simpa using hub), by have := h3.out; omega, K3.out.tr (k4.tr (k5.tr k6))⟩
 clear hs1 hs2 hs3 I4 I5 I6 k4 k5 k6
 refine pkA (v := ?_) 0 (some 23) rfl rfl ?_ (by assumption) ?_
 rotate_left
 · intro w'
   go_simp
   try with_reducible rfl
 try simp only [Act.put, zqa, zqb, zqc]
 refine pkA (v := ?_) 1 (some 24) rfl rfl ?_ (by assumption) ?_
 rotate_left
 · intro w'
   go_simp
   try with_reducible rfl
 try simp only [Act.put, zqa, zqb, zqc]
 refine pkA (v := ?_) 2 (some 25) rfl rfl ?_ (by assumption) ?_
 rotate_left
 · intro w'
   go_simp
   try with_reducible rfl
 try simp only [Act.put, zqa, zqb, zqc]
 refine pkA (v := ?_) 3 (some 26) rfl rfl ?_ (by assumption) ?_
 rotate_left
 · intro w'
   go_simp
   try with_reducible rfl
 try simp only [Act.put, zqa, zqb, zqc]
 refine pkL (v := (.agg #[.int .i64 (x), .int .u64 (y)])) 4 (some 27) rfl rfl ?_ (by assumption) ?_
 · intro w' hSw
   have q1 := hSw
   exact exec_load rfl rfl (ld_vecb q1)
 try simp only [Act.put, zqa, zqb, zqc]
 refine pkA (v := ?_) 5 (some 28) rfl rfl ?_ (by assumption) ?_
 rotate_left
 · intro w'
   go_simp
   try with_reducible rfl
 try simp only [Act.put, zqa, zqb, zqc]
 refine pkA (v := ?_) 6 (some 29) rfl rfl ?_ (by assumption) ?_
 rotate_left
 · intro w'
   go_simp
   try with_reducible rfl
 try simp only [Act.put, zqa, zqb, zqc]
 refine oneL (i := 7) (by kernel_rfl) rfl (fun K hK => ?_)
 refine step_store_w rfl 88 (.tmp 29) (.const (.int .i64 3)) rfl rfl rfl HS1.out ?_
 refine hK.out _ _ ?_ ?_
 · exact Q4.out
 clear hK K
 try simp only [Act.put, List.setIfInBounds_toArray]
 clear hHeld
 have hHeld : (fun w' => IsB w' A #[.int .i64 x, .int .u64 y] 27) w4 := Q4.out
 refine pkA (v := ?_) 8 (some 30) rfl rfl ?_ (by assumption) ?_
 rotate_left
 · intro w'
   go_simp
   try with_reducible rfl
 try simp only [Act.put]
 refine pkA (v := ?_) 9 (some 31) rfl rfl ?_ (by assumption) ?_
 rotate_left
 · intro w'
   go_simp
   try with_reducible rfl
 try simp only [Act.put]
 refine oneL (i := 10) (by kernel_rfl) rfl (fun K hK => ?_)
 refine step_store_w rfl 84 (.tmp 31) (.tmp 26) rfl rfl rfl HS2.out ?_
 refine hK.out _ _ ?_ ?_
 · exact Q5.out
 clear hK K
 try simp only [Act.put]
 clear hHeld
 have hHeld : (fun w' => IsB w' A #[.int .i64 x, .int .u64 y] 27) w5 := Q5.out
 refine pkA (v := ?_) 11 (some 32) rfl rfl ?_ (by assumption) ?_
 rotate_left
 · intro w'
   go_simp
   try with_reducible rfl
 try simp only [Act.put]
 refine pkA (v := ?_) 12 (some 33) rfl rfl ?_ (by assumption) ?_
 rotate_left
 · intro w'
   go_simp
   try with_reducible rfl
 try simp only [Act.put]
 refine oneL (i := 13) (by kernel_rfl) rfl (fun K hK => ?_)
 refine step_store_w rfl 27 (.tmp 33) (.tmp 27) rfl rfl rfl HS3.out ?_
 refine hK.out _ _ ?_ ?_
 · exact Q6.out
 clear hK K
 try simp only [Act.put]
 clear hHeld
 have hHeld : (fun w' => IsB w' A #[.int .i64 x, .int .u64 y] 27) w6 := Q6.out
 refine doneL (by kernel_rfl) ?_ _
 clear hHeld
 go_wp2
 refine bodyPost_end (results_none rfl _ _ _) rfl ?_
 first | exact ⟨u, rfl, F.out.1, F.out.2.1, hA.symm ▸ F.out.2.2.1, F.out.2.2.2⟩ | exact ⟨rfl, u, F.out.1, F.out.2.1, hA.symm ▸ F.out.2.2.1, F.out.2.2.2⟩

end Go.Proofs.YtokehogcenjefaaGreatDoor
