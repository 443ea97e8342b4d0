/- The document's Right, Bits, common, Begins (chapter 1), on the road of stage 1's texts. -/
import Derived.Test.YtokehogcenjefaaGreatDoorEE
import Derived.Test.YtokehogcenjefaaGreatDoorDV
namespace Go.Proofs.YtokehogcenjefaaGreatDoor.Un
open Go.RowKit

section
attribute [local go_sem ↓] Go.wp_at_zero Go.wp_at_succ

end

set_option maxHeartbeats 2000000 in
set_option maxRecDepth 100000 in
theorem rBegins_a (n b m c : Int) (h1 : rt n b = false) (w : World) : Calls Tryz.prog 90 #[(.agg #[.int .i64 (n), .int .u64 (b)]), (.agg #[.int .i64 (m), .int .u64 (c)])] w fun e w' => e = .returned (.bool false) ∧ Below w.heap.size w w' := by
 have Q1 := hide h1
 clear h1
 have mixed : Tryz.prog.follows .mixedOrders = true := by kernel_rfl
 have b1 := (((Below.refl w.heap.size w).alloc (Nat.le_refl _) (.cells #[.int .i64 n, .int .u64 b] 27)).alloc (by simp) (.cells #[.int .i64 m, .int .u64 c] 27)).drew
 have A0 := ((IsB.new w #[.int .i64 n, .int .u64 b] 27).below ((Below.refl _ _).alloc (Nat.le_refl _) (.cells #[.int .i64 m, .int .u64 c] 27))).below ((Below.refl _ _).drew)
 have C0 := (IsB.new (w.alloc (.cells #[.int .i64 n, .int .u64 b] 27)) #[.int .i64 m, .int .u64 c] 27).below ((Below.refl _ _).drew)
 rw [World.size_alloc] at C0
 have A := hide A0
 have C := hide C0
 have B := hide b1
 clear A0 C0 b1
 go_enter Tryz.func90, Tryz.ntmps90
 go_wp2_with fail
 obtain ⟨H, hH⟩ : ∃ H, w.heap.size = H := ⟨_, rfl⟩
 rw [hH] at A C ⊢
 replace hH := hide hH
 refine regionL 17 (fun w' => IsB w' H #[.int .i64 n, .int .u64 b] 27 ∧ IsB w' (H + 1) #[.int .i64 m, .int .u64 c] 27) mixed ⟨A.out, C.out⟩ (fun hHeld => ?_)
 generalize ((w.alloc (.cells #[.int .i64 n, .int .u64 b] 27)).alloc (.cells #[.int .i64 m, .int .u64 c] 27)).drew = WD at *
 refine pkL (v := .agg #[.int .i64 n, .int .u64 b]) 0 (some 5) rfl rfl ?_ (by assumption) ?_
 · intro w' hSw
   obtain ⟨q0, q1⟩ := hSw
   have z0 : w'.cell? ⟨H + 1, 0, none⟩ = some (.int .i64 m) := q1.cell 0
   exact exec_load rfl rfl (ld_vec2 q0)
 try simp only [Act.put, zqa, zqb, zqc]
 refine oneL (i := 1) (by kernel_rfl) rfl (fun K hK => ?_)
 go_simp
 refine (rright_any n b WD).mono ?_
 rintro e w2 ⟨rfl, hb⟩
 rw [Q1.out]
 replace A := hide (A.out.below hb)
 replace C := hide (C.out.below hb)
 replace B := hide (B.out.trans (hb.mono B.out.size))
 clear hb
 refine hK.out _ _ ?_ ?_
 · exact ⟨A.out, C.out⟩
 clear hK K
 try simp only [Act.put, zqa, zqb, zqc]
 clear hHeld
 have hHeld : (fun w' => IsB w' H #[.int .i64 n, .int .u64 b] 27 ∧ IsB w' (H + 1) #[.int .i64 m, .int .u64 c] 27) w2 := ⟨A.out, C.out⟩
 refine pkA (v := ?_) 2 (some 7) rfl rfl ?_ (by assumption) ?_
 rotate_left
 · intro w'
   go_simp
   try with_reducible rfl
 try simp only [Act.put, zqa, zqb, zqc]
 refine pickN 3 (some 8) rfl rfl (by kernel_rfl) (by kernel_rfl) (by kernel_rfl) (by decide) (fun _ _ _ h => h) (by rfl) (by assumption) ?_
 try simp only [Act.put, zqa, zqb, zqc]
 refine pickN 4 (some 9) rfl rfl (by kernel_rfl) (by kernel_rfl) (by kernel_rfl) (by decide) (fun _ _ _ h => h) (by rfl) (by assumption) ?_
 try simp only [Act.put, zqa, zqb, zqc]
 refine pkA (v := ?_) 5 (some 10) rfl rfl ?_ (by assumption) ?_
 rotate_left
 · intro w'
   go_simp
   try with_reducible rfl
 try simp only [Act.put, zqa, zqb, zqc]
 refine pkA (v := ?_) 6 (some 11) rfl rfl ?_ (by assumption) ?_
 rotate_left
 · intro w'
   go_simp
   try with_reducible rfl
 try simp only [Act.put, zqa, zqb, zqc]
 refine pickN 7 (some 12) rfl rfl (by kernel_rfl) (by kernel_rfl) (by kernel_rfl) (by decide) (fun _ _ _ h => h) (by rfl) (by assumption) ?_
 try simp only [Act.put, zqa, zqb, zqc]
 refine pickN 8 (some 13) rfl rfl (by kernel_rfl) (by kernel_rfl) (by kernel_rfl) (by decide) (fun _ _ _ h => h) (by rfl) (by assumption) ?_
 try simp only [Act.put, zqa, zqb, zqc]
 refine pickN 9 (some 14) rfl rfl (by kernel_rfl) (by kernel_rfl) (by kernel_rfl) (by decide) (fun _ _ _ h => h) (by rfl) (by assumption) ?_
 try simp only [Act.put, zqa, zqb, zqc]
 refine pickN 10 (some 15) rfl rfl (by kernel_rfl) (by kernel_rfl) (by kernel_rfl) (by decide) (fun _ _ _ h => h) (by rfl) (by assumption) ?_
 try simp only [Act.put, zqa, zqb, zqc]
 refine pickN 11 (some 16) rfl rfl (by kernel_rfl) (by kernel_rfl) (by kernel_rfl) (by decide) (fun _ _ _ h => h) (by rfl) (by assumption) ?_
 try simp only [Act.put, zqa, zqb, zqc]
 refine pickN 12 (some 17) rfl rfl (by kernel_rfl) (by kernel_rfl) (by kernel_rfl) (by decide) (fun _ _ _ h => h) (by rfl) (by assumption) ?_
 try simp only [Act.put, zqa, zqb, zqc]
 refine pickN 13 (some 18) rfl rfl (by kernel_rfl) (by kernel_rfl) (by kernel_rfl) (by decide) (fun _ _ _ h => h) (by rfl) (by assumption) ?_
 try simp only [Act.put, zqa, zqb, zqc]
 refine pickN 14 (some 19) rfl rfl (by kernel_rfl) (by kernel_rfl) (by kernel_rfl) (by decide) (fun _ _ _ h => h) (by rfl) (by assumption) ?_
 try simp only [Act.put, zqa, zqb, zqc]
 refine pkA (v := ?_) 15 (some 20) rfl rfl ?_ (by assumption) ?_
 rotate_left
 · intro w'
   go_simp
   try with_reducible rfl
 try simp only [Act.put, zqa, zqb, zqc]
 refine pkA (v := ?_) 16 (some 4) rfl rfl ?_ (by assumption) ?_
 rotate_left
 · intro w'
   go_simp
   try with_reducible rfl
 try simp only [Act.put, zqa, zqb, zqc]
 refine doneL (by kernel_rfl) ?_ _
 clear hHeld
 go_wp2
 go_ret
 exact ⟨rfl, B.out⟩

set_option maxHeartbeats 2000000 in
set_option maxRecDepth 100000 in
theorem rBegins_b (n b m c : Int) (h1 : rt n b = true) (h2 : rt m c = false) (w : World) : Calls Tryz.prog 90 #[(.agg #[.int .i64 (n), .int .u64 (b)]), (.agg #[.int .i64 (m), .int .u64 (c)])] w fun e w' => e = .returned (.bool false) ∧ Below w.heap.size w w' := by
 have Q1 := hide h1
 have Q2 := hide h2
 clear h1 h2
 have mixed : Tryz.prog.follows .mixedOrders = true := by kernel_rfl
 have b1 := (((Below.refl w.heap.size w).alloc (Nat.le_refl _) (.cells #[.int .i64 n, .int .u64 b] 27)).alloc (by simp) (.cells #[.int .i64 m, .int .u64 c] 27)).drew
 have A0 := ((IsB.new w #[.int .i64 n, .int .u64 b] 27).below ((Below.refl _ _).alloc (Nat.le_refl _) (.cells #[.int .i64 m, .int .u64 c] 27))).below ((Below.refl _ _).drew)
 have C0 := (IsB.new (w.alloc (.cells #[.int .i64 n, .int .u64 b] 27)) #[.int .i64 m, .int .u64 c] 27).below ((Below.refl _ _).drew)
 rw [World.size_alloc] at C0
 have A := hide A0
 have C := hide C0
 have B := hide b1
 clear A0 C0 b1
 go_enter Tryz.func90, Tryz.ntmps90
 go_wp2_with fail
 obtain ⟨H, hH⟩ : ∃ H, w.heap.size = H := ⟨_, rfl⟩
 rw [hH] at A C ⊢
 replace hH := hide hH
 refine regionL 17 (fun w' => IsB w' H #[.int .i64 n, .int .u64 b] 27 ∧ IsB w' (H + 1) #[.int .i64 m, .int .u64 c] 27) mixed ⟨A.out, C.out⟩ (fun hHeld => ?_)
 generalize ((w.alloc (.cells #[.int .i64 n, .int .u64 b] 27)).alloc (.cells #[.int .i64 m, .int .u64 c] 27)).drew = WD at *
 refine pkL (v := .agg #[.int .i64 n, .int .u64 b]) 0 (some 5) rfl rfl ?_ (by assumption) ?_
 · intro w' hSw
   obtain ⟨q0, q1⟩ := hSw
   have z0 : w'.cell? ⟨H + 1, 0, none⟩ = some (.int .i64 m) := q1.cell 0
   exact exec_load rfl rfl (ld_vec2 q0)
 try simp only [Act.put, zqa, zqb, zqc]
 refine oneL (i := 1) (by kernel_rfl) rfl (fun K hK => ?_)
 go_simp
 refine (rright_any n b WD).mono ?_
 rintro e w2 ⟨rfl, hb⟩
 rw [Q1.out]
 replace A := hide (A.out.below hb)
 replace C := hide (C.out.below hb)
 replace B := hide (B.out.trans (hb.mono B.out.size))
 clear hb
 refine hK.out _ _ ?_ ?_
 · exact ⟨A.out, C.out⟩
 clear hK K
 try simp only [Act.put, zqa, zqb, zqc]
 clear hHeld
 have hHeld : (fun w' => IsB w' H #[.int .i64 n, .int .u64 b] 27 ∧ IsB w' (H + 1) #[.int .i64 m, .int .u64 c] 27) w2 := ⟨A.out, C.out⟩
 refine pkA (v := ?_) 2 (some 7) rfl rfl ?_ (by assumption) ?_
 rotate_left
 · intro w'
   go_simp
   try with_reducible rfl
 try simp only [Act.put, zqa, zqb, zqc]
 refine pkL (v := .agg #[.int .i64 m, .int .u64 c]) 3 (some 8) rfl rfl ?_ (by assumption) ?_
 · intro w' hSw
   obtain ⟨q0, q1⟩ := hSw
   have z0 : w'.cell? ⟨H + 1, 0, none⟩ = some (.int .i64 m) := q1.cell 0
   exact exec_load rfl rfl (ld_vec2 q1)
 try simp only [Act.put, zqa, zqb, zqc]
 refine oneL (i := 4) (by kernel_rfl) rfl (fun K hK => ?_)
 go_simp
 refine (rright_any m c w2).mono ?_
 rintro e w3 ⟨rfl, hb⟩
 rw [Q2.out]
 replace A := hide (A.out.below hb)
 replace C := hide (C.out.below hb)
 replace B := hide (B.out.trans (hb.mono B.out.size))
 clear hb
 refine hK.out _ _ ?_ ?_
 · exact ⟨A.out, C.out⟩
 clear hK K
 try simp only [Act.put, zqa, zqb, zqc]
 clear hHeld
 have hHeld : (fun w' => IsB w' H #[.int .i64 n, .int .u64 b] 27 ∧ IsB w' (H + 1) #[.int .i64 m, .int .u64 c] 27) w3 := ⟨A.out, C.out⟩
 refine pkA (v := ?_) 5 (some 10) rfl rfl ?_ (by assumption) ?_
 rotate_left
 · intro w'
   go_simp
   try with_reducible rfl
 try simp only [Act.put, zqa, zqb, zqc]
 refine pkA (v := ?_) 6 (some 11) rfl rfl ?_ (by assumption) ?_
 rotate_left
 · intro w'
   go_simp
   try with_reducible rfl
 try simp only [Act.put, zqa, zqb, zqc]
 refine pickN 7 (some 12) rfl rfl (by kernel_rfl) (by kernel_rfl) (by kernel_rfl) (by decide) (fun _ _ _ h => h) (by rfl) (by assumption) ?_
 try simp only [Act.put, zqa, zqb, zqc]
 refine pickN 8 (some 13) rfl rfl (by kernel_rfl) (by kernel_rfl) (by kernel_rfl) (by decide) (fun _ _ _ h => h) (by rfl) (by assumption) ?_
 try simp only [Act.put, zqa, zqb, zqc]
 refine pickN 9 (some 14) rfl rfl (by kernel_rfl) (by kernel_rfl) (by kernel_rfl) (by decide) (fun _ _ _ h => h) (by rfl) (by assumption) ?_
 try simp only [Act.put, zqa, zqb, zqc]
 refine pickN 10 (some 15) rfl rfl (by kernel_rfl) (by kernel_rfl) (by kernel_rfl) (by decide) (fun _ _ _ h => h) (by rfl) (by assumption) ?_
 try simp only [Act.put, zqa, zqb, zqc]
 refine pickN 11 (some 16) rfl rfl (by kernel_rfl) (by kernel_rfl) (by kernel_rfl) (by decide) (fun _ _ _ h => h) (by rfl) (by assumption) ?_
 try simp only [Act.put, zqa, zqb, zqc]
 refine pickN 12 (some 17) rfl rfl (by kernel_rfl) (by kernel_rfl) (by kernel_rfl) (by decide) (fun _ _ _ h => h) (by rfl) (by assumption) ?_
 try simp only [Act.put, zqa, zqb, zqc]
 refine pickN 13 (some 18) rfl rfl (by kernel_rfl) (by kernel_rfl) (by kernel_rfl) (by decide) (fun _ _ _ h => h) (by rfl) (by assumption) ?_
 try simp only [Act.put, zqa, zqb, zqc]
 refine pickN 14 (some 19) rfl rfl (by kernel_rfl) (by kernel_rfl) (by kernel_rfl) (by decide) (fun _ _ _ h => h) (by rfl) (by assumption) ?_
 try simp only [Act.put, zqa, zqb, zqc]
 refine pkA (v := ?_) 15 (some 20) rfl rfl ?_ (by assumption) ?_
 rotate_left
 · intro w'
   go_simp
   try with_reducible rfl
 try simp only [Act.put, zqa, zqb, zqc]
 refine pkA (v := ?_) 16 (some 4) rfl rfl ?_ (by assumption) ?_
 rotate_left
 · intro w'
   go_simp
   try with_reducible rfl
 try simp only [Act.put, zqa, zqb, zqc]
 refine doneL (by kernel_rfl) ?_ _
 clear hHeld
 go_wp2
 go_ret
 exact ⟨rfl, B.out⟩

set_option maxHeartbeats 2000000 in
set_option maxRecDepth 100000 in
theorem rBegins_c (N Bn Mn Cn : Nat) (hN : N ≤ 32) (hM : Mn ≤ 32) (hBn : Bn < 18446744073709551616) (hCn : Cn < 18446744073709551616) (h1 : rt (N : Int) (Bn : Int) = true) (h2 : rt (Mn : Int) (Cn : Int) = true) (w : World) : Calls Tryz.prog 90 #[(.agg #[.int .i64 ((N : Int)), .int .u64 ((Bn : Int))]), (.agg #[.int .i64 ((Mn : Int)), .int .u64 ((Cn : Int))])] w fun e w' => e = .returned (.bool (((cmn (bl N Bn) (bl Mn Cn) : Nat) : Int) == (Mn : Int))) ∧ Below w.heap.size w w' := by
 have Q1 := hide h1
 have Q2 := hide h2
 clear h1 h2
 have mixed : Tryz.prog.follows .mixedOrders = true := by kernel_rfl
 have b1 := (((Below.refl w.heap.size w).alloc (Nat.le_refl _) (.cells #[.int .i64 (N : Int), .int .u64 (Bn : Int)] 27)).alloc (by simp) (.cells #[.int .i64 (Mn : Int), .int .u64 (Cn : Int)] 27)).drew
 have A0 := ((IsB.new w #[.int .i64 (N : Int), .int .u64 (Bn : Int)] 27).below ((Below.refl _ _).alloc (Nat.le_refl _) (.cells #[.int .i64 (Mn : Int), .int .u64 (Cn : Int)] 27))).below ((Below.refl _ _).drew)
 have C0 := (IsB.new (w.alloc (.cells #[.int .i64 (N : Int), .int .u64 (Bn : Int)] 27)) #[.int .i64 (Mn : Int), .int .u64 (Cn : Int)] 27).below ((Below.refl _ _).drew)
 rw [World.size_alloc] at C0
 have A := hide A0
 have C := hide C0
 have B := hide b1
 clear A0 C0 b1
 go_enter Tryz.func90, Tryz.ntmps90
 go_wp2_with fail
 obtain ⟨H, hH⟩ : ∃ H, w.heap.size = H := ⟨_, rfl⟩
 rw [hH] at A C ⊢
 replace hH := hide hH
 refine regionL 17 (fun w' => IsB w' H #[.int .i64 (N : Int), .int .u64 (Bn : Int)] 27 ∧ IsB w' (H + 1) #[.int .i64 (Mn : Int), .int .u64 (Cn : Int)] 27) mixed ⟨A.out, C.out⟩ (fun hHeld => ?_)
 generalize ((w.alloc (.cells #[.int .i64 (N : Int), .int .u64 (Bn : Int)] 27)).alloc (.cells #[.int .i64 (Mn : Int), .int .u64 (Cn : Int)] 27)).drew = WD at *
 refine pkL (v := .agg #[.int .i64 (N : Int), .int .u64 (Bn : Int)]) 0 (some 5) rfl rfl ?_ (by assumption) ?_
 · intro w' hSw
   obtain ⟨q0, q1⟩ := hSw
   have z0 : w'.cell? ⟨H + 1, 0, none⟩ = some (.int .i64 (Mn : Int)) := q1.cell 0
   exact exec_load rfl rfl (ld_vec2 q0)
 try simp only [Act.put, zqa, zqb, zqc]
 refine oneL (i := 1) (by kernel_rfl) rfl (fun K hK => ?_)
 go_simp
 refine (rright_any (N : Int) (Bn : Int) WD).mono ?_
 rintro e w2 ⟨rfl, hb⟩
 rw [Q1.out]
 replace A := hide (A.out.below hb)
 replace C := hide (C.out.below hb)
 replace B := hide (B.out.trans (hb.mono B.out.size))
 clear hb
 refine hK.out _ _ ?_ ?_
 · exact ⟨A.out, C.out⟩
 clear hK K
 try simp only [Act.put, zqa, zqb, zqc]
 clear hHeld
 have hHeld : (fun w' => IsB w' H #[.int .i64 (N : Int), .int .u64 (Bn : Int)] 27 ∧ IsB w' (H + 1) #[.int .i64 (Mn : Int), .int .u64 (Cn : Int)] 27) w2 := ⟨A.out, C.out⟩
 refine pkA (v := ?_) 2 (some 7) rfl rfl ?_ (by assumption) ?_
 rotate_left
 · intro w'
   go_simp
   try with_reducible rfl
 try simp only [Act.put, zqa, zqb, zqc]
 refine pkL (v := .agg #[.int .i64 (Mn : Int), .int .u64 (Cn : Int)]) 3 (some 8) rfl rfl ?_ (by assumption) ?_
 · intro w' hSw
   obtain ⟨q0, q1⟩ := hSw
   have z0 : w'.cell? ⟨H + 1, 0, none⟩ = some (.int .i64 (Mn : Int)) := q1.cell 0
   exact exec_load rfl rfl (ld_vec2 q1)
 try simp only [Act.put, zqa, zqb, zqc]
 refine oneL (i := 4) (by kernel_rfl) rfl (fun K hK => ?_)
 go_simp
 refine (rright_any (Mn : Int) (Cn : Int) w2).mono ?_
 rintro e w3 ⟨rfl, hb⟩
 rw [Q2.out]
 replace A := hide (A.out.below hb)
 replace C := hide (C.out.below hb)
 replace B := hide (B.out.trans (hb.mono B.out.size))
 clear hb
 refine hK.out _ _ ?_ ?_
 · exact ⟨A.out, C.out⟩
 clear hK K
 try simp only [Act.put, zqa, zqb, zqc]
 clear hHeld
 have hHeld : (fun w' => IsB w' H #[.int .i64 (N : Int), .int .u64 (Bn : Int)] 27 ∧ IsB w' (H + 1) #[.int .i64 (Mn : Int), .int .u64 (Cn : Int)] 27) w3 := ⟨A.out, C.out⟩
 refine pkA (v := ?_) 5 (some 10) rfl rfl ?_ (by assumption) ?_
 rotate_left
 · intro w'
   go_simp
   try with_reducible rfl
 try simp only [Act.put, zqa, zqb, zqc]
 refine pkA (v := ?_) 6 (some 11) rfl rfl ?_ (by assumption) ?_
 rotate_left
 · intro w'
   go_simp
   try with_reducible rfl
 try simp only [Act.put, zqa, zqb, zqc]
 refine pkL (v := .agg #[.int .i64 (N : Int), .int .u64 (Bn : Int)]) 7 (some 12) rfl rfl ?_ (by assumption) ?_
 · intro w' hSw
   obtain ⟨q0, q1⟩ := hSw
   have z0 : w'.cell? ⟨H + 1, 0, none⟩ = some (.int .i64 (Mn : Int)) := q1.cell 0
   exact exec_load rfl rfl (ld_vec2 q0)
 try simp only [Act.put, zqa, zqb, zqc]
 refine pkL (v := .agg #[.int .i64 (Mn : Int), .int .u64 (Cn : Int)]) 9 (some 14) rfl rfl ?_ (by assumption) ?_
 · intro w' hSw
   obtain ⟨q0, q1⟩ := hSw
   have z0 : w'.cell? ⟨H + 1, 0, none⟩ = some (.int .i64 (Mn : Int)) := q1.cell 0
   exact exec_load rfl rfl (ld_vec2 q1)
 try simp only [Act.put, zqa, zqb, zqc]
 refine pkA (v := ?_) 12 (some 17) rfl rfl ?_ (by assumption) ?_
 rotate_left
 · intro w'
   go_simp
   try with_reducible rfl
 try simp only [Act.put, zqa, zqb, zqc]
 refine pkL (v := ?_) 13 (some 18) rfl rfl ?_ (by assumption) ?_
 rotate_left
 · intro w' hSw
   obtain ⟨q0, q1⟩ := hSw
   have z0 : w'.cell? ⟨H + 1, 0, none⟩ = some (.int .i64 (Mn : Int)) := q1.cell 0
   go_simp
   try with_reducible rfl
 try simp only [Act.put, zqa, zqb, zqc]
 refine oneL (i := 8) (by kernel_rfl) rfl (fun K hK => ?_)
 go_simp
 refine (bits_any N Bn hN hBn w3).mono ?_
 rintro e w4 ⟨g, rfl, hg, hown, hb⟩
 replace A := hide (A.out.below hb)
 replace C := hide (C.out.below hb)
 replace B := hide (B.out.trans (hb.mono B.out.size))
 have O1 := hide hown
 clear hown hg
 clear hb
 refine hK.out _ _ ?_ ?_
 · exact ⟨A.out, C.out⟩
 clear hK K
 try simp only [Act.put, zqa, zqb, zqc]
 clear hHeld
 have hHeld : (fun w' => IsB w' H #[.int .i64 (N : Int), .int .u64 (Bn : Int)] 27 ∧ IsB w' (H + 1) #[.int .i64 (Mn : Int), .int .u64 (Cn : Int)] 27) w4 := ⟨A.out, C.out⟩
 refine oneL (i := 10) (by kernel_rfl) rfl (fun K hK => ?_)
 go_simp
 refine (bits_any Mn Cn hM hCn w4).mono ?_
 rintro e w5 ⟨g2, rfl, hg, hown, hb⟩
 replace A := hide (A.out.below hb)
 replace C := hide (C.out.below hb)
 replace B := hide (B.out.trans (hb.mono B.out.size))
 have O2 := hide hown
 replace O1 := hide (ownsRow_below O1.out hb)
 clear hown hg
 clear hb
 refine hK.out _ _ ?_ ?_
 · exact ⟨A.out, C.out⟩
 clear hK K
 try simp only [Act.put, zqa, zqb, zqc]
 clear hHeld
 have hHeld : (fun w' => IsB w' H #[.int .i64 (N : Int), .int .u64 (Bn : Int)] 27 ∧ IsB w' (H + 1) #[.int .i64 (Mn : Int), .int .u64 (Cn : Int)] 27) w5 := ⟨A.out, C.out⟩
 refine oneL (i := 11) (by kernel_rfl) rfl (fun K hK => ?_)
 go_simp
 refine (rcommon_any g g2 N Mn N Mn (bl N Bn) (bl Mn Cn) w5 (bl_length _ _) (bl_length _ _) (by omega) (by omega) (row_of O1.out).2.1 (row_of O2.out).2.1).mono ?_
 rintro e w6 ⟨rfl, hb⟩
 replace A := hide (A.out.below hb)
 replace C := hide (C.out.below hb)
 replace B := hide (B.out.trans (hb.mono B.out.size))
 clear hb
 refine hK.out _ _ ?_ ?_
 · exact ⟨A.out, C.out⟩
 clear hK K
 try simp only [Act.put, zqa, zqb, zqc]
 clear hHeld
 have hHeld : (fun w' => IsB w' H #[.int .i64 (N : Int), .int .u64 (Bn : Int)] 27 ∧ IsB w' (H + 1) #[.int .i64 (Mn : Int), .int .u64 (Cn : Int)] 27) w6 := ⟨A.out, C.out⟩
 refine pkA (v := ?_) 14 (some 19) rfl rfl ?_ (by assumption) ?_
 rotate_left
 · intro w'
   go_simp
   try with_reducible rfl
 try simp only [Act.put, zqa, zqb, zqc]
 refine pkA (v := ?_) 15 (some 20) rfl rfl ?_ (by assumption) ?_
 rotate_left
 · intro w'
   go_simp
   try with_reducible rfl
 try simp only [Act.put, zqa, zqb, zqc]
 refine pkA (v := ?_) 16 (some 4) rfl rfl ?_ (by assumption) ?_
 rotate_left
 · intro w'
   go_simp
   try with_reducible rfl
 try simp only [Act.put, zqa, zqb, zqc]
 refine doneL (by kernel_rfl) ?_ _
 clear hHeld
 go_wp2
 go_ret
 exact ⟨rfl, B.out⟩

theorem rBegins_any (n b m c : Int) (hb : 0 ≤ b) (hc : 0 ≤ c) (w : World) : Calls Tryz.prog 90 #[(.agg #[.int .i64 (n), .int .u64 (b)]), (.agg #[.int .i64 (m), .int .u64 (c)])] w fun e w' => e = .returned (.bool (bgS n b m c)) ∧ Below w.heap.size w w' := by
 cases q1 : rt n b with
 | false =>
   have e : bgS n b m c = false := by unfold bgS; rw [q1]; rfl
   rw [e]; exact rBegins_a n b m c q1 w
 | true =>
   cases q2 : rt m c with
   | false =>
     have e : bgS n b m c = false := by unfold bgS; rw [q1, q2]; rfl
     rw [e]; exact rBegins_b n b m c q1 q2 w
   | true =>
     obtain ⟨n, b, m, c, rfl, rfl, rfl, rfl, h1, h2, h3, h4, h5, h6⟩ := both_nat (rbS_zero.2 ⟨q1, q2⟩) hb hc
     have E : bgS (n : Int) b m c = ((cmn (bl n b) (bl m c) : Nat) == (m : Int)) := by
       have := cmn_pre n b m c h3 h4
       unfold bgS
       rw [q1, q2]
       simp only [Bool.true_and, Int.toNat_natCast]
       rw [Bool.eq_iff_iff]
       simp only [Bool.and_eq_true, decide_eq_true_eq, beq_iff_eq]
       omega
     rw [E]
     exact rBegins_c n b m c h1 h2 h5 h6 q1 q2 w

set_option maxHeartbeats 400000 in
set_option maxRecDepth 100000 in
theorem isOwner_any (a o : Int) (w : World) : Calls Tryz.prog 28 #[.agg #[.int .i64 a, .int .i64 o]] w fun e w' => e = .returned (.bool (okO a o)) ∧ Below w.heap.size w w' := by
 by_cases h0 : a < 0
 · have E : okO a o = false := decide_eq_false (by omega)
   rw [E]
   have d0 : decide (0 ≤ a) = false := decide_eq_false (by omega)
   go_enter Tryz.func28, Tryz.ntmps28
   go_wp2
   go_ret
   exact ⟨rfl, by repeat (first | exact Below.refl _ _ | refine Below.alloc ?_ (by simp) _)⟩
 by_cases h1 : 1024 ≤ a
 · have E : okO a o = false := decide_eq_false (by omega)
   rw [E]
   have d0 : decide (0 ≤ a) = true := decide_eq_true (by omega)
   have d1 : decide (a < 1024) = false := decide_eq_false (by omega)
   go_enter Tryz.func28, Tryz.ntmps28
   go_wp2
   go_ret
   exact ⟨rfl, by repeat (first | exact Below.refl _ _ | refine Below.alloc ?_ (by simp) _)⟩
 by_cases h2 : o < 1
 · have E : okO a o = false := decide_eq_false (by omega)
   rw [E]
   have d0 : decide (0 ≤ a) = true := decide_eq_true (by omega)
   have d1 : decide (a < 1024) = true := decide_eq_true (by omega)
   have d2 : decide (1 ≤ o) = false := decide_eq_false (by omega)
   go_enter Tryz.func28, Tryz.ntmps28
   go_wp2
   go_ret
   exact ⟨rfl, by repeat (first | exact Below.refl _ _ | refine Below.alloc ?_ (by simp) _)⟩
 by_cases h3 : 1073741824 < o
 · have E : okO a o = false := decide_eq_false (by omega)
   rw [E]
   have d0 : decide (0 ≤ a) = true := decide_eq_true (by omega)
   have d1 : decide (a < 1024) = true := decide_eq_true (by omega)
   have d2 : decide (1 ≤ o) = true := decide_eq_true (by omega)
   have d3 : decide (o ≤ 1073741824) = false := decide_eq_false (by omega)
   go_enter Tryz.func28, Tryz.ntmps28
   go_wp2
   go_ret
   exact ⟨rfl, by repeat (first | exact Below.refl _ _ | refine Below.alloc ?_ (by simp) _)⟩
 have E : okO a o = true := decide_eq_true (by omega)
 rw [E]
 have d0 : decide (0 ≤ a) = true := decide_eq_true (by omega)
 have d1 : decide (a < 1024) = true := decide_eq_true (by omega)
 have d2 : decide (1 ≤ o) = true := decide_eq_true (by omega)
 have d3 : decide (o ≤ 1073741824) = true := decide_eq_true (by omega)
 go_enter Tryz.func28, Tryz.ntmps28
 go_wp2
 go_ret
 exact ⟨rfl, by repeat (first | exact Below.refl _ _ | refine Below.alloc ?_ (by simp) _)⟩

set_option maxHeartbeats 2000000 in
set_option maxRecDepth 100000 in
theorem rnew_bad (wl wb : Int) (me : Rf) (oa oo : Int) (hb0 : 0 ≤ me.bt) (hc0 : 0 ≤ wb) (hm : umayC wl wb me oa oo = false) (w : World) : Calls Tryz.prog 57 #[.agg (ucfL wl wb me oa oo).toArray] w fun e w' => e = .returned (.tuple #[.pointer none, .int .i64 140]) ∧ Below w.heap.size w w' := by
 replace hm := hide hm
 have b1 := (Below.refl w.heap.size w).alloc (Nat.le_refl _) (.cells (ucfL wl wb me oa oo).toArray 100)
 have CB := hide (IsB.new w (ucfL wl wb me oa oo).toArray 100)
 have B := hide b1
 clear b1
 have y3 : (w.alloc (.cells (ucfL wl wb me oa oo).toArray 100)).cell? ⟨w.heap.size, 3, none⟩ = some (.int .i64 me.rk) := CB.out.cell 3
 by_cases h1 : me.rk = 2
 rotate_left
 · have e1 : (me.rk == 2) = false := by simpa using h1
   have e2 : (me.rk != 2) = true := by simpa using h1
   clear hm
   generalize me.rk = rk at *
   go_enter Tryz.func57, Tryz.ntmps57
   go_wp2
   refine bodyPost_ret (results_tmp2 Tryz.results57 _ _ _) rfl ?_
   exact ⟨rfl, B.out⟩
 rw [h1] at y3
 replace h1 := hide h1
 have L1 := hide (ld_cmev CB.out)
 go_enter Tryz.func57, Tryz.ntmps57
 go_wp2_with (first | (focus ((with_reducible refine wpList_load_w ?_ 27 (.tmp 11) ?_ ?_ L1.out ?_); rotate_left; rfl; rfl; rotate_left; rfl)))
 generalize (w.alloc (.cells (ucfL wl wb me oa oo).toArray 100)) = W1 at *
 refine (rright_any me.ln me.bt W1).mono ?_
 rintro e w1 ⟨rfl, hb⟩
 replace CB := hide (CB.out.below hb)
 replace B := hide (B.out.trans (hb.mono B.out.size))
 clear hb
 clear L1 y3
 by_cases h0 : rt me.ln me.bt = true
 rotate_left
 · replace h0 : rt me.ln me.bt = false := by simpa using h0
   rw [h0]
   clear hm h0
   go_wp2
   refine bodyPost_ret (results_tmp2 Tryz.results57 _ _ _) rfl ?_
   exact ⟨rfl, B.out⟩
 replace h0 := hide h0
 rw [h0.out]
 have L1 := hide (ld_cmev CB.out)
 have L2 := hide (ld_cw CB.out)
 go_wp2_with (first | (focus ((with_reducible refine wpList_load_w ?_ 27 (.tmp 18) ?_ ?_ L1.out ?_); rotate_left; rfl; rfl; rotate_left; rfl)) | (focus ((with_reducible refine wpList_load_w ?_ 27 (.tmp 20) ?_ ?_ L2.out ?_); rotate_left; rfl; rfl; rotate_left; rfl)))
 refine (rBegins_any me.ln me.bt wl wb hb0 hc0 w1).mono ?_
 rintro e w2 ⟨rfl, hb⟩
 replace CB := hide (CB.out.below hb)
 replace B := hide (B.out.trans (hb.mono B.out.size))
 clear hb
 clear L1 L2
 by_cases h2 : bgS me.ln me.bt wl wb = true
 rotate_left
 · replace h2 : bgS me.ln me.bt wl wb = false := by simpa using h2
   rw [h2]
   clear hm h0 h1 h2
   go_wp2
   refine bodyPost_ret (results_tmp2 Tryz.results57 _ _ _) rfl ?_
   exact ⟨rfl, B.out⟩
 replace h2 := hide h2
 rw [h2.out]
 have L6 := hide (ld_cow CB.out)
 go_wp2_with (first | (focus ((with_reducible refine wpList_load_w ?_ 31 (.tmp 26) ?_ ?_ L6.out ?_); rotate_left; rfl; rfl; rotate_left; rfl)))
 refine (isOwner_any oa oo w2).mono ?_
 rintro e w5 ⟨rfl, hb⟩
 replace CB := hide (CB.out.below hb)
 replace B := hide (B.out.trans (hb.mono B.out.size))
 clear hb
 clear L6
 have h5 : okO oa oo = false := by
   cases h5 : okO oa oo with
   | false => rfl
   | true => have hm2 := hm.out; unfold umayC at hm2; rw [h2.out, h5, h1.out] at hm2; simp at hm2
 rw [h5]
 clear hm h0 h1 h2 h5
 go_wp2
 refine bodyPost_ret (results_tmp2 Tryz.results57 _ _ _) rfl ?_
 exact ⟨rfl, B.out⟩

set_option maxHeartbeats 2000000 in
set_option maxRecDepth 100000 in
theorem rnew_ok (wl wb : Int) (me : Rf) (oa oo : Int) (hb0 : 0 ≤ me.bt) (hc0 : 0 ≤ wb) (hm : umayC wl wb me oa oo = true) (w : World) : Calls Tryz.prog 57 #[.agg (ucfL wl wb me oa oo).toArray] w fun e w' => ∃ d, e = .returned (.tuple #[.pointer (some ⟨d, 0, none⟩), .int .i64 0]) ∧ DsAt w' d (newD wl wb me oa oo) ∧ w.heap.size ≤ d ∧ Below w.heap.size w w' := by
 unfold umayC at hm
 simp only [Bool.and_eq_true, beq_iff_eq] at hm
 obtain ⟨h1, h2, h5⟩ := hm
 replace h2 := hide h2
 replace h5 := hide h5
 have h0 : rt me.ln me.bt = true := by
   have g2 := h2.out
   unfold bgS at g2
   simp only [Bool.and_eq_true] at g2
   exact g2.1.1.1
 replace h0 := hide h0
 have b1 := (Below.refl w.heap.size w).alloc (Nat.le_refl _) (.cells (ucfL wl wb me oa oo).toArray 100)
 have CB := hide (IsB.new w (ucfL wl wb me oa oo).toArray 100)
 have B := hide b1
 clear b1
 have y3 : (w.alloc (.cells (ucfL wl wb me oa oo).toArray 100)).cell? ⟨w.heap.size, 3, none⟩ = some (.int .i64 me.rk) := CB.out.cell 3
 rw [h1] at y3
 replace h1 := hide h1
 have L1 := hide (ld_cmev CB.out)
 go_enter Tryz.func57, Tryz.ntmps57
 go_wp2_with (first | (focus ((with_reducible refine wpList_load_w ?_ 27 (.tmp 11) ?_ ?_ L1.out ?_); rotate_left; rfl; rfl; rotate_left; rfl)))
 generalize (w.alloc (.cells (ucfL wl wb me oa oo).toArray 100)) = W1 at *
 refine (rright_any me.ln me.bt W1).mono ?_
 rintro e w1 ⟨rfl, hb⟩
 replace CB := hide (CB.out.below hb)
 replace B := hide (B.out.trans (hb.mono B.out.size))
 clear hb
 clear L1 y3
 rw [h0.out]
 have L1 := hide (ld_cmev CB.out)
 have L2 := hide (ld_cw CB.out)
 go_wp2_with (first | (focus ((with_reducible refine wpList_load_w ?_ 27 (.tmp 18) ?_ ?_ L1.out ?_); rotate_left; rfl; rfl; rotate_left; rfl)) | (focus ((with_reducible refine wpList_load_w ?_ 27 (.tmp 20) ?_ ?_ L2.out ?_); rotate_left; rfl; rfl; rotate_left; rfl)))
 refine (rBegins_any me.ln me.bt wl wb hb0 hc0 w1).mono ?_
 rintro e w2 ⟨rfl, hb⟩
 replace CB := hide (CB.out.below hb)
 replace B := hide (B.out.trans (hb.mono B.out.size))
 clear hb
 clear L1 L2
 rw [h2.out]
 have L6 := hide (ld_cow CB.out)
 go_wp2_with (first | (focus ((with_reducible refine wpList_load_w ?_ 31 (.tmp 26) ?_ ?_ L6.out ?_); rotate_left; rfl; rfl; rotate_left; rfl)))
 refine (isOwner_any oa oo w2).mono ?_
 rintro e w5 ⟨rfl, hb⟩
 replace CB := hide (CB.out.below hb)
 replace B := hide (B.out.trans (hb.mono B.out.size))
 clear hb
 clear L6
 rw [h5.out]
 have LC : Hid ((Instr.loadAt 100 (.pointer (some ⟨w.heap.size, 0, none⟩))).run Tryz.prog w5 = .ok (.agg #[.int .i64 wl, .int .u64 wb, .int .i64 me.id, .int .i64 me.rk, .int .u64 me.kn, .int .i64 me.ln, .int .u64 me.bt, .int .i64 oa, .int .i64 oo]) w5) := ld_cconf CB.out
 have bS := (Below.refl w5.heap.size w5).alloc (Nat.le_refl _) (.cells (usL (newD wl wb me oa oo)).toArray 102)
 have F0 : Hid (DsAt (w5.alloc (.cells (usL (newD wl wb me oa oo)).toArray 102)) w5.heap.size (newD wl wb me oa oo)) := IsB.new w5 _ _
 have hsz := hide B.out.size
 replace B := hide (B.out.trans (bS.mono B.out.size))
 clear bS CB h0 h1 h2 h5
 go_wp2_with (first | (focus ((with_reducible refine wpList_load_w ?_ 100 (.tmp 1) ?_ ?_ LC.out ?_); rotate_left; rfl; rfl; rotate_left; rfl)))
 refine bodyPost_ret (results_tmp2 Tryz.results57 _ _ _) rfl ?_
 exact ⟨w5.heap.size, rfl, F0.out, hsz.out, B.out⟩

end Go.Proofs.YtokehogcenjefaaGreatDoor.Un
