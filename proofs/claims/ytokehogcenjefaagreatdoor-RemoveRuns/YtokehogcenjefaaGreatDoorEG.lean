/- The document's ask, Next. -/
import Derived.Test.YtokehogcenjefaaGreatDoorED
namespace Go.Proofs.YtokehogcenjefaaGreatDoor.Un
open Go.RowKit Go.Maps Go.ChangeMaps

theorem store_newr (w : World) (r : Rf) : (Instr.storeAt 29 (.pointer (some ⟨w.heap.size, 0, none⟩)) (.agg r.cells)).run Tryz.prog (w.alloc (.cells #[.int .i64 0, .int .i64 0, .int .u64 0, .int .i64 0, .int .u64 0] 29)) = .ok () (w.alloc (.cells r.cells 29)) := run_storeAt_new w 29 _ r.cells ref_info rfl (by kernel_rfl)

theorem ask_info : (Tryz.prog.info? 47).map (·.size) = some 15 := by kernel_rfl
set_option maxRecDepth 100000 in
theorem store_ask (w : World) (cs : Array Value) (hs : cs.size = 15) (h1 : cs.all (·.oneCell') = true) : (Instr.storeAt 47 (.pointer (some ⟨w.heap.size, 0, none⟩)) (.agg cs)).run Tryz.prog (w.alloc (.cells #[.int .i64 0, .int .i64 0, .int .u64 0, .int .i64 0, .int .i64 0, .int .u64 0, .int .i64 0, .int .u64 0, .int .i64 0, .int .i64 0, .int .u64 0, .int .i64 0, .int .u64 0, .int .i64 0, .int .i64 0] 47)) = .ok () (w.alloc (.cells cs 47)) := run_storeAt_new w 47 _ cs (by rw [hs]; exact ask_info) (by rw [hs]; rfl) h1
section
variable {w : World} {b : Nat} {q x y : Int} {r1 r2 : Rf} {oa oo : Int} (I : IsB w b (akL q x y r1 r2 oa oo).toArray 47)
include I
theorem sa_kind (k : Int) : ∃ w', (Instr.storeAt 45 (.pointer (some ⟨b, 0, none⟩)) (.int .i64 k)).run Tryz.prog w = .ok () w' ∧ IsB w' b (akL k x y r1 r2 oa oo).toArray 47 ∧ Kp [b] w w' :=
 store_one I 0 _ (.int .i64 k) (by simp [akL]) (by kernel_rfl) rfl rfl
theorem sa_r1 (r : Rf) : ∃ w', (Instr.storeAt 29 (.pointer (some ⟨b, 3, none⟩)) (.agg r.cells)).run Tryz.prog w = .ok () w' ∧ IsB w' b (akL q x y r r2 oa oo).toArray 47 ∧ Kp [b] w w' :=
 store_mid I 3 _ r.cs (by simp [akL, Rf.cs]) (by kernel_rfl) (by simp [Rf.cs, Value.oneCell'])
theorem sa_r2 (r : Rf) : ∃ w', (Instr.storeAt 29 (.pointer (some ⟨b, 8, none⟩)) (.agg r.cells)).run Tryz.prog w = .ok () w' ∧ IsB w' b (akL q x y r1 r oa oo).toArray 47 ∧ Kp [b] w w' :=
 store_mid I 8 _ r.cs (by simp [akL, Rf.cs]) (by kernel_rfl) (by simp [Rf.cs, Value.oneCell'])
theorem sa_own (a2 o2 : Int) : ∃ w', (Instr.storeAt 31 (.pointer (some ⟨b, 13, none⟩)) (.agg #[.int .i64 a2, .int .i64 o2])).run Tryz.prog w = .ok () w' ∧ IsB w' b (akL q x y r1 r2 a2 o2).toArray 47 ∧ Kp [b] w w' := st_asko I a2 o2
end

set_option maxHeartbeats 2000000 in
set_option maxRecDepth 100000 in
theorem dask_own (b : Nat) (S : Us) (k : Int) (h1 : ¬k = 1) (h6 : ¬k = 6) (to rr : Rf) (w : World) (X : DsAt w b S) : Calls Tryz.prog 52 #[.pointer (some ⟨b, 0, none⟩), .int .i64 k, .agg to.cells, .agg rr.cells] w fun e' w' => e' = .returned (.agg (stL 1 to k S.wl S.wb rr zr S.oa S.oo 0 zr zr).toArray) ∧ Below w.heap.size w w' := by
 have mixed : Tryz.prog.follows .mixedOrders = true := by kernel_rfl
 have e1 : (k == 1) = false := by simpa using h1
 have e6 : (k == 6) = false := by simpa using h6
 clear h1 h6
 have T0 : IsB (((w.alloc (.cells to.cells 29)).alloc (.cells rr.cells 29)).alloc (.cells #[.int .i64 0, .int .i64 0, .int .i64 0, .int .u64 0, .int .i64 0, .int .u64 0, .int .i64 0, .int .i64 0, .int .u64 0, .int .i64 0, .int .i64 0, .int .u64 0, .int .i64 0, .int .u64 0, .int .i64 0, .int .i64 0, .int .u64 0, .int .i64 0, .int .u64 0, .int .i64 0, .int .i64 0, .int .i64 0, .int .u64 0, .slice none 0 0, .slice none 0 0, .int .i64 0, .int .i64 0, .int .u64 0, .int .i64 0, .int .u64 0, .int .i64 0, .int .i64 0, .int .u64 0, .int .i64 0, .int .u64 0, .bool false] 53)) w.heap.size to.cells 29 := (IsB.new w to.cells 29).below (((Below.refl _ _).alloc (Nat.le_refl _) _).alloc (by simp) _)
 have R0 : IsB (((w.alloc (.cells to.cells 29)).alloc (.cells rr.cells 29)).alloc (.cells #[.int .i64 0, .int .i64 0, .int .i64 0, .int .u64 0, .int .i64 0, .int .u64 0, .int .i64 0, .int .i64 0, .int .u64 0, .int .i64 0, .int .i64 0, .int .u64 0, .int .i64 0, .int .u64 0, .int .i64 0, .int .i64 0, .int .u64 0, .int .i64 0, .int .u64 0, .int .i64 0, .int .i64 0, .int .i64 0, .int .u64 0, .slice none 0 0, .slice none 0 0, .int .i64 0, .int .i64 0, .int .u64 0, .int .i64 0, .int .u64 0, .int .i64 0, .int .i64 0, .int .u64 0, .int .i64 0, .int .u64 0, .bool false] 53)) (w.heap.size + 1) rr.cells 29 := by
   have := (IsB.new (w.alloc (.cells to.cells 29)) rr.cells 29).below ((Below.refl _ _).alloc (Nat.le_refl _) (.cells #[.int .i64 0, .int .i64 0, .int .i64 0, .int .u64 0, .int .i64 0, .int .u64 0, .int .i64 0, .int .i64 0, .int .u64 0, .int .i64 0, .int .i64 0, .int .u64 0, .int .i64 0, .int .u64 0, .int .i64 0, .int .i64 0, .int .u64 0, .int .i64 0, .int .u64 0, .int .i64 0, .int .i64 0, .int .i64 0, .int .u64 0, .slice none 0 0, .slice none 0 0, .int .i64 0, .int .i64 0, .int .u64 0, .int .i64 0, .int .u64 0, .int .i64 0, .int .i64 0, .int .u64 0, .int .i64 0, .int .u64 0, .bool false] 53))
   rwa [World.size_alloc] at this
 have P0 : IsB (((w.alloc (.cells to.cells 29)).alloc (.cells rr.cells 29)).alloc (.cells #[.int .i64 0, .int .i64 0, .int .i64 0, .int .u64 0, .int .i64 0, .int .u64 0, .int .i64 0, .int .i64 0, .int .u64 0, .int .i64 0, .int .i64 0, .int .u64 0, .int .i64 0, .int .u64 0, .int .i64 0, .int .i64 0, .int .u64 0, .int .i64 0, .int .u64 0, .int .i64 0, .int .i64 0, .int .i64 0, .int .u64 0, .slice none 0 0, .slice none 0 0, .int .i64 0, .int .i64 0, .int .u64 0, .int .i64 0, .int .u64 0, .int .i64 0, .int .i64 0, .int .u64 0, .int .i64 0, .int .u64 0, .bool false] 53)) (w.heap.size + 1 + 1) (stL 0 zr 0 0 0 zr zr 0 0 0 zr zr).toArray 53 := by
   have := IsB.new ((w.alloc (.cells to.cells 29)).alloc (.cells rr.cells 29)) #[.int .i64 0, .int .i64 0, .int .i64 0, .int .u64 0, .int .i64 0, .int .u64 0, .int .i64 0, .int .i64 0, .int .u64 0, .int .i64 0, .int .i64 0, .int .u64 0, .int .i64 0, .int .u64 0, .int .i64 0, .int .i64 0, .int .u64 0, .int .i64 0, .int .u64 0, .int .i64 0, .int .i64 0, .int .i64 0, .int .u64 0, .slice none 0 0, .slice none 0 0, .int .i64 0, .int .i64 0, .int .u64 0, .int .i64 0, .int .u64 0, .int .i64 0, .int .i64 0, .int .u64 0, .int .i64 0, .int .u64 0, .bool false] 53
   rw [World.size_alloc, World.size_alloc] at this
   exact this
 have b3 := (((Below.refl w.heap.size w).alloc (Nat.le_refl _) (.cells to.cells 29)).alloc (by simp) (.cells rr.cells 29)).alloc (by simp; omega) (.cells #[.int .i64 0, .int .i64 0, .int .i64 0, .int .u64 0, .int .i64 0, .int .u64 0, .int .i64 0, .int .i64 0, .int .u64 0, .int .i64 0, .int .i64 0, .int .u64 0, .int .i64 0, .int .u64 0, .int .i64 0, .int .i64 0, .int .u64 0, .int .i64 0, .int .u64 0, .int .i64 0, .int .i64 0, .int .i64 0, .int .u64 0, .slice none 0 0, .slice none 0 0, .int .i64 0, .int .i64 0, .int .u64 0, .int .i64 0, .int .u64 0, .int .i64 0, .int .i64 0, .int .u64 0, .int .i64 0, .int .u64 0, .bool false] 53)
 have bd := (Below.refl (((w.alloc (.cells to.cells 29)).alloc (.cells rr.cells 29)).alloc (.cells #[.int .i64 0, .int .i64 0, .int .i64 0, .int .u64 0, .int .i64 0, .int .u64 0, .int .i64 0, .int .i64 0, .int .u64 0, .int .i64 0, .int .i64 0, .int .u64 0, .int .i64 0, .int .u64 0, .int .i64 0, .int .i64 0, .int .u64 0, .int .i64 0, .int .u64 0, .int .i64 0, .int .i64 0, .int .i64 0, .int .u64 0, .slice none 0 0, .slice none 0 0, .int .i64 0, .int .i64 0, .int .u64 0, .int .i64 0, .int .u64 0, .int .i64 0, .int .i64 0, .int .u64 0, .int .i64 0, .int .u64 0, .bool false] 53)).heap.size (((w.alloc (.cells to.cells 29)).alloc (.cells rr.cells 29)).alloc (.cells #[.int .i64 0, .int .i64 0, .int .i64 0, .int .u64 0, .int .i64 0, .int .u64 0, .int .i64 0, .int .i64 0, .int .u64 0, .int .i64 0, .int .i64 0, .int .u64 0, .int .i64 0, .int .u64 0, .int .i64 0, .int .i64 0, .int .u64 0, .int .i64 0, .int .u64 0, .int .i64 0, .int .i64 0, .int .i64 0, .int .u64 0, .slice none 0 0, .slice none 0 0, .int .i64 0, .int .i64 0, .int .u64 0, .int .i64 0, .int .u64 0, .int .i64 0, .int .i64 0, .int .u64 0, .int .i64 0, .int .u64 0, .bool false] 53))).drew
 have ID := hide (IsB.below (X.below b3) bd)
 have RD := hide (R0.below bd)
 have TD := hide (T0.below bd)
 have PD := hide (P0.below bd)
 have B := hide b3.drew
 clear b3 bd T0 R0 P0 X
 go_enter Tryz.func52, Tryz.ntmps52
 go_wp2_with fail
 refine regionL 14 (fun w' => DsAt w' b S ∧ IsB w' (w.heap.size + 1) rr.cells 29) mixed ⟨ID.out, RD.out⟩ (fun hHeld => ?_)
 generalize (((w.alloc (.cells to.cells 29)).alloc (.cells rr.cells 29)).alloc (.cells #[.int .i64 0, .int .i64 0, .int .i64 0, .int .u64 0, .int .i64 0, .int .u64 0, .int .i64 0, .int .i64 0, .int .u64 0, .int .i64 0, .int .i64 0, .int .u64 0, .int .i64 0, .int .u64 0, .int .i64 0, .int .i64 0, .int .u64 0, .int .i64 0, .int .u64 0, .int .i64 0, .int .i64 0, .int .i64 0, .int .u64 0, .slice none 0 0, .slice none 0 0, .int .i64 0, .int .i64 0, .int .u64 0, .int .i64 0, .int .u64 0, .int .i64 0, .int .i64 0, .int .u64 0, .int .i64 0, .int .u64 0, .bool false] 53)).drew = WD at *
 have bA := (Below.refl WD.heap.size WD).alloc (Nat.le_refl _) (.cells #[.int .i64 0, .int .i64 0, .int .u64 0, .int .i64 0, .int .i64 0, .int .u64 0, .int .i64 0, .int .u64 0, .int .i64 0, .int .i64 0, .int .u64 0, .int .i64 0, .int .u64 0, .int .i64 0, .int .i64 0] 47)
 have IA : Hid (DsAt (WD.alloc (.cells #[.int .i64 0, .int .i64 0, .int .u64 0, .int .i64 0, .int .i64 0, .int .u64 0, .int .i64 0, .int .u64 0, .int .i64 0, .int .i64 0, .int .u64 0, .int .i64 0, .int .u64 0, .int .i64 0, .int .i64 0] 47)) b S ∧ IsB (WD.alloc (.cells #[.int .i64 0, .int .i64 0, .int .u64 0, .int .i64 0, .int .i64 0, .int .u64 0, .int .i64 0, .int .u64 0, .int .i64 0, .int .i64 0, .int .u64 0, .int .i64 0, .int .u64 0, .int .i64 0, .int .i64 0] 47)) (w.heap.size + 1) rr.cells 29) := ⟨ID.out.below bA, RD.out.below bA⟩
 have SA := hide (store_ask WD (akL k S.wl S.wb rr zr S.oa S.oo).toArray rfl (by kernel_rfl))
 clear bA
 refine pkA (v := ?_) 0 (some 10) rfl rfl ?_ (by assumption) ?_
 rotate_left
 · intro w'
   go_simp
   try with_reducible rfl
 try simp only [Act.put, zqa, zqb, zqc]
 refine pkA (v := ?_) 1 (some 11) rfl rfl ?_ (by assumption) ?_
 rotate_left
 · intro w'
   go_simp
   try with_reducible rfl
 try simp only [Act.put, zqa, zqb, zqc]
 refine pkA (v := ?_) 2 (some 12) rfl rfl ?_ (by assumption) ?_
 rotate_left
 · intro w'
   go_simp
   try with_reducible rfl
 try simp only [Act.put, zqa, zqb, zqc]
 refine pkA (v := ?_) 3 (some 13) rfl rfl ?_ (by assumption) ?_
 rotate_left
 · intro w'
   go_simp
   try with_reducible rfl
 try simp only [Act.put, zqa, zqb, zqc]
 refine pkA (v := ?_) 4 (some 14) rfl rfl ?_ (by assumption) ?_
 rotate_left
 · intro w'
   go_simp
   try with_reducible rfl
 try simp only [Act.put, zqa, zqb, zqc]
 refine pkL (v := .agg #[.int .i64 S.wl, .int .u64 S.wb]) 5 (some 15) rfl rfl ?_ (by assumption) ?_
 · intro w' hSw
   obtain ⟨q0, q1⟩ := hSw
   exact exec_load rfl rfl (dld_w q0)
 try simp only [Act.put, zqa, zqb, zqc]
 refine pkL (v := .agg rr.cells) 6 (some 16) rfl rfl ?_ (by assumption) ?_
 · intro w' hSw
   obtain ⟨q0, q1⟩ := hSw
   exact exec_load rfl rfl (load_ref q1 rfl)
 try simp only [Act.put, zqa, zqb, zqc]
 refine pkA (v := ?_) 7 (some 17) rfl rfl ?_ (by assumption) ?_
 rotate_left
 · intro w'
   go_simp
   try with_reducible rfl
 try simp only [Act.put, zqa, zqb, zqc]
 refine pkA (v := ?_) 8 (some 18) rfl rfl ?_ (by assumption) ?_
 rotate_left
 · intro w'
   go_simp
   try with_reducible rfl
 try simp only [Act.put, zqa, zqb, zqc]
 refine pkA (v := ?_) 9 (some 19) rfl rfl ?_ (by assumption) ?_
 rotate_left
 · intro w'
   go_simp
   try with_reducible rfl
 try simp only [Act.put, zqa, zqb, zqc]
 refine pkA (v := ?_) 10 (some 20) rfl rfl ?_ (by assumption) ?_
 rotate_left
 · intro w'
   go_simp
   try with_reducible rfl
 try simp only [Act.put, zqa, zqb, zqc]
 refine pkL (v := .agg #[.int .i64 S.oa, .int .i64 S.oo]) 11 (some 21) rfl rfl ?_ (by assumption) ?_
 · intro w' hSw
   obtain ⟨q0, q1⟩ := hSw
   exact exec_load rfl rfl (dld_owner q0)
 try simp only [Act.put, zqa, zqb, zqc]
 refine pkA (v := .agg (akL k S.wl S.wb rr zr S.oa S.oo).toArray) 12 (some 22) rfl rfl ?_ (by assumption) ?_
 · intro w'
   kernel_rfl
 try simp only [Act.put, zqa, zqb, zqc]
 refine oneL (i := 13) (by kernel_rfl) rfl (fun K hK => ?_)
 go_simp
 refine hK.out _ _ ?_ ?_
 · exact IA.out
 clear hK K
 try simp only [Act.put, zqa, zqb, zqc]
 clear hHeld
 have hHeld : (fun w' => DsAt w' b S ∧ IsB w' (w.heap.size + 1) rr.cells 29) (WD.alloc (.cells #[.int .i64 0, .int .i64 0, .int .u64 0, .int .i64 0, .int .i64 0, .int .u64 0, .int .i64 0, .int .u64 0, .int .i64 0, .int .i64 0, .int .u64 0, .int .i64 0, .int .u64 0, .int .i64 0, .int .i64 0] 47)) := IA.out
 refine lateL (i := 14) (by kernel_rfl) rfl (by decide) (by kernel_rfl) (fun K hK => ?_)
 refine step_store_w rfl 47 (.tmp 9) (.tmp 22) rfl rfl rfl SA.out ?_
 refine hK.out _ _ ?_
 clear hK K
 try simp only [Act.put, List.setIfInBounds_toArray]
 refine doneL (by kernel_rfl) ?_ _
 clear hHeld
 clear IA SA ID RD
 have b4 := (Below.refl WD.heap.size WD).alloc (Nat.le_refl _) (.cells (akL k S.wl S.wb rr zr S.oa S.oo).toArray 47)
 have A := hide (IsB.new WD (akL k S.wl S.wb rr zr S.oa S.oo).toArray 47)
 have hAB := hide B.out.size
 have hge : Hid (w.heap.size + 3 ≤ WD.heap.size) := by have := PD.out.lt; show w.heap.size + 3 ≤ _; omega
 replace TD := hide (TD.out.below b4)
 replace PD := hide (PD.out.below b4)
 replace B := hide (B.out.trans (b4.mono B.out.size))
 clear b4
 generalize hW4 : (WD.alloc (.cells (akL k S.wl S.wb rr zr S.oa S.oo).toArray 47)) = W4 at *
 clear hW4
 obtain ⟨AB, hABe⟩ : ∃ AB, WD.heap.size = AB := ⟨_, rfl⟩
 rw [hABe] at A hAB hge ⊢
 clear hABe
 have w5e : Hid (Kp [AB] W4 W4) := Kp.refl _ _
 have LR : Hid ((Instr.loadAt 29 (.pointer (some ⟨w.heap.size, 0, none⟩))).run Tryz.prog W4 = .ok (.agg #[.int .i64 to.id, .int .i64 to.rk, .int .u64 to.kn, .int .i64 to.ln, .int .u64 to.bt]) W4) := load_ref TD.out rfl
 have LA : Hid ((Instr.loadAt 47 (.pointer (some ⟨AB, 0, none⟩))).run Tryz.prog W4 = .ok (.agg #[.int .i64 k, .int .i64 S.wl, .int .u64 S.wb, .int .i64 rr.id, .int .i64 rr.rk, .int .u64 rr.kn, .int .i64 rr.ln, .int .u64 rr.bt, .int .i64 0, .int .i64 0, .int .u64 0, .int .i64 0, .int .u64 0, .int .i64 S.oa, .int .i64 S.oo]) W4) := ld_ask A.out
 obtain ⟨w6, hs6, P6', k6⟩ := ust_step PD.out rfl 1 to k S.wl S.wb rr zr S.oa S.oo 0 zr zr
 have HS6 := hide hs6
 have P6 := hide P6'
 have B6 : Hid (Below w.heap.size w w6) := B.out.trans (k6.to_below B.out.size (by simp; omega))
 clear hs6 P6' k6 B PD
 go_wp2_with (first | (focus ((with_reducible refine wpList_load_w ?_ 29 (.tmp 6) ?_ ?_ LR.out ?_); rotate_left; rfl; rfl; rotate_left; rfl)) | (focus ((with_reducible refine wpList_load_w ?_ 47 (.tmp 9) ?_ ?_ LA.out ?_); rotate_left; rfl; rfl; rotate_left; rfl)) | (focus ((with_reducible refine wpList_store_w ?_ 53 (.tmp 8) (.tmp 33) ?_ ?_ ?_ HS6.out ?_); rotate_left; rfl; rfl; rfl; rotate_left; rfl)))
 try simp only [Act.put]
 try go_wp2
 refine ret_step (p := 8) (b := w.heap.size + 1 + 1) Tryz.results52 rfl rfl P6.out ?_
 exact ⟨rfl, B6.out⟩

set_option maxHeartbeats 2000000 in
set_option maxRecDepth 100000 in
theorem dask_1 (b : Nat) (S : Us) (to rr : Rf) (w : World) (X : DsAt w b S) : Calls Tryz.prog 52 #[.pointer (some ⟨b, 0, none⟩), .int .i64 1, .agg to.cells, .agg rr.cells] w fun e' w' => e' = .returned (.agg (stL 1 to 1 S.wl S.wb rr zr 0 0 0 zr zr).toArray) ∧ Below w.heap.size w w' := by
 have mixed : Tryz.prog.follows .mixedOrders = true := by kernel_rfl
 have T0 : IsB (((w.alloc (.cells to.cells 29)).alloc (.cells rr.cells 29)).alloc (.cells #[.int .i64 0, .int .i64 0, .int .i64 0, .int .u64 0, .int .i64 0, .int .u64 0, .int .i64 0, .int .i64 0, .int .u64 0, .int .i64 0, .int .i64 0, .int .u64 0, .int .i64 0, .int .u64 0, .int .i64 0, .int .i64 0, .int .u64 0, .int .i64 0, .int .u64 0, .int .i64 0, .int .i64 0, .int .i64 0, .int .u64 0, .slice none 0 0, .slice none 0 0, .int .i64 0, .int .i64 0, .int .u64 0, .int .i64 0, .int .u64 0, .int .i64 0, .int .i64 0, .int .u64 0, .int .i64 0, .int .u64 0, .bool false] 53)) w.heap.size to.cells 29 := (IsB.new w to.cells 29).below (((Below.refl _ _).alloc (Nat.le_refl _) _).alloc (by simp) _)
 have R0 : IsB (((w.alloc (.cells to.cells 29)).alloc (.cells rr.cells 29)).alloc (.cells #[.int .i64 0, .int .i64 0, .int .i64 0, .int .u64 0, .int .i64 0, .int .u64 0, .int .i64 0, .int .i64 0, .int .u64 0, .int .i64 0, .int .i64 0, .int .u64 0, .int .i64 0, .int .u64 0, .int .i64 0, .int .i64 0, .int .u64 0, .int .i64 0, .int .u64 0, .int .i64 0, .int .i64 0, .int .i64 0, .int .u64 0, .slice none 0 0, .slice none 0 0, .int .i64 0, .int .i64 0, .int .u64 0, .int .i64 0, .int .u64 0, .int .i64 0, .int .i64 0, .int .u64 0, .int .i64 0, .int .u64 0, .bool false] 53)) (w.heap.size + 1) rr.cells 29 := by
   have := (IsB.new (w.alloc (.cells to.cells 29)) rr.cells 29).below ((Below.refl _ _).alloc (Nat.le_refl _) (.cells #[.int .i64 0, .int .i64 0, .int .i64 0, .int .u64 0, .int .i64 0, .int .u64 0, .int .i64 0, .int .i64 0, .int .u64 0, .int .i64 0, .int .i64 0, .int .u64 0, .int .i64 0, .int .u64 0, .int .i64 0, .int .i64 0, .int .u64 0, .int .i64 0, .int .u64 0, .int .i64 0, .int .i64 0, .int .i64 0, .int .u64 0, .slice none 0 0, .slice none 0 0, .int .i64 0, .int .i64 0, .int .u64 0, .int .i64 0, .int .u64 0, .int .i64 0, .int .i64 0, .int .u64 0, .int .i64 0, .int .u64 0, .bool false] 53))
   rwa [World.size_alloc] at this
 have P0 : IsB (((w.alloc (.cells to.cells 29)).alloc (.cells rr.cells 29)).alloc (.cells #[.int .i64 0, .int .i64 0, .int .i64 0, .int .u64 0, .int .i64 0, .int .u64 0, .int .i64 0, .int .i64 0, .int .u64 0, .int .i64 0, .int .i64 0, .int .u64 0, .int .i64 0, .int .u64 0, .int .i64 0, .int .i64 0, .int .u64 0, .int .i64 0, .int .u64 0, .int .i64 0, .int .i64 0, .int .i64 0, .int .u64 0, .slice none 0 0, .slice none 0 0, .int .i64 0, .int .i64 0, .int .u64 0, .int .i64 0, .int .u64 0, .int .i64 0, .int .i64 0, .int .u64 0, .int .i64 0, .int .u64 0, .bool false] 53)) (w.heap.size + 1 + 1) (stL 0 zr 0 0 0 zr zr 0 0 0 zr zr).toArray 53 := by
   have := IsB.new ((w.alloc (.cells to.cells 29)).alloc (.cells rr.cells 29)) #[.int .i64 0, .int .i64 0, .int .i64 0, .int .u64 0, .int .i64 0, .int .u64 0, .int .i64 0, .int .i64 0, .int .u64 0, .int .i64 0, .int .i64 0, .int .u64 0, .int .i64 0, .int .u64 0, .int .i64 0, .int .i64 0, .int .u64 0, .int .i64 0, .int .u64 0, .int .i64 0, .int .i64 0, .int .i64 0, .int .u64 0, .slice none 0 0, .slice none 0 0, .int .i64 0, .int .i64 0, .int .u64 0, .int .i64 0, .int .u64 0, .int .i64 0, .int .i64 0, .int .u64 0, .int .i64 0, .int .u64 0, .bool false] 53
   rw [World.size_alloc, World.size_alloc] at this
   exact this
 have b3 := (((Below.refl w.heap.size w).alloc (Nat.le_refl _) (.cells to.cells 29)).alloc (by simp) (.cells rr.cells 29)).alloc (by simp; omega) (.cells #[.int .i64 0, .int .i64 0, .int .i64 0, .int .u64 0, .int .i64 0, .int .u64 0, .int .i64 0, .int .i64 0, .int .u64 0, .int .i64 0, .int .i64 0, .int .u64 0, .int .i64 0, .int .u64 0, .int .i64 0, .int .i64 0, .int .u64 0, .int .i64 0, .int .u64 0, .int .i64 0, .int .i64 0, .int .i64 0, .int .u64 0, .slice none 0 0, .slice none 0 0, .int .i64 0, .int .i64 0, .int .u64 0, .int .i64 0, .int .u64 0, .int .i64 0, .int .i64 0, .int .u64 0, .int .i64 0, .int .u64 0, .bool false] 53)
 have bd := (Below.refl (((w.alloc (.cells to.cells 29)).alloc (.cells rr.cells 29)).alloc (.cells #[.int .i64 0, .int .i64 0, .int .i64 0, .int .u64 0, .int .i64 0, .int .u64 0, .int .i64 0, .int .i64 0, .int .u64 0, .int .i64 0, .int .i64 0, .int .u64 0, .int .i64 0, .int .u64 0, .int .i64 0, .int .i64 0, .int .u64 0, .int .i64 0, .int .u64 0, .int .i64 0, .int .i64 0, .int .i64 0, .int .u64 0, .slice none 0 0, .slice none 0 0, .int .i64 0, .int .i64 0, .int .u64 0, .int .i64 0, .int .u64 0, .int .i64 0, .int .i64 0, .int .u64 0, .int .i64 0, .int .u64 0, .bool false] 53)).heap.size (((w.alloc (.cells to.cells 29)).alloc (.cells rr.cells 29)).alloc (.cells #[.int .i64 0, .int .i64 0, .int .i64 0, .int .u64 0, .int .i64 0, .int .u64 0, .int .i64 0, .int .i64 0, .int .u64 0, .int .i64 0, .int .i64 0, .int .u64 0, .int .i64 0, .int .u64 0, .int .i64 0, .int .i64 0, .int .u64 0, .int .i64 0, .int .u64 0, .int .i64 0, .int .i64 0, .int .i64 0, .int .u64 0, .slice none 0 0, .slice none 0 0, .int .i64 0, .int .i64 0, .int .u64 0, .int .i64 0, .int .u64 0, .int .i64 0, .int .i64 0, .int .u64 0, .int .i64 0, .int .u64 0, .bool false] 53))).drew
 have ID := hide (IsB.below (X.below b3) bd)
 have RD := hide (R0.below bd)
 have TD := hide (T0.below bd)
 have PD := hide (P0.below bd)
 have B := hide b3.drew
 clear b3 bd T0 R0 P0 X
 go_enter Tryz.func52, Tryz.ntmps52
 go_wp2_with fail
 refine regionL 14 (fun w' => DsAt w' b S ∧ IsB w' (w.heap.size + 1) rr.cells 29) mixed ⟨ID.out, RD.out⟩ (fun hHeld => ?_)
 generalize (((w.alloc (.cells to.cells 29)).alloc (.cells rr.cells 29)).alloc (.cells #[.int .i64 0, .int .i64 0, .int .i64 0, .int .u64 0, .int .i64 0, .int .u64 0, .int .i64 0, .int .i64 0, .int .u64 0, .int .i64 0, .int .i64 0, .int .u64 0, .int .i64 0, .int .u64 0, .int .i64 0, .int .i64 0, .int .u64 0, .int .i64 0, .int .u64 0, .int .i64 0, .int .i64 0, .int .i64 0, .int .u64 0, .slice none 0 0, .slice none 0 0, .int .i64 0, .int .i64 0, .int .u64 0, .int .i64 0, .int .u64 0, .int .i64 0, .int .i64 0, .int .u64 0, .int .i64 0, .int .u64 0, .bool false] 53)).drew = WD at *
 have bA := (Below.refl WD.heap.size WD).alloc (Nat.le_refl _) (.cells #[.int .i64 0, .int .i64 0, .int .u64 0, .int .i64 0, .int .i64 0, .int .u64 0, .int .i64 0, .int .u64 0, .int .i64 0, .int .i64 0, .int .u64 0, .int .i64 0, .int .u64 0, .int .i64 0, .int .i64 0] 47)
 have IA : Hid (DsAt (WD.alloc (.cells #[.int .i64 0, .int .i64 0, .int .u64 0, .int .i64 0, .int .i64 0, .int .u64 0, .int .i64 0, .int .u64 0, .int .i64 0, .int .i64 0, .int .u64 0, .int .i64 0, .int .u64 0, .int .i64 0, .int .i64 0] 47)) b S ∧ IsB (WD.alloc (.cells #[.int .i64 0, .int .i64 0, .int .u64 0, .int .i64 0, .int .i64 0, .int .u64 0, .int .i64 0, .int .u64 0, .int .i64 0, .int .i64 0, .int .u64 0, .int .i64 0, .int .u64 0, .int .i64 0, .int .i64 0] 47)) (w.heap.size + 1) rr.cells 29) := ⟨ID.out.below bA, RD.out.below bA⟩
 have SA := hide (store_ask WD (akL 1 S.wl S.wb rr zr S.oa S.oo).toArray rfl (by kernel_rfl))
 clear bA
 refine pkA (v := ?_) 0 (some 10) rfl rfl ?_ (by assumption) ?_
 rotate_left
 · intro w'
   go_simp
   try with_reducible rfl
 try simp only [Act.put, zqa, zqb, zqc]
 refine pkA (v := ?_) 1 (some 11) rfl rfl ?_ (by assumption) ?_
 rotate_left
 · intro w'
   go_simp
   try with_reducible rfl
 try simp only [Act.put, zqa, zqb, zqc]
 refine pkA (v := ?_) 2 (some 12) rfl rfl ?_ (by assumption) ?_
 rotate_left
 · intro w'
   go_simp
   try with_reducible rfl
 try simp only [Act.put, zqa, zqb, zqc]
 refine pkA (v := ?_) 3 (some 13) rfl rfl ?_ (by assumption) ?_
 rotate_left
 · intro w'
   go_simp
   try with_reducible rfl
 try simp only [Act.put, zqa, zqb, zqc]
 refine pkA (v := ?_) 4 (some 14) rfl rfl ?_ (by assumption) ?_
 rotate_left
 · intro w'
   go_simp
   try with_reducible rfl
 try simp only [Act.put, zqa, zqb, zqc]
 refine pkL (v := .agg #[.int .i64 S.wl, .int .u64 S.wb]) 5 (some 15) rfl rfl ?_ (by assumption) ?_
 · intro w' hSw
   obtain ⟨q0, q1⟩ := hSw
   exact exec_load rfl rfl (dld_w q0)
 try simp only [Act.put, zqa, zqb, zqc]
 refine pkL (v := .agg rr.cells) 6 (some 16) rfl rfl ?_ (by assumption) ?_
 · intro w' hSw
   obtain ⟨q0, q1⟩ := hSw
   exact exec_load rfl rfl (load_ref q1 rfl)
 try simp only [Act.put, zqa, zqb, zqc]
 refine pkA (v := ?_) 7 (some 17) rfl rfl ?_ (by assumption) ?_
 rotate_left
 · intro w'
   go_simp
   try with_reducible rfl
 try simp only [Act.put, zqa, zqb, zqc]
 refine pkA (v := ?_) 8 (some 18) rfl rfl ?_ (by assumption) ?_
 rotate_left
 · intro w'
   go_simp
   try with_reducible rfl
 try simp only [Act.put, zqa, zqb, zqc]
 refine pkA (v := ?_) 9 (some 19) rfl rfl ?_ (by assumption) ?_
 rotate_left
 · intro w'
   go_simp
   try with_reducible rfl
 try simp only [Act.put, zqa, zqb, zqc]
 refine pkA (v := ?_) 10 (some 20) rfl rfl ?_ (by assumption) ?_
 rotate_left
 · intro w'
   go_simp
   try with_reducible rfl
 try simp only [Act.put, zqa, zqb, zqc]
 refine pkL (v := .agg #[.int .i64 S.oa, .int .i64 S.oo]) 11 (some 21) rfl rfl ?_ (by assumption) ?_
 · intro w' hSw
   obtain ⟨q0, q1⟩ := hSw
   exact exec_load rfl rfl (dld_owner q0)
 try simp only [Act.put, zqa, zqb, zqc]
 refine pkA (v := .agg (akL 1 S.wl S.wb rr zr S.oa S.oo).toArray) 12 (some 22) rfl rfl ?_ (by assumption) ?_
 · intro w'
   kernel_rfl
 try simp only [Act.put, zqa, zqb, zqc]
 refine oneL (i := 13) (by kernel_rfl) rfl (fun K hK => ?_)
 go_simp
 refine hK.out _ _ ?_ ?_
 · exact IA.out
 clear hK K
 try simp only [Act.put, zqa, zqb, zqc]
 clear hHeld
 have hHeld : (fun w' => DsAt w' b S ∧ IsB w' (w.heap.size + 1) rr.cells 29) (WD.alloc (.cells #[.int .i64 0, .int .i64 0, .int .u64 0, .int .i64 0, .int .i64 0, .int .u64 0, .int .i64 0, .int .u64 0, .int .i64 0, .int .i64 0, .int .u64 0, .int .i64 0, .int .u64 0, .int .i64 0, .int .i64 0] 47)) := IA.out
 refine lateL (i := 14) (by kernel_rfl) rfl (by decide) (by kernel_rfl) (fun K hK => ?_)
 refine step_store_w rfl 47 (.tmp 9) (.tmp 22) rfl rfl rfl SA.out ?_
 refine hK.out _ _ ?_
 clear hK K
 try simp only [Act.put, List.setIfInBounds_toArray]
 refine doneL (by kernel_rfl) ?_ _
 clear hHeld
 clear IA SA ID RD
 have b4 := (Below.refl WD.heap.size WD).alloc (Nat.le_refl _) (.cells (akL 1 S.wl S.wb rr zr S.oa S.oo).toArray 47)
 have A := hide (IsB.new WD (akL 1 S.wl S.wb rr zr S.oa S.oo).toArray 47)
 have hAB := hide B.out.size
 have hge : Hid (w.heap.size + 3 ≤ WD.heap.size) := by have := PD.out.lt; show w.heap.size + 3 ≤ _; omega
 replace TD := hide (TD.out.below b4)
 replace PD := hide (PD.out.below b4)
 replace B := hide (B.out.trans (b4.mono B.out.size))
 clear b4
 generalize hW4 : (WD.alloc (.cells (akL 1 S.wl S.wb rr zr S.oa S.oo).toArray 47)) = W4 at *
 clear hW4
 obtain ⟨AB, hABe⟩ : ∃ AB, WD.heap.size = AB := ⟨_, rfl⟩
 rw [hABe] at A hAB hge ⊢
 clear hABe
 obtain ⟨w5, hs5, A5, k5⟩ := st_asko A.out 0 0
 have HS5 := hide hs5
 replace TD := hide (TD.out.kp k5 (by have := hge.out; simp; omega))
 replace PD := hide (PD.out.kp k5 (by have := hge.out; simp; omega))
 replace B := hide (B.out.trans (k5.to_below B.out.size (by simpa using hAB.out)))
 replace A := hide A5
 clear hs5 A5 k5
 have LR : Hid ((Instr.loadAt 29 (.pointer (some ⟨w.heap.size, 0, none⟩))).run Tryz.prog w5 = .ok (.agg #[.int .i64 to.id, .int .i64 to.rk, .int .u64 to.kn, .int .i64 to.ln, .int .u64 to.bt]) w5) := load_ref TD.out rfl
 have LA : Hid ((Instr.loadAt 47 (.pointer (some ⟨AB, 0, none⟩))).run Tryz.prog w5 = .ok (.agg #[.int .i64 1, .int .i64 S.wl, .int .u64 S.wb, .int .i64 rr.id, .int .i64 rr.rk, .int .u64 rr.kn, .int .i64 rr.ln, .int .u64 rr.bt, .int .i64 0, .int .i64 0, .int .u64 0, .int .i64 0, .int .u64 0, .int .i64 0, .int .i64 0]) w5) := ld_ask A.out
 obtain ⟨w6, hs6, P6', k6⟩ := ust_step PD.out rfl 1 to 1 S.wl S.wb rr zr 0 0 0 zr zr
 have HS6 := hide hs6
 have P6 := hide P6'
 have B6 : Hid (Below w.heap.size w w6) := B.out.trans (k6.to_below B.out.size (by simp; omega))
 clear hs6 P6' k6 B PD
 go_wp2_with (first | (focus ((with_reducible refine wpList_store_w ?_ 31 (.tmp 30) (.tmp 29) ?_ ?_ ?_ HS5.out ?_); rotate_left; rfl; rfl; rfl; rotate_left; rfl)) | (focus ((with_reducible refine wpList_load_w ?_ 29 (.tmp 6) ?_ ?_ LR.out ?_); rotate_left; rfl; rfl; rotate_left; rfl)) | (focus ((with_reducible refine wpList_load_w ?_ 47 (.tmp 9) ?_ ?_ LA.out ?_); rotate_left; rfl; rfl; rotate_left; rfl)) | (focus ((with_reducible refine wpList_store_w ?_ 53 (.tmp 8) (.tmp 33) ?_ ?_ ?_ HS6.out ?_); rotate_left; rfl; rfl; rfl; rotate_left; rfl)))
 try simp only [Act.put]
 try go_wp2
 refine ret_step (p := 8) (b := w.heap.size + 1 + 1) Tryz.results52 rfl rfl P6.out ?_
 exact ⟨rfl, B6.out⟩

set_option maxHeartbeats 2000000 in
set_option maxRecDepth 100000 in
theorem dask_6 (b : Nat) (S : Us) (to rr : Rf) (w : World) (X : DsAt w b S) : Calls Tryz.prog 52 #[.pointer (some ⟨b, 0, none⟩), .int .i64 6, .agg to.cells, .agg rr.cells] w fun e' w' => e' = .returned (.agg (stL 1 to 6 S.wl S.wb rr zr 0 0 0 zr zr).toArray) ∧ Below w.heap.size w w' := by
 have mixed : Tryz.prog.follows .mixedOrders = true := by kernel_rfl
 have T0 : IsB (((w.alloc (.cells to.cells 29)).alloc (.cells rr.cells 29)).alloc (.cells #[.int .i64 0, .int .i64 0, .int .i64 0, .int .u64 0, .int .i64 0, .int .u64 0, .int .i64 0, .int .i64 0, .int .u64 0, .int .i64 0, .int .i64 0, .int .u64 0, .int .i64 0, .int .u64 0, .int .i64 0, .int .i64 0, .int .u64 0, .int .i64 0, .int .u64 0, .int .i64 0, .int .i64 0, .int .i64 0, .int .u64 0, .slice none 0 0, .slice none 0 0, .int .i64 0, .int .i64 0, .int .u64 0, .int .i64 0, .int .u64 0, .int .i64 0, .int .i64 0, .int .u64 0, .int .i64 0, .int .u64 0, .bool false] 53)) w.heap.size to.cells 29 := (IsB.new w to.cells 29).below (((Below.refl _ _).alloc (Nat.le_refl _) _).alloc (by simp) _)
 have R0 : IsB (((w.alloc (.cells to.cells 29)).alloc (.cells rr.cells 29)).alloc (.cells #[.int .i64 0, .int .i64 0, .int .i64 0, .int .u64 0, .int .i64 0, .int .u64 0, .int .i64 0, .int .i64 0, .int .u64 0, .int .i64 0, .int .i64 0, .int .u64 0, .int .i64 0, .int .u64 0, .int .i64 0, .int .i64 0, .int .u64 0, .int .i64 0, .int .u64 0, .int .i64 0, .int .i64 0, .int .i64 0, .int .u64 0, .slice none 0 0, .slice none 0 0, .int .i64 0, .int .i64 0, .int .u64 0, .int .i64 0, .int .u64 0, .int .i64 0, .int .i64 0, .int .u64 0, .int .i64 0, .int .u64 0, .bool false] 53)) (w.heap.size + 1) rr.cells 29 := by
   have := (IsB.new (w.alloc (.cells to.cells 29)) rr.cells 29).below ((Below.refl _ _).alloc (Nat.le_refl _) (.cells #[.int .i64 0, .int .i64 0, .int .i64 0, .int .u64 0, .int .i64 0, .int .u64 0, .int .i64 0, .int .i64 0, .int .u64 0, .int .i64 0, .int .i64 0, .int .u64 0, .int .i64 0, .int .u64 0, .int .i64 0, .int .i64 0, .int .u64 0, .int .i64 0, .int .u64 0, .int .i64 0, .int .i64 0, .int .i64 0, .int .u64 0, .slice none 0 0, .slice none 0 0, .int .i64 0, .int .i64 0, .int .u64 0, .int .i64 0, .int .u64 0, .int .i64 0, .int .i64 0, .int .u64 0, .int .i64 0, .int .u64 0, .bool false] 53))
   rwa [World.size_alloc] at this
 have P0 : IsB (((w.alloc (.cells to.cells 29)).alloc (.cells rr.cells 29)).alloc (.cells #[.int .i64 0, .int .i64 0, .int .i64 0, .int .u64 0, .int .i64 0, .int .u64 0, .int .i64 0, .int .i64 0, .int .u64 0, .int .i64 0, .int .i64 0, .int .u64 0, .int .i64 0, .int .u64 0, .int .i64 0, .int .i64 0, .int .u64 0, .int .i64 0, .int .u64 0, .int .i64 0, .int .i64 0, .int .i64 0, .int .u64 0, .slice none 0 0, .slice none 0 0, .int .i64 0, .int .i64 0, .int .u64 0, .int .i64 0, .int .u64 0, .int .i64 0, .int .i64 0, .int .u64 0, .int .i64 0, .int .u64 0, .bool false] 53)) (w.heap.size + 1 + 1) (stL 0 zr 0 0 0 zr zr 0 0 0 zr zr).toArray 53 := by
   have := IsB.new ((w.alloc (.cells to.cells 29)).alloc (.cells rr.cells 29)) #[.int .i64 0, .int .i64 0, .int .i64 0, .int .u64 0, .int .i64 0, .int .u64 0, .int .i64 0, .int .i64 0, .int .u64 0, .int .i64 0, .int .i64 0, .int .u64 0, .int .i64 0, .int .u64 0, .int .i64 0, .int .i64 0, .int .u64 0, .int .i64 0, .int .u64 0, .int .i64 0, .int .i64 0, .int .i64 0, .int .u64 0, .slice none 0 0, .slice none 0 0, .int .i64 0, .int .i64 0, .int .u64 0, .int .i64 0, .int .u64 0, .int .i64 0, .int .i64 0, .int .u64 0, .int .i64 0, .int .u64 0, .bool false] 53
   rw [World.size_alloc, World.size_alloc] at this
   exact this
 have b3 := (((Below.refl w.heap.size w).alloc (Nat.le_refl _) (.cells to.cells 29)).alloc (by simp) (.cells rr.cells 29)).alloc (by simp; omega) (.cells #[.int .i64 0, .int .i64 0, .int .i64 0, .int .u64 0, .int .i64 0, .int .u64 0, .int .i64 0, .int .i64 0, .int .u64 0, .int .i64 0, .int .i64 0, .int .u64 0, .int .i64 0, .int .u64 0, .int .i64 0, .int .i64 0, .int .u64 0, .int .i64 0, .int .u64 0, .int .i64 0, .int .i64 0, .int .i64 0, .int .u64 0, .slice none 0 0, .slice none 0 0, .int .i64 0, .int .i64 0, .int .u64 0, .int .i64 0, .int .u64 0, .int .i64 0, .int .i64 0, .int .u64 0, .int .i64 0, .int .u64 0, .bool false] 53)
 have bd := (Below.refl (((w.alloc (.cells to.cells 29)).alloc (.cells rr.cells 29)).alloc (.cells #[.int .i64 0, .int .i64 0, .int .i64 0, .int .u64 0, .int .i64 0, .int .u64 0, .int .i64 0, .int .i64 0, .int .u64 0, .int .i64 0, .int .i64 0, .int .u64 0, .int .i64 0, .int .u64 0, .int .i64 0, .int .i64 0, .int .u64 0, .int .i64 0, .int .u64 0, .int .i64 0, .int .i64 0, .int .i64 0, .int .u64 0, .slice none 0 0, .slice none 0 0, .int .i64 0, .int .i64 0, .int .u64 0, .int .i64 0, .int .u64 0, .int .i64 0, .int .i64 0, .int .u64 0, .int .i64 0, .int .u64 0, .bool false] 53)).heap.size (((w.alloc (.cells to.cells 29)).alloc (.cells rr.cells 29)).alloc (.cells #[.int .i64 0, .int .i64 0, .int .i64 0, .int .u64 0, .int .i64 0, .int .u64 0, .int .i64 0, .int .i64 0, .int .u64 0, .int .i64 0, .int .i64 0, .int .u64 0, .int .i64 0, .int .u64 0, .int .i64 0, .int .i64 0, .int .u64 0, .int .i64 0, .int .u64 0, .int .i64 0, .int .i64 0, .int .i64 0, .int .u64 0, .slice none 0 0, .slice none 0 0, .int .i64 0, .int .i64 0, .int .u64 0, .int .i64 0, .int .u64 0, .int .i64 0, .int .i64 0, .int .u64 0, .int .i64 0, .int .u64 0, .bool false] 53))).drew
 have ID := hide (IsB.below (X.below b3) bd)
 have RD := hide (R0.below bd)
 have TD := hide (T0.below bd)
 have PD := hide (P0.below bd)
 have B := hide b3.drew
 clear b3 bd T0 R0 P0 X
 go_enter Tryz.func52, Tryz.ntmps52
 go_wp2_with fail
 refine regionL 14 (fun w' => DsAt w' b S ∧ IsB w' (w.heap.size + 1) rr.cells 29) mixed ⟨ID.out, RD.out⟩ (fun hHeld => ?_)
 generalize (((w.alloc (.cells to.cells 29)).alloc (.cells rr.cells 29)).alloc (.cells #[.int .i64 0, .int .i64 0, .int .i64 0, .int .u64 0, .int .i64 0, .int .u64 0, .int .i64 0, .int .i64 0, .int .u64 0, .int .i64 0, .int .i64 0, .int .u64 0, .int .i64 0, .int .u64 0, .int .i64 0, .int .i64 0, .int .u64 0, .int .i64 0, .int .u64 0, .int .i64 0, .int .i64 0, .int .i64 0, .int .u64 0, .slice none 0 0, .slice none 0 0, .int .i64 0, .int .i64 0, .int .u64 0, .int .i64 0, .int .u64 0, .int .i64 0, .int .i64 0, .int .u64 0, .int .i64 0, .int .u64 0, .bool false] 53)).drew = WD at *
 have bA := (Below.refl WD.heap.size WD).alloc (Nat.le_refl _) (.cells #[.int .i64 0, .int .i64 0, .int .u64 0, .int .i64 0, .int .i64 0, .int .u64 0, .int .i64 0, .int .u64 0, .int .i64 0, .int .i64 0, .int .u64 0, .int .i64 0, .int .u64 0, .int .i64 0, .int .i64 0] 47)
 have IA : Hid (DsAt (WD.alloc (.cells #[.int .i64 0, .int .i64 0, .int .u64 0, .int .i64 0, .int .i64 0, .int .u64 0, .int .i64 0, .int .u64 0, .int .i64 0, .int .i64 0, .int .u64 0, .int .i64 0, .int .u64 0, .int .i64 0, .int .i64 0] 47)) b S ∧ IsB (WD.alloc (.cells #[.int .i64 0, .int .i64 0, .int .u64 0, .int .i64 0, .int .i64 0, .int .u64 0, .int .i64 0, .int .u64 0, .int .i64 0, .int .i64 0, .int .u64 0, .int .i64 0, .int .u64 0, .int .i64 0, .int .i64 0] 47)) (w.heap.size + 1) rr.cells 29) := ⟨ID.out.below bA, RD.out.below bA⟩
 have SA := hide (store_ask WD (akL 6 S.wl S.wb rr zr S.oa S.oo).toArray rfl (by kernel_rfl))
 clear bA
 refine pkA (v := ?_) 0 (some 10) rfl rfl ?_ (by assumption) ?_
 rotate_left
 · intro w'
   go_simp
   try with_reducible rfl
 try simp only [Act.put, zqa, zqb, zqc]
 refine pkA (v := ?_) 1 (some 11) rfl rfl ?_ (by assumption) ?_
 rotate_left
 · intro w'
   go_simp
   try with_reducible rfl
 try simp only [Act.put, zqa, zqb, zqc]
 refine pkA (v := ?_) 2 (some 12) rfl rfl ?_ (by assumption) ?_
 rotate_left
 · intro w'
   go_simp
   try with_reducible rfl
 try simp only [Act.put, zqa, zqb, zqc]
 refine pkA (v := ?_) 3 (some 13) rfl rfl ?_ (by assumption) ?_
 rotate_left
 · intro w'
   go_simp
   try with_reducible rfl
 try simp only [Act.put, zqa, zqb, zqc]
 refine pkA (v := ?_) 4 (some 14) rfl rfl ?_ (by assumption) ?_
 rotate_left
 · intro w'
   go_simp
   try with_reducible rfl
 try simp only [Act.put, zqa, zqb, zqc]
 refine pkL (v := .agg #[.int .i64 S.wl, .int .u64 S.wb]) 5 (some 15) rfl rfl ?_ (by assumption) ?_
 · intro w' hSw
   obtain ⟨q0, q1⟩ := hSw
   exact exec_load rfl rfl (dld_w q0)
 try simp only [Act.put, zqa, zqb, zqc]
 refine pkL (v := .agg rr.cells) 6 (some 16) rfl rfl ?_ (by assumption) ?_
 · intro w' hSw
   obtain ⟨q0, q1⟩ := hSw
   exact exec_load rfl rfl (load_ref q1 rfl)
 try simp only [Act.put, zqa, zqb, zqc]
 refine pkA (v := ?_) 7 (some 17) rfl rfl ?_ (by assumption) ?_
 rotate_left
 · intro w'
   go_simp
   try with_reducible rfl
 try simp only [Act.put, zqa, zqb, zqc]
 refine pkA (v := ?_) 8 (some 18) rfl rfl ?_ (by assumption) ?_
 rotate_left
 · intro w'
   go_simp
   try with_reducible rfl
 try simp only [Act.put, zqa, zqb, zqc]
 refine pkA (v := ?_) 9 (some 19) rfl rfl ?_ (by assumption) ?_
 rotate_left
 · intro w'
   go_simp
   try with_reducible rfl
 try simp only [Act.put, zqa, zqb, zqc]
 refine pkA (v := ?_) 10 (some 20) rfl rfl ?_ (by assumption) ?_
 rotate_left
 · intro w'
   go_simp
   try with_reducible rfl
 try simp only [Act.put, zqa, zqb, zqc]
 refine pkL (v := .agg #[.int .i64 S.oa, .int .i64 S.oo]) 11 (some 21) rfl rfl ?_ (by assumption) ?_
 · intro w' hSw
   obtain ⟨q0, q1⟩ := hSw
   exact exec_load rfl rfl (dld_owner q0)
 try simp only [Act.put, zqa, zqb, zqc]
 refine pkA (v := .agg (akL 6 S.wl S.wb rr zr S.oa S.oo).toArray) 12 (some 22) rfl rfl ?_ (by assumption) ?_
 · intro w'
   kernel_rfl
 try simp only [Act.put, zqa, zqb, zqc]
 refine oneL (i := 13) (by kernel_rfl) rfl (fun K hK => ?_)
 go_simp
 refine hK.out _ _ ?_ ?_
 · exact IA.out
 clear hK K
 try simp only [Act.put, zqa, zqb, zqc]
 clear hHeld
 have hHeld : (fun w' => DsAt w' b S ∧ IsB w' (w.heap.size + 1) rr.cells 29) (WD.alloc (.cells #[.int .i64 0, .int .i64 0, .int .u64 0, .int .i64 0, .int .i64 0, .int .u64 0, .int .i64 0, .int .u64 0, .int .i64 0, .int .i64 0, .int .u64 0, .int .i64 0, .int .u64 0, .int .i64 0, .int .i64 0] 47)) := IA.out
 refine lateL (i := 14) (by kernel_rfl) rfl (by decide) (by kernel_rfl) (fun K hK => ?_)
 refine step_store_w rfl 47 (.tmp 9) (.tmp 22) rfl rfl rfl SA.out ?_
 refine hK.out _ _ ?_
 clear hK K
 try simp only [Act.put, List.setIfInBounds_toArray]
 refine doneL (by kernel_rfl) ?_ _
 clear hHeld
 clear IA SA ID RD
 have b4 := (Below.refl WD.heap.size WD).alloc (Nat.le_refl _) (.cells (akL 6 S.wl S.wb rr zr S.oa S.oo).toArray 47)
 have A := hide (IsB.new WD (akL 6 S.wl S.wb rr zr S.oa S.oo).toArray 47)
 have hAB := hide B.out.size
 have hge : Hid (w.heap.size + 3 ≤ WD.heap.size) := by have := PD.out.lt; show w.heap.size + 3 ≤ _; omega
 replace TD := hide (TD.out.below b4)
 replace PD := hide (PD.out.below b4)
 replace B := hide (B.out.trans (b4.mono B.out.size))
 clear b4
 generalize hW4 : (WD.alloc (.cells (akL 6 S.wl S.wb rr zr S.oa S.oo).toArray 47)) = W4 at *
 clear hW4
 obtain ⟨AB, hABe⟩ : ∃ AB, WD.heap.size = AB := ⟨_, rfl⟩
 rw [hABe] at A hAB hge ⊢
 clear hABe
 obtain ⟨w5, hs5, A5, k5⟩ := st_asko A.out 0 0
 have HS5 := hide hs5
 replace TD := hide (TD.out.kp k5 (by have := hge.out; simp; omega))
 replace PD := hide (PD.out.kp k5 (by have := hge.out; simp; omega))
 replace B := hide (B.out.trans (k5.to_below B.out.size (by simpa using hAB.out)))
 replace A := hide A5
 clear hs5 A5 k5
 have LR : Hid ((Instr.loadAt 29 (.pointer (some ⟨w.heap.size, 0, none⟩))).run Tryz.prog w5 = .ok (.agg #[.int .i64 to.id, .int .i64 to.rk, .int .u64 to.kn, .int .i64 to.ln, .int .u64 to.bt]) w5) := load_ref TD.out rfl
 have LA : Hid ((Instr.loadAt 47 (.pointer (some ⟨AB, 0, none⟩))).run Tryz.prog w5 = .ok (.agg #[.int .i64 6, .int .i64 S.wl, .int .u64 S.wb, .int .i64 rr.id, .int .i64 rr.rk, .int .u64 rr.kn, .int .i64 rr.ln, .int .u64 rr.bt, .int .i64 0, .int .i64 0, .int .u64 0, .int .i64 0, .int .u64 0, .int .i64 0, .int .i64 0]) w5) := ld_ask A.out
 obtain ⟨w6, hs6, P6', k6⟩ := ust_step PD.out rfl 1 to 6 S.wl S.wb rr zr 0 0 0 zr zr
 have HS6 := hide hs6
 have P6 := hide P6'
 have B6 : Hid (Below w.heap.size w w6) := B.out.trans (k6.to_below B.out.size (by simp; omega))
 clear hs6 P6' k6 B PD
 go_wp2_with (first | (focus ((with_reducible refine wpList_store_w ?_ 31 (.tmp 30) (.tmp 29) ?_ ?_ ?_ HS5.out ?_); rotate_left; rfl; rfl; rfl; rotate_left; rfl)) | (focus ((with_reducible refine wpList_load_w ?_ 29 (.tmp 6) ?_ ?_ LR.out ?_); rotate_left; rfl; rfl; rotate_left; rfl)) | (focus ((with_reducible refine wpList_load_w ?_ 47 (.tmp 9) ?_ ?_ LA.out ?_); rotate_left; rfl; rfl; rotate_left; rfl)) | (focus ((with_reducible refine wpList_store_w ?_ 53 (.tmp 8) (.tmp 33) ?_ ?_ ?_ HS6.out ?_); rotate_left; rfl; rfl; rfl; rotate_left; rfl)))
 try simp only [Act.put]
 try go_wp2
 refine ret_step (p := 8) (b := w.heap.size + 1 + 1) Tryz.results52 rfl rfl P6.out ?_
 exact ⟨rfl, B6.out⟩

set_option maxHeartbeats 2000000 in
set_option maxRecDepth 100000 in
theorem dn_1 (b : Nat) (S : Us) (hp : S.pl = 1) (w : World) (X : DsAt w b S) : Calls Tryz.prog 30 #[.pointer (some ⟨b, 0, none⟩)] w fun e' w' => e' = .returned (.agg (stL 1 S.me 1 S.wl S.wb zr zr 0 0 0 zr zr).toArray) ∧ Below w.heap.size w w' := by
 have mixed : Tryz.prog.follows .mixedOrders = true := by kernel_rfl
 have P0 : IsB ((w.alloc (.cells #[.int .i64 0, .int .i64 0, .int .i64 0, .int .u64 0, .int .i64 0, .int .u64 0, .int .i64 0, .int .i64 0, .int .u64 0, .int .i64 0, .int .i64 0, .int .u64 0, .int .i64 0, .int .u64 0, .int .i64 0, .int .i64 0, .int .u64 0, .int .i64 0, .int .u64 0, .int .i64 0, .int .i64 0, .int .i64 0, .int .u64 0, .slice none 0 0, .slice none 0 0, .int .i64 0, .int .i64 0, .int .u64 0, .int .i64 0, .int .u64 0, .int .i64 0, .int .i64 0, .int .u64 0, .int .i64 0, .int .u64 0, .bool false] 53)).alloc (.cells zr.cells 29)) w.heap.size (stL 0 zr 0 0 0 zr zr 0 0 0 zr zr).toArray 53 := (IsB.new w #[.int .i64 0, .int .i64 0, .int .i64 0, .int .u64 0, .int .i64 0, .int .u64 0, .int .i64 0, .int .i64 0, .int .u64 0, .int .i64 0, .int .i64 0, .int .u64 0, .int .i64 0, .int .u64 0, .int .i64 0, .int .i64 0, .int .u64 0, .int .i64 0, .int .u64 0, .int .i64 0, .int .i64 0, .int .i64 0, .int .u64 0, .slice none 0 0, .slice none 0 0, .int .i64 0, .int .i64 0, .int .u64 0, .int .i64 0, .int .u64 0, .int .i64 0, .int .i64 0, .int .u64 0, .int .i64 0, .int .u64 0, .bool false] 53).below ((Below.refl _ _).alloc (Nat.le_refl _) (.cells zr.cells 29))
 have N0 := IsB.new (w.alloc (.cells #[.int .i64 0, .int .i64 0, .int .i64 0, .int .u64 0, .int .i64 0, .int .u64 0, .int .i64 0, .int .i64 0, .int .u64 0, .int .i64 0, .int .i64 0, .int .u64 0, .int .i64 0, .int .u64 0, .int .i64 0, .int .i64 0, .int .u64 0, .int .i64 0, .int .u64 0, .int .i64 0, .int .i64 0, .int .i64 0, .int .u64 0, .slice none 0 0, .slice none 0 0, .int .i64 0, .int .i64 0, .int .u64 0, .int .i64 0, .int .u64 0, .int .i64 0, .int .i64 0, .int .u64 0, .int .i64 0, .int .u64 0, .bool false] 53)) zr.cells 29
 have SN0 := store_newr (w.alloc (.cells #[.int .i64 0, .int .i64 0, .int .i64 0, .int .u64 0, .int .i64 0, .int .u64 0, .int .i64 0, .int .i64 0, .int .u64 0, .int .i64 0, .int .i64 0, .int .u64 0, .int .i64 0, .int .u64 0, .int .i64 0, .int .i64 0, .int .u64 0, .int .i64 0, .int .u64 0, .int .i64 0, .int .i64 0, .int .i64 0, .int .u64 0, .slice none 0 0, .slice none 0 0, .int .i64 0, .int .i64 0, .int .u64 0, .int .i64 0, .int .u64 0, .int .i64 0, .int .i64 0, .int .u64 0, .int .i64 0, .int .u64 0, .bool false] 53)) zr
 rw [World.size_alloc] at N0 SN0
 have b2 := ((Below.refl w.heap.size w).alloc (Nat.le_refl _) (.cells #[.int .i64 0, .int .i64 0, .int .i64 0, .int .u64 0, .int .i64 0, .int .u64 0, .int .i64 0, .int .i64 0, .int .u64 0, .int .i64 0, .int .i64 0, .int .u64 0, .int .i64 0, .int .u64 0, .int .i64 0, .int .i64 0, .int .u64 0, .int .i64 0, .int .u64 0, .int .i64 0, .int .i64 0, .int .i64 0, .int .u64 0, .slice none 0 0, .slice none 0 0, .int .i64 0, .int .i64 0, .int .u64 0, .int .i64 0, .int .u64 0, .int .i64 0, .int .i64 0, .int .u64 0, .int .i64 0, .int .u64 0, .bool false] 53)).alloc (by simp) (.cells zr.cells 29)
 have I := hide (X.below b2)
 have y9 : ((w.alloc (.cells #[.int .i64 0, .int .i64 0, .int .i64 0, .int .u64 0, .int .i64 0, .int .u64 0, .int .i64 0, .int .i64 0, .int .u64 0, .int .i64 0, .int .i64 0, .int .u64 0, .int .i64 0, .int .u64 0, .int .i64 0, .int .i64 0, .int .u64 0, .int .i64 0, .int .u64 0, .int .i64 0, .int .i64 0, .int .i64 0, .int .u64 0, .slice none 0 0, .slice none 0 0, .int .i64 0, .int .i64 0, .int .u64 0, .int .i64 0, .int .u64 0, .int .i64 0, .int .i64 0, .int .u64 0, .int .i64 0, .int .u64 0, .bool false] 53)).alloc (.cells zr.cells 29)).cell? ⟨b, 9, none⟩ = some (.int .i64 S.pl) := dcl_at I.out
 rw [hp] at y9
 have SN := hide SN0
 have bd := (Below.refl ((w.alloc (.cells #[.int .i64 0, .int .i64 0, .int .i64 0, .int .u64 0, .int .i64 0, .int .u64 0, .int .i64 0, .int .i64 0, .int .u64 0, .int .i64 0, .int .i64 0, .int .u64 0, .int .i64 0, .int .u64 0, .int .i64 0, .int .i64 0, .int .u64 0, .int .i64 0, .int .u64 0, .int .i64 0, .int .i64 0, .int .i64 0, .int .u64 0, .slice none 0 0, .slice none 0 0, .int .i64 0, .int .i64 0, .int .u64 0, .int .i64 0, .int .u64 0, .int .i64 0, .int .i64 0, .int .u64 0, .int .i64 0, .int .u64 0, .bool false] 53)).alloc (.cells zr.cells 29)).heap.size ((w.alloc (.cells #[.int .i64 0, .int .i64 0, .int .i64 0, .int .u64 0, .int .i64 0, .int .u64 0, .int .i64 0, .int .i64 0, .int .u64 0, .int .i64 0, .int .i64 0, .int .u64 0, .int .i64 0, .int .u64 0, .int .i64 0, .int .i64 0, .int .u64 0, .int .i64 0, .int .u64 0, .int .i64 0, .int .i64 0, .int .i64 0, .int .u64 0, .slice none 0 0, .slice none 0 0, .int .i64 0, .int .i64 0, .int .u64 0, .int .i64 0, .int .u64 0, .int .i64 0, .int .i64 0, .int .u64 0, .int .i64 0, .int .u64 0, .bool false] 53)).alloc (.cells zr.cells 29))).drew
 have ID := hide (IsB.below I.out bd)
 have ND := hide (N0.below bd)
 have PD := hide (P0.below bd)
 have B := hide b2.drew
 clear bd P0 N0 b2 I X SN0 hp
 go_enter Tryz.func30, Tryz.ntmps30
 go_wp2_with (first | (focus ((with_reducible refine wpList_store_w ?_ 29 (.tmp 3) (.tmp 4) ?_ ?_ ?_ SN.out ?_); rotate_left; rfl; rfl; rfl; rotate_left; rfl)))
 clear y9 SN
 refine regionL 8 (fun w' => DsAt w' b S ∧ IsB w' (w.heap.size + 1) zr.cells 29) mixed ⟨ID.out, ND.out⟩ (fun hHeld => ?_)
 generalize ((w.alloc (.cells #[.int .i64 0, .int .i64 0, .int .i64 0, .int .u64 0, .int .i64 0, .int .u64 0, .int .i64 0, .int .i64 0, .int .u64 0, .int .i64 0, .int .i64 0, .int .u64 0, .int .i64 0, .int .u64 0, .int .i64 0, .int .i64 0, .int .u64 0, .int .i64 0, .int .u64 0, .int .i64 0, .int .i64 0, .int .i64 0, .int .u64 0, .slice none 0 0, .slice none 0 0, .int .i64 0, .int .i64 0, .int .u64 0, .int .i64 0, .int .u64 0, .int .i64 0, .int .i64 0, .int .u64 0, .int .i64 0, .int .u64 0, .bool false] 53)).alloc (.cells zr.cells 29)).drew = WD at *
 refine pkA (v := ?_) 0 (some 11) rfl rfl ?_ (by assumption) ?_
 rotate_left
 · intro w'
   go_simp
   try with_reducible rfl
 try simp only [Act.put, zqa, zqb, zqc]
 refine pkA (v := ?_) 1 (some 12) rfl rfl ?_ (by assumption) ?_
 rotate_left
 · intro w'
   go_simp
   try with_reducible rfl
 try simp only [Act.put, zqa, zqb, zqc]
 refine pkA (v := ?_) 2 (some 13) rfl rfl ?_ (by assumption) ?_
 rotate_left
 · intro w'
   go_simp
   try with_reducible rfl
 try simp only [Act.put, zqa, zqb, zqc]
 refine pkA (v := ?_) 3 (some 14) rfl rfl ?_ (by assumption) ?_
 rotate_left
 · intro w'
   go_simp
   try with_reducible rfl
 try simp only [Act.put, zqa, zqb, zqc]
 refine pkA (v := ?_) 4 (some 15) rfl rfl ?_ (by assumption) ?_
 rotate_left
 · intro w'
   go_simp
   try with_reducible rfl
 try simp only [Act.put, zqa, zqb, zqc]
 refine pkL (v := .agg S.me.cells) 5 (some 16) rfl rfl ?_ (by assumption) ?_
 · intro w' hSw
   obtain ⟨q0, q1⟩ := hSw
   exact exec_load rfl rfl (dld_me q0)
 try simp only [Act.put, zqa, zqb, zqc]
 refine pkL (v := .agg zr.cells) 6 (some 17) rfl rfl ?_ (by assumption) ?_
 · intro w' hSw
   obtain ⟨q0, q1⟩ := hSw
   exact exec_load rfl rfl (load_ref q1 rfl)
 try simp only [Act.put, zqa, zqb, zqc]
 refine oneL (i := 7) (by kernel_rfl) rfl (fun K hK => ?_)
 go_simp
 refine (dask_1 b S S.me zr WD ID.out).mono ?_
 rintro e' w5 ⟨rfl, hb⟩
 obtain ⟨w6, hs6, P6', k6⟩ := ust_step (PD.out.below hb) rfl 1 S.me 1 S.wl S.wb zr zr 0 0 0 zr zr
 have HS6 := hide hs6
 have P6 := hide P6'
 have B6 : Hid (Below w.heap.size w w6) := (B.out.trans (hb.mono B.out.size)).trans (k6.to_below (by have := B.out.size; have := hb.size; omega) (by simp))
 have I5 := hide (ID.out.below hb)
 have N5 := hide (ND.out.below hb)
 clear hs6 P6' k6 hb PD B
 refine hK.out _ _ ?_ ?_
 · exact ⟨I5.out, N5.out⟩
 clear hK K
 try simp only [Act.put, zqa, zqb, zqc]
 clear hHeld
 have hHeld : (fun w' => DsAt w' b S ∧ IsB w' (w.heap.size + 1) zr.cells 29) w5 := ⟨I5.out, N5.out⟩
 refine lateL (i := 8) (by kernel_rfl) rfl (by decide) (by kernel_rfl) (fun K hK => ?_)
 refine step_store_w rfl 53 (.tmp 2) (.tmp 18) rfl rfl rfl HS6.out ?_
 refine hK.out _ _ ?_
 clear hK K
 try simp only [Act.put, List.setIfInBounds_toArray]
 refine doneL (by kernel_rfl) ?_ _
 clear hHeld
 try simp only [Act.put]
 try go_wp2
 refine ret_step (p := 2) (b := w.heap.size) Tryz.results30 rfl rfl P6.out ?_
 exact ⟨rfl, B6.out⟩

set_option maxHeartbeats 2000000 in
set_option maxRecDepth 100000 in
theorem dn_2 (b : Nat) (S : Us) (hp : S.pl = 2) (w : World) (X : DsAt w b S) : Calls Tryz.prog 30 #[.pointer (some ⟨b, 0, none⟩)] w fun e' w' => e' = .returned (.agg (stL 1 S.lf 3 S.wl S.wb zr zr S.oa S.oo 0 zr zr).toArray) ∧ Below w.heap.size w w' := by
 have mixed : Tryz.prog.follows .mixedOrders = true := by kernel_rfl
 have P0 : IsB ((w.alloc (.cells #[.int .i64 0, .int .i64 0, .int .i64 0, .int .u64 0, .int .i64 0, .int .u64 0, .int .i64 0, .int .i64 0, .int .u64 0, .int .i64 0, .int .i64 0, .int .u64 0, .int .i64 0, .int .u64 0, .int .i64 0, .int .i64 0, .int .u64 0, .int .i64 0, .int .u64 0, .int .i64 0, .int .i64 0, .int .i64 0, .int .u64 0, .slice none 0 0, .slice none 0 0, .int .i64 0, .int .i64 0, .int .u64 0, .int .i64 0, .int .u64 0, .int .i64 0, .int .i64 0, .int .u64 0, .int .i64 0, .int .u64 0, .bool false] 53)).alloc (.cells zr.cells 29)) w.heap.size (stL 0 zr 0 0 0 zr zr 0 0 0 zr zr).toArray 53 := (IsB.new w #[.int .i64 0, .int .i64 0, .int .i64 0, .int .u64 0, .int .i64 0, .int .u64 0, .int .i64 0, .int .i64 0, .int .u64 0, .int .i64 0, .int .i64 0, .int .u64 0, .int .i64 0, .int .u64 0, .int .i64 0, .int .i64 0, .int .u64 0, .int .i64 0, .int .u64 0, .int .i64 0, .int .i64 0, .int .i64 0, .int .u64 0, .slice none 0 0, .slice none 0 0, .int .i64 0, .int .i64 0, .int .u64 0, .int .i64 0, .int .u64 0, .int .i64 0, .int .i64 0, .int .u64 0, .int .i64 0, .int .u64 0, .bool false] 53).below ((Below.refl _ _).alloc (Nat.le_refl _) (.cells zr.cells 29))
 have N0 := IsB.new (w.alloc (.cells #[.int .i64 0, .int .i64 0, .int .i64 0, .int .u64 0, .int .i64 0, .int .u64 0, .int .i64 0, .int .i64 0, .int .u64 0, .int .i64 0, .int .i64 0, .int .u64 0, .int .i64 0, .int .u64 0, .int .i64 0, .int .i64 0, .int .u64 0, .int .i64 0, .int .u64 0, .int .i64 0, .int .i64 0, .int .i64 0, .int .u64 0, .slice none 0 0, .slice none 0 0, .int .i64 0, .int .i64 0, .int .u64 0, .int .i64 0, .int .u64 0, .int .i64 0, .int .i64 0, .int .u64 0, .int .i64 0, .int .u64 0, .bool false] 53)) zr.cells 29
 have SN0 := store_newr (w.alloc (.cells #[.int .i64 0, .int .i64 0, .int .i64 0, .int .u64 0, .int .i64 0, .int .u64 0, .int .i64 0, .int .i64 0, .int .u64 0, .int .i64 0, .int .i64 0, .int .u64 0, .int .i64 0, .int .u64 0, .int .i64 0, .int .i64 0, .int .u64 0, .int .i64 0, .int .u64 0, .int .i64 0, .int .i64 0, .int .i64 0, .int .u64 0, .slice none 0 0, .slice none 0 0, .int .i64 0, .int .i64 0, .int .u64 0, .int .i64 0, .int .u64 0, .int .i64 0, .int .i64 0, .int .u64 0, .int .i64 0, .int .u64 0, .bool false] 53)) zr
 rw [World.size_alloc] at N0 SN0
 have b2 := ((Below.refl w.heap.size w).alloc (Nat.le_refl _) (.cells #[.int .i64 0, .int .i64 0, .int .i64 0, .int .u64 0, .int .i64 0, .int .u64 0, .int .i64 0, .int .i64 0, .int .u64 0, .int .i64 0, .int .i64 0, .int .u64 0, .int .i64 0, .int .u64 0, .int .i64 0, .int .i64 0, .int .u64 0, .int .i64 0, .int .u64 0, .int .i64 0, .int .i64 0, .int .i64 0, .int .u64 0, .slice none 0 0, .slice none 0 0, .int .i64 0, .int .i64 0, .int .u64 0, .int .i64 0, .int .u64 0, .int .i64 0, .int .i64 0, .int .u64 0, .int .i64 0, .int .u64 0, .bool false] 53)).alloc (by simp) (.cells zr.cells 29)
 have I := hide (X.below b2)
 have y9 : ((w.alloc (.cells #[.int .i64 0, .int .i64 0, .int .i64 0, .int .u64 0, .int .i64 0, .int .u64 0, .int .i64 0, .int .i64 0, .int .u64 0, .int .i64 0, .int .i64 0, .int .u64 0, .int .i64 0, .int .u64 0, .int .i64 0, .int .i64 0, .int .u64 0, .int .i64 0, .int .u64 0, .int .i64 0, .int .i64 0, .int .i64 0, .int .u64 0, .slice none 0 0, .slice none 0 0, .int .i64 0, .int .i64 0, .int .u64 0, .int .i64 0, .int .u64 0, .int .i64 0, .int .i64 0, .int .u64 0, .int .i64 0, .int .u64 0, .bool false] 53)).alloc (.cells zr.cells 29)).cell? ⟨b, 9, none⟩ = some (.int .i64 S.pl) := dcl_at I.out
 rw [hp] at y9
 have SN := hide SN0
 have bd := (Below.refl ((w.alloc (.cells #[.int .i64 0, .int .i64 0, .int .i64 0, .int .u64 0, .int .i64 0, .int .u64 0, .int .i64 0, .int .i64 0, .int .u64 0, .int .i64 0, .int .i64 0, .int .u64 0, .int .i64 0, .int .u64 0, .int .i64 0, .int .i64 0, .int .u64 0, .int .i64 0, .int .u64 0, .int .i64 0, .int .i64 0, .int .i64 0, .int .u64 0, .slice none 0 0, .slice none 0 0, .int .i64 0, .int .i64 0, .int .u64 0, .int .i64 0, .int .u64 0, .int .i64 0, .int .i64 0, .int .u64 0, .int .i64 0, .int .u64 0, .bool false] 53)).alloc (.cells zr.cells 29)).heap.size ((w.alloc (.cells #[.int .i64 0, .int .i64 0, .int .i64 0, .int .u64 0, .int .i64 0, .int .u64 0, .int .i64 0, .int .i64 0, .int .u64 0, .int .i64 0, .int .i64 0, .int .u64 0, .int .i64 0, .int .u64 0, .int .i64 0, .int .i64 0, .int .u64 0, .int .i64 0, .int .u64 0, .int .i64 0, .int .i64 0, .int .i64 0, .int .u64 0, .slice none 0 0, .slice none 0 0, .int .i64 0, .int .i64 0, .int .u64 0, .int .i64 0, .int .u64 0, .int .i64 0, .int .i64 0, .int .u64 0, .int .i64 0, .int .u64 0, .bool false] 53)).alloc (.cells zr.cells 29))).drew
 have ID := hide (IsB.below I.out bd)
 have ND := hide (N0.below bd)
 have PD := hide (P0.below bd)
 have B := hide b2.drew
 clear bd P0 N0 b2 I X SN0 hp
 go_enter Tryz.func30, Tryz.ntmps30
 go_wp2_with (first | (focus ((with_reducible refine wpList_store_w ?_ 29 (.tmp 3) (.tmp 4) ?_ ?_ ?_ SN.out ?_); rotate_left; rfl; rfl; rfl; rotate_left; rfl)))
 clear y9 SN
 refine regionL 7 (fun w' => DsAt w' b S ∧ IsB w' (w.heap.size + 1) zr.cells 29) mixed ⟨ID.out, ND.out⟩ (fun hHeld => ?_)
 generalize ((w.alloc (.cells #[.int .i64 0, .int .i64 0, .int .i64 0, .int .u64 0, .int .i64 0, .int .u64 0, .int .i64 0, .int .i64 0, .int .u64 0, .int .i64 0, .int .i64 0, .int .u64 0, .int .i64 0, .int .u64 0, .int .i64 0, .int .i64 0, .int .u64 0, .int .i64 0, .int .u64 0, .int .i64 0, .int .i64 0, .int .i64 0, .int .u64 0, .slice none 0 0, .slice none 0 0, .int .i64 0, .int .i64 0, .int .u64 0, .int .i64 0, .int .u64 0, .int .i64 0, .int .i64 0, .int .u64 0, .int .i64 0, .int .u64 0, .bool false] 53)).alloc (.cells zr.cells 29)).drew = WD at *
 refine pkA (v := ?_) 0 (some 21) rfl rfl ?_ (by assumption) ?_
 rotate_left
 · intro w'
   go_simp
   try with_reducible rfl
 try simp only [Act.put, zqa, zqb, zqc]
 refine pkA (v := ?_) 1 (some 22) rfl rfl ?_ (by assumption) ?_
 rotate_left
 · intro w'
   go_simp
   try with_reducible rfl
 try simp only [Act.put, zqa, zqb, zqc]
 refine pkA (v := ?_) 2 (some 23) rfl rfl ?_ (by assumption) ?_
 rotate_left
 · intro w'
   go_simp
   try with_reducible rfl
 try simp only [Act.put, zqa, zqb, zqc]
 refine pkA (v := ?_) 3 (some 24) rfl rfl ?_ (by assumption) ?_
 rotate_left
 · intro w'
   go_simp
   try with_reducible rfl
 try simp only [Act.put, zqa, zqb, zqc]
 refine pkL (v := .agg S.lf.cells) 4 (some 25) rfl rfl ?_ (by assumption) ?_
 · intro w' hSw
   obtain ⟨q0, q1⟩ := hSw
   exact exec_load rfl rfl (dld_left q0)
 try simp only [Act.put, zqa, zqb, zqc]
 refine pkL (v := .agg zr.cells) 5 (some 26) rfl rfl ?_ (by assumption) ?_
 · intro w' hSw
   obtain ⟨q0, q1⟩ := hSw
   exact exec_load rfl rfl (load_ref q1 rfl)
 try simp only [Act.put, zqa, zqb, zqc]
 refine oneL (i := 6) (by kernel_rfl) rfl (fun K hK => ?_)
 go_simp
 refine (dask_own b S 3 (by decide) (by decide) S.lf zr WD ID.out).mono ?_
 rintro e' w5 ⟨rfl, hb⟩
 obtain ⟨w6, hs6, P6', k6⟩ := ust_step (PD.out.below hb) rfl 1 S.lf 3 S.wl S.wb zr zr S.oa S.oo 0 zr zr
 have HS6 := hide hs6
 have P6 := hide P6'
 have B6 : Hid (Below w.heap.size w w6) := (B.out.trans (hb.mono B.out.size)).trans (k6.to_below (by have := B.out.size; have := hb.size; omega) (by simp))
 have I5 := hide (ID.out.below hb)
 have N5 := hide (ND.out.below hb)
 clear hs6 P6' k6 hb PD B
 refine hK.out _ _ ?_ ?_
 · exact ⟨I5.out, N5.out⟩
 clear hK K
 try simp only [Act.put, zqa, zqb, zqc]
 clear hHeld
 have hHeld : (fun w' => DsAt w' b S ∧ IsB w' (w.heap.size + 1) zr.cells 29) w5 := ⟨I5.out, N5.out⟩
 refine lateL (i := 7) (by kernel_rfl) rfl (by decide) (by kernel_rfl) (fun K hK => ?_)
 refine step_store_w rfl 53 (.tmp 2) (.tmp 27) rfl rfl rfl HS6.out ?_
 refine hK.out _ _ ?_
 clear hK K
 try simp only [Act.put, List.setIfInBounds_toArray]
 refine doneL (by kernel_rfl) ?_ _
 clear hHeld
 try simp only [Act.put]
 try go_wp2
 refine ret_step (p := 2) (b := w.heap.size) Tryz.results30 rfl rfl P6.out ?_
 exact ⟨rfl, B6.out⟩

set_option maxHeartbeats 2000000 in
set_option maxRecDepth 100000 in
theorem dn_3 (b : Nat) (S : Us) (hp : S.pl = 3) (w : World) (X : DsAt w b S) : Calls Tryz.prog 30 #[.pointer (some ⟨b, 0, none⟩)] w fun e' w' => e' = .returned (.agg (stL 1 S.me 3 S.wl S.wb zr zr S.oa S.oo 0 zr zr).toArray) ∧ Below w.heap.size w w' := by
 have mixed : Tryz.prog.follows .mixedOrders = true := by kernel_rfl
 have P0 : IsB ((w.alloc (.cells #[.int .i64 0, .int .i64 0, .int .i64 0, .int .u64 0, .int .i64 0, .int .u64 0, .int .i64 0, .int .i64 0, .int .u64 0, .int .i64 0, .int .i64 0, .int .u64 0, .int .i64 0, .int .u64 0, .int .i64 0, .int .i64 0, .int .u64 0, .int .i64 0, .int .u64 0, .int .i64 0, .int .i64 0, .int .i64 0, .int .u64 0, .slice none 0 0, .slice none 0 0, .int .i64 0, .int .i64 0, .int .u64 0, .int .i64 0, .int .u64 0, .int .i64 0, .int .i64 0, .int .u64 0, .int .i64 0, .int .u64 0, .bool false] 53)).alloc (.cells zr.cells 29)) w.heap.size (stL 0 zr 0 0 0 zr zr 0 0 0 zr zr).toArray 53 := (IsB.new w #[.int .i64 0, .int .i64 0, .int .i64 0, .int .u64 0, .int .i64 0, .int .u64 0, .int .i64 0, .int .i64 0, .int .u64 0, .int .i64 0, .int .i64 0, .int .u64 0, .int .i64 0, .int .u64 0, .int .i64 0, .int .i64 0, .int .u64 0, .int .i64 0, .int .u64 0, .int .i64 0, .int .i64 0, .int .i64 0, .int .u64 0, .slice none 0 0, .slice none 0 0, .int .i64 0, .int .i64 0, .int .u64 0, .int .i64 0, .int .u64 0, .int .i64 0, .int .i64 0, .int .u64 0, .int .i64 0, .int .u64 0, .bool false] 53).below ((Below.refl _ _).alloc (Nat.le_refl _) (.cells zr.cells 29))
 have N0 := IsB.new (w.alloc (.cells #[.int .i64 0, .int .i64 0, .int .i64 0, .int .u64 0, .int .i64 0, .int .u64 0, .int .i64 0, .int .i64 0, .int .u64 0, .int .i64 0, .int .i64 0, .int .u64 0, .int .i64 0, .int .u64 0, .int .i64 0, .int .i64 0, .int .u64 0, .int .i64 0, .int .u64 0, .int .i64 0, .int .i64 0, .int .i64 0, .int .u64 0, .slice none 0 0, .slice none 0 0, .int .i64 0, .int .i64 0, .int .u64 0, .int .i64 0, .int .u64 0, .int .i64 0, .int .i64 0, .int .u64 0, .int .i64 0, .int .u64 0, .bool false] 53)) zr.cells 29
 have SN0 := store_newr (w.alloc (.cells #[.int .i64 0, .int .i64 0, .int .i64 0, .int .u64 0, .int .i64 0, .int .u64 0, .int .i64 0, .int .i64 0, .int .u64 0, .int .i64 0, .int .i64 0, .int .u64 0, .int .i64 0, .int .u64 0, .int .i64 0, .int .i64 0, .int .u64 0, .int .i64 0, .int .u64 0, .int .i64 0, .int .i64 0, .int .i64 0, .int .u64 0, .slice none 0 0, .slice none 0 0, .int .i64 0, .int .i64 0, .int .u64 0, .int .i64 0, .int .u64 0, .int .i64 0, .int .i64 0, .int .u64 0, .int .i64 0, .int .u64 0, .bool false] 53)) zr
 rw [World.size_alloc] at N0 SN0
 have b2 := ((Below.refl w.heap.size w).alloc (Nat.le_refl _) (.cells #[.int .i64 0, .int .i64 0, .int .i64 0, .int .u64 0, .int .i64 0, .int .u64 0, .int .i64 0, .int .i64 0, .int .u64 0, .int .i64 0, .int .i64 0, .int .u64 0, .int .i64 0, .int .u64 0, .int .i64 0, .int .i64 0, .int .u64 0, .int .i64 0, .int .u64 0, .int .i64 0, .int .i64 0, .int .i64 0, .int .u64 0, .slice none 0 0, .slice none 0 0, .int .i64 0, .int .i64 0, .int .u64 0, .int .i64 0, .int .u64 0, .int .i64 0, .int .i64 0, .int .u64 0, .int .i64 0, .int .u64 0, .bool false] 53)).alloc (by simp) (.cells zr.cells 29)
 have I := hide (X.below b2)
 have y9 : ((w.alloc (.cells #[.int .i64 0, .int .i64 0, .int .i64 0, .int .u64 0, .int .i64 0, .int .u64 0, .int .i64 0, .int .i64 0, .int .u64 0, .int .i64 0, .int .i64 0, .int .u64 0, .int .i64 0, .int .u64 0, .int .i64 0, .int .i64 0, .int .u64 0, .int .i64 0, .int .u64 0, .int .i64 0, .int .i64 0, .int .i64 0, .int .u64 0, .slice none 0 0, .slice none 0 0, .int .i64 0, .int .i64 0, .int .u64 0, .int .i64 0, .int .u64 0, .int .i64 0, .int .i64 0, .int .u64 0, .int .i64 0, .int .u64 0, .bool false] 53)).alloc (.cells zr.cells 29)).cell? ⟨b, 9, none⟩ = some (.int .i64 S.pl) := dcl_at I.out
 rw [hp] at y9
 have SN := hide SN0
 have bd := (Below.refl ((w.alloc (.cells #[.int .i64 0, .int .i64 0, .int .i64 0, .int .u64 0, .int .i64 0, .int .u64 0, .int .i64 0, .int .i64 0, .int .u64 0, .int .i64 0, .int .i64 0, .int .u64 0, .int .i64 0, .int .u64 0, .int .i64 0, .int .i64 0, .int .u64 0, .int .i64 0, .int .u64 0, .int .i64 0, .int .i64 0, .int .i64 0, .int .u64 0, .slice none 0 0, .slice none 0 0, .int .i64 0, .int .i64 0, .int .u64 0, .int .i64 0, .int .u64 0, .int .i64 0, .int .i64 0, .int .u64 0, .int .i64 0, .int .u64 0, .bool false] 53)).alloc (.cells zr.cells 29)).heap.size ((w.alloc (.cells #[.int .i64 0, .int .i64 0, .int .i64 0, .int .u64 0, .int .i64 0, .int .u64 0, .int .i64 0, .int .i64 0, .int .u64 0, .int .i64 0, .int .i64 0, .int .u64 0, .int .i64 0, .int .u64 0, .int .i64 0, .int .i64 0, .int .u64 0, .int .i64 0, .int .u64 0, .int .i64 0, .int .i64 0, .int .i64 0, .int .u64 0, .slice none 0 0, .slice none 0 0, .int .i64 0, .int .i64 0, .int .u64 0, .int .i64 0, .int .u64 0, .int .i64 0, .int .i64 0, .int .u64 0, .int .i64 0, .int .u64 0, .bool false] 53)).alloc (.cells zr.cells 29))).drew
 have ID := hide (IsB.below I.out bd)
 have ND := hide (N0.below bd)
 have PD := hide (P0.below bd)
 have B := hide b2.drew
 clear bd P0 N0 b2 I X SN0 hp
 go_enter Tryz.func30, Tryz.ntmps30
 go_wp2_with (first | (focus ((with_reducible refine wpList_store_w ?_ 29 (.tmp 3) (.tmp 4) ?_ ?_ ?_ SN.out ?_); rotate_left; rfl; rfl; rfl; rotate_left; rfl)))
 clear y9 SN
 refine regionL 8 (fun w' => DsAt w' b S ∧ IsB w' (w.heap.size + 1) zr.cells 29) mixed ⟨ID.out, ND.out⟩ (fun hHeld => ?_)
 generalize ((w.alloc (.cells #[.int .i64 0, .int .i64 0, .int .i64 0, .int .u64 0, .int .i64 0, .int .u64 0, .int .i64 0, .int .i64 0, .int .u64 0, .int .i64 0, .int .i64 0, .int .u64 0, .int .i64 0, .int .u64 0, .int .i64 0, .int .i64 0, .int .u64 0, .int .i64 0, .int .u64 0, .int .i64 0, .int .i64 0, .int .i64 0, .int .u64 0, .slice none 0 0, .slice none 0 0, .int .i64 0, .int .i64 0, .int .u64 0, .int .i64 0, .int .u64 0, .int .i64 0, .int .i64 0, .int .u64 0, .int .i64 0, .int .u64 0, .bool false] 53)).alloc (.cells zr.cells 29)).drew = WD at *
 refine pkA (v := ?_) 0 (some 30) rfl rfl ?_ (by assumption) ?_
 rotate_left
 · intro w'
   go_simp
   try with_reducible rfl
 try simp only [Act.put, zqa, zqb, zqc]
 refine pkA (v := ?_) 1 (some 31) rfl rfl ?_ (by assumption) ?_
 rotate_left
 · intro w'
   go_simp
   try with_reducible rfl
 try simp only [Act.put, zqa, zqb, zqc]
 refine pkA (v := ?_) 2 (some 32) rfl rfl ?_ (by assumption) ?_
 rotate_left
 · intro w'
   go_simp
   try with_reducible rfl
 try simp only [Act.put, zqa, zqb, zqc]
 refine pkA (v := ?_) 3 (some 33) rfl rfl ?_ (by assumption) ?_
 rotate_left
 · intro w'
   go_simp
   try with_reducible rfl
 try simp only [Act.put, zqa, zqb, zqc]
 refine pkA (v := ?_) 4 (some 34) rfl rfl ?_ (by assumption) ?_
 rotate_left
 · intro w'
   go_simp
   try with_reducible rfl
 try simp only [Act.put, zqa, zqb, zqc]
 refine pkL (v := .agg S.me.cells) 5 (some 35) rfl rfl ?_ (by assumption) ?_
 · intro w' hSw
   obtain ⟨q0, q1⟩ := hSw
   exact exec_load rfl rfl (dld_me q0)
 try simp only [Act.put, zqa, zqb, zqc]
 refine pkL (v := .agg zr.cells) 6 (some 36) rfl rfl ?_ (by assumption) ?_
 · intro w' hSw
   obtain ⟨q0, q1⟩ := hSw
   exact exec_load rfl rfl (load_ref q1 rfl)
 try simp only [Act.put, zqa, zqb, zqc]
 refine oneL (i := 7) (by kernel_rfl) rfl (fun K hK => ?_)
 go_simp
 refine (dask_own b S 3 (by decide) (by decide) S.me zr WD ID.out).mono ?_
 rintro e' w5 ⟨rfl, hb⟩
 obtain ⟨w6, hs6, P6', k6⟩ := ust_step (PD.out.below hb) rfl 1 S.me 3 S.wl S.wb zr zr S.oa S.oo 0 zr zr
 have HS6 := hide hs6
 have P6 := hide P6'
 have B6 : Hid (Below w.heap.size w w6) := (B.out.trans (hb.mono B.out.size)).trans (k6.to_below (by have := B.out.size; have := hb.size; omega) (by simp))
 have I5 := hide (ID.out.below hb)
 have N5 := hide (ND.out.below hb)
 clear hs6 P6' k6 hb PD B
 refine hK.out _ _ ?_ ?_
 · exact ⟨I5.out, N5.out⟩
 clear hK K
 try simp only [Act.put, zqa, zqb, zqc]
 clear hHeld
 have hHeld : (fun w' => DsAt w' b S ∧ IsB w' (w.heap.size + 1) zr.cells 29) w5 := ⟨I5.out, N5.out⟩
 refine lateL (i := 8) (by kernel_rfl) rfl (by decide) (by kernel_rfl) (fun K hK => ?_)
 refine step_store_w rfl 53 (.tmp 2) (.tmp 37) rfl rfl rfl HS6.out ?_
 refine hK.out _ _ ?_
 clear hK K
 try simp only [Act.put, List.setIfInBounds_toArray]
 refine doneL (by kernel_rfl) ?_ _
 clear hHeld
 try simp only [Act.put]
 try go_wp2
 refine ret_step (p := 2) (b := w.heap.size) Tryz.results30 rfl rfl P6.out ?_
 exact ⟨rfl, B6.out⟩

set_option maxHeartbeats 2000000 in
set_option maxRecDepth 100000 in
theorem dn_4 (b : Nat) (S : Us) (hp : S.pl = 4) (w : World) (X : DsAt w b S) : Calls Tryz.prog 30 #[.pointer (some ⟨b, 0, none⟩)] w fun e' w' => e' = .returned (.agg (stL 1 S.lf 5 S.wl S.wb S.rg zr S.oa S.oo 0 zr zr).toArray) ∧ Below w.heap.size w w' := by
 have mixed : Tryz.prog.follows .mixedOrders = true := by kernel_rfl
 have P0 : IsB ((w.alloc (.cells #[.int .i64 0, .int .i64 0, .int .i64 0, .int .u64 0, .int .i64 0, .int .u64 0, .int .i64 0, .int .i64 0, .int .u64 0, .int .i64 0, .int .i64 0, .int .u64 0, .int .i64 0, .int .u64 0, .int .i64 0, .int .i64 0, .int .u64 0, .int .i64 0, .int .u64 0, .int .i64 0, .int .i64 0, .int .i64 0, .int .u64 0, .slice none 0 0, .slice none 0 0, .int .i64 0, .int .i64 0, .int .u64 0, .int .i64 0, .int .u64 0, .int .i64 0, .int .i64 0, .int .u64 0, .int .i64 0, .int .u64 0, .bool false] 53)).alloc (.cells zr.cells 29)) w.heap.size (stL 0 zr 0 0 0 zr zr 0 0 0 zr zr).toArray 53 := (IsB.new w #[.int .i64 0, .int .i64 0, .int .i64 0, .int .u64 0, .int .i64 0, .int .u64 0, .int .i64 0, .int .i64 0, .int .u64 0, .int .i64 0, .int .i64 0, .int .u64 0, .int .i64 0, .int .u64 0, .int .i64 0, .int .i64 0, .int .u64 0, .int .i64 0, .int .u64 0, .int .i64 0, .int .i64 0, .int .i64 0, .int .u64 0, .slice none 0 0, .slice none 0 0, .int .i64 0, .int .i64 0, .int .u64 0, .int .i64 0, .int .u64 0, .int .i64 0, .int .i64 0, .int .u64 0, .int .i64 0, .int .u64 0, .bool false] 53).below ((Below.refl _ _).alloc (Nat.le_refl _) (.cells zr.cells 29))
 have N0 := IsB.new (w.alloc (.cells #[.int .i64 0, .int .i64 0, .int .i64 0, .int .u64 0, .int .i64 0, .int .u64 0, .int .i64 0, .int .i64 0, .int .u64 0, .int .i64 0, .int .i64 0, .int .u64 0, .int .i64 0, .int .u64 0, .int .i64 0, .int .i64 0, .int .u64 0, .int .i64 0, .int .u64 0, .int .i64 0, .int .i64 0, .int .i64 0, .int .u64 0, .slice none 0 0, .slice none 0 0, .int .i64 0, .int .i64 0, .int .u64 0, .int .i64 0, .int .u64 0, .int .i64 0, .int .i64 0, .int .u64 0, .int .i64 0, .int .u64 0, .bool false] 53)) zr.cells 29
 have SN0 := store_newr (w.alloc (.cells #[.int .i64 0, .int .i64 0, .int .i64 0, .int .u64 0, .int .i64 0, .int .u64 0, .int .i64 0, .int .i64 0, .int .u64 0, .int .i64 0, .int .i64 0, .int .u64 0, .int .i64 0, .int .u64 0, .int .i64 0, .int .i64 0, .int .u64 0, .int .i64 0, .int .u64 0, .int .i64 0, .int .i64 0, .int .i64 0, .int .u64 0, .slice none 0 0, .slice none 0 0, .int .i64 0, .int .i64 0, .int .u64 0, .int .i64 0, .int .u64 0, .int .i64 0, .int .i64 0, .int .u64 0, .int .i64 0, .int .u64 0, .bool false] 53)) zr
 rw [World.size_alloc] at N0 SN0
 have b2 := ((Below.refl w.heap.size w).alloc (Nat.le_refl _) (.cells #[.int .i64 0, .int .i64 0, .int .i64 0, .int .u64 0, .int .i64 0, .int .u64 0, .int .i64 0, .int .i64 0, .int .u64 0, .int .i64 0, .int .i64 0, .int .u64 0, .int .i64 0, .int .u64 0, .int .i64 0, .int .i64 0, .int .u64 0, .int .i64 0, .int .u64 0, .int .i64 0, .int .i64 0, .int .i64 0, .int .u64 0, .slice none 0 0, .slice none 0 0, .int .i64 0, .int .i64 0, .int .u64 0, .int .i64 0, .int .u64 0, .int .i64 0, .int .i64 0, .int .u64 0, .int .i64 0, .int .u64 0, .bool false] 53)).alloc (by simp) (.cells zr.cells 29)
 have I := hide (X.below b2)
 have y9 : ((w.alloc (.cells #[.int .i64 0, .int .i64 0, .int .i64 0, .int .u64 0, .int .i64 0, .int .u64 0, .int .i64 0, .int .i64 0, .int .u64 0, .int .i64 0, .int .i64 0, .int .u64 0, .int .i64 0, .int .u64 0, .int .i64 0, .int .i64 0, .int .u64 0, .int .i64 0, .int .u64 0, .int .i64 0, .int .i64 0, .int .i64 0, .int .u64 0, .slice none 0 0, .slice none 0 0, .int .i64 0, .int .i64 0, .int .u64 0, .int .i64 0, .int .u64 0, .int .i64 0, .int .i64 0, .int .u64 0, .int .i64 0, .int .u64 0, .bool false] 53)).alloc (.cells zr.cells 29)).cell? ⟨b, 9, none⟩ = some (.int .i64 S.pl) := dcl_at I.out
 rw [hp] at y9
 have SN := hide SN0
 have bd := (Below.refl ((w.alloc (.cells #[.int .i64 0, .int .i64 0, .int .i64 0, .int .u64 0, .int .i64 0, .int .u64 0, .int .i64 0, .int .i64 0, .int .u64 0, .int .i64 0, .int .i64 0, .int .u64 0, .int .i64 0, .int .u64 0, .int .i64 0, .int .i64 0, .int .u64 0, .int .i64 0, .int .u64 0, .int .i64 0, .int .i64 0, .int .i64 0, .int .u64 0, .slice none 0 0, .slice none 0 0, .int .i64 0, .int .i64 0, .int .u64 0, .int .i64 0, .int .u64 0, .int .i64 0, .int .i64 0, .int .u64 0, .int .i64 0, .int .u64 0, .bool false] 53)).alloc (.cells zr.cells 29)).heap.size ((w.alloc (.cells #[.int .i64 0, .int .i64 0, .int .i64 0, .int .u64 0, .int .i64 0, .int .u64 0, .int .i64 0, .int .i64 0, .int .u64 0, .int .i64 0, .int .i64 0, .int .u64 0, .int .i64 0, .int .u64 0, .int .i64 0, .int .i64 0, .int .u64 0, .int .i64 0, .int .u64 0, .int .i64 0, .int .i64 0, .int .i64 0, .int .u64 0, .slice none 0 0, .slice none 0 0, .int .i64 0, .int .i64 0, .int .u64 0, .int .i64 0, .int .u64 0, .int .i64 0, .int .i64 0, .int .u64 0, .int .i64 0, .int .u64 0, .bool false] 53)).alloc (.cells zr.cells 29))).drew
 have ID := hide (IsB.below I.out bd)
 have ND := hide (N0.below bd)
 have PD := hide (P0.below bd)
 have B := hide b2.drew
 clear bd P0 N0 b2 I X SN0 hp
 go_enter Tryz.func30, Tryz.ntmps30
 go_wp2_with (first | (focus ((with_reducible refine wpList_store_w ?_ 29 (.tmp 3) (.tmp 4) ?_ ?_ ?_ SN.out ?_); rotate_left; rfl; rfl; rfl; rotate_left; rfl)))
 clear y9 SN
 refine regionL 10 (fun w' => DsAt w' b S ∧ IsB w' (w.heap.size + 1) zr.cells 29) mixed ⟨ID.out, ND.out⟩ (fun hHeld => ?_)
 generalize ((w.alloc (.cells #[.int .i64 0, .int .i64 0, .int .i64 0, .int .u64 0, .int .i64 0, .int .u64 0, .int .i64 0, .int .i64 0, .int .u64 0, .int .i64 0, .int .i64 0, .int .u64 0, .int .i64 0, .int .u64 0, .int .i64 0, .int .i64 0, .int .u64 0, .int .i64 0, .int .u64 0, .int .i64 0, .int .i64 0, .int .i64 0, .int .u64 0, .slice none 0 0, .slice none 0 0, .int .i64 0, .int .i64 0, .int .u64 0, .int .i64 0, .int .u64 0, .int .i64 0, .int .i64 0, .int .u64 0, .int .i64 0, .int .u64 0, .bool false] 53)).alloc (.cells zr.cells 29)).drew = WD at *
 refine pkA (v := ?_) 0 (some 40) rfl rfl ?_ (by assumption) ?_
 rotate_left
 · intro w'
   go_simp
   try with_reducible rfl
 try simp only [Act.put, zqa, zqb, zqc]
 refine pkA (v := ?_) 1 (some 41) rfl rfl ?_ (by assumption) ?_
 rotate_left
 · intro w'
   go_simp
   try with_reducible rfl
 try simp only [Act.put, zqa, zqb, zqc]
 refine pkA (v := ?_) 2 (some 42) rfl rfl ?_ (by assumption) ?_
 rotate_left
 · intro w'
   go_simp
   try with_reducible rfl
 try simp only [Act.put, zqa, zqb, zqc]
 refine pkA (v := ?_) 3 (some 43) rfl rfl ?_ (by assumption) ?_
 rotate_left
 · intro w'
   go_simp
   try with_reducible rfl
 try simp only [Act.put, zqa, zqb, zqc]
 refine pkL (v := .agg S.lf.cells) 4 (some 44) rfl rfl ?_ (by assumption) ?_
 · intro w' hSw
   obtain ⟨q0, q1⟩ := hSw
   exact exec_load rfl rfl (dld_left q0)
 try simp only [Act.put, zqa, zqb, zqc]
 refine pkA (v := ?_) 5 (some 45) rfl rfl ?_ (by assumption) ?_
 rotate_left
 · intro w'
   go_simp
   try with_reducible rfl
 try simp only [Act.put, zqa, zqb, zqc]
 refine pkA (v := ?_) 6 (some 46) rfl rfl ?_ (by assumption) ?_
 rotate_left
 · intro w'
   go_simp
   try with_reducible rfl
 try simp only [Act.put, zqa, zqb, zqc]
 refine pkA (v := ?_) 7 (some 47) rfl rfl ?_ (by assumption) ?_
 rotate_left
 · intro w'
   go_simp
   try with_reducible rfl
 try simp only [Act.put, zqa, zqb, zqc]
 refine pkL (v := .agg S.rg.cells) 8 (some 48) rfl rfl ?_ (by assumption) ?_
 · intro w' hSw
   obtain ⟨q0, q1⟩ := hSw
   exact exec_load rfl rfl (dld_right q0)
 try simp only [Act.put, zqa, zqb, zqc]
 refine oneL (i := 9) (by kernel_rfl) rfl (fun K hK => ?_)
 go_simp
 refine (dask_own b S 5 (by decide) (by decide) S.lf S.rg WD ID.out).mono ?_
 rintro e' w5 ⟨rfl, hb⟩
 obtain ⟨w6, hs6, P6', k6⟩ := ust_step (PD.out.below hb) rfl 1 S.lf 5 S.wl S.wb S.rg zr S.oa S.oo 0 zr zr
 have HS6 := hide hs6
 have P6 := hide P6'
 have B6 : Hid (Below w.heap.size w w6) := (B.out.trans (hb.mono B.out.size)).trans (k6.to_below (by have := B.out.size; have := hb.size; omega) (by simp))
 have I5 := hide (ID.out.below hb)
 have N5 := hide (ND.out.below hb)
 clear hs6 P6' k6 hb PD B
 refine hK.out _ _ ?_ ?_
 · exact ⟨I5.out, N5.out⟩
 clear hK K
 try simp only [Act.put, zqa, zqb, zqc]
 clear hHeld
 have hHeld : (fun w' => DsAt w' b S ∧ IsB w' (w.heap.size + 1) zr.cells 29) w5 := ⟨I5.out, N5.out⟩
 refine lateL (i := 10) (by kernel_rfl) rfl (by decide) (by kernel_rfl) (fun K hK => ?_)
 refine step_store_w rfl 53 (.tmp 2) (.tmp 49) rfl rfl rfl HS6.out ?_
 refine hK.out _ _ ?_
 clear hK K
 try simp only [Act.put, List.setIfInBounds_toArray]
 refine doneL (by kernel_rfl) ?_ _
 clear hHeld
 try simp only [Act.put]
 try go_wp2
 refine ret_step (p := 2) (b := w.heap.size) Tryz.results30 rfl rfl P6.out ?_
 exact ⟨rfl, B6.out⟩

set_option maxHeartbeats 2000000 in
set_option maxRecDepth 100000 in
theorem dn_5 (b : Nat) (S : Us) (hp : S.pl = 5) (w : World) (X : DsAt w b S) : Calls Tryz.prog 30 #[.pointer (some ⟨b, 0, none⟩)] w fun e' w' => e' = .returned (.agg (stL 1 S.rg 6 S.wl S.wb S.lf zr 0 0 0 zr zr).toArray) ∧ Below w.heap.size w w' := by
 have mixed : Tryz.prog.follows .mixedOrders = true := by kernel_rfl
 have P0 : IsB ((w.alloc (.cells #[.int .i64 0, .int .i64 0, .int .i64 0, .int .u64 0, .int .i64 0, .int .u64 0, .int .i64 0, .int .i64 0, .int .u64 0, .int .i64 0, .int .i64 0, .int .u64 0, .int .i64 0, .int .u64 0, .int .i64 0, .int .i64 0, .int .u64 0, .int .i64 0, .int .u64 0, .int .i64 0, .int .i64 0, .int .i64 0, .int .u64 0, .slice none 0 0, .slice none 0 0, .int .i64 0, .int .i64 0, .int .u64 0, .int .i64 0, .int .u64 0, .int .i64 0, .int .i64 0, .int .u64 0, .int .i64 0, .int .u64 0, .bool false] 53)).alloc (.cells zr.cells 29)) w.heap.size (stL 0 zr 0 0 0 zr zr 0 0 0 zr zr).toArray 53 := (IsB.new w #[.int .i64 0, .int .i64 0, .int .i64 0, .int .u64 0, .int .i64 0, .int .u64 0, .int .i64 0, .int .i64 0, .int .u64 0, .int .i64 0, .int .i64 0, .int .u64 0, .int .i64 0, .int .u64 0, .int .i64 0, .int .i64 0, .int .u64 0, .int .i64 0, .int .u64 0, .int .i64 0, .int .i64 0, .int .i64 0, .int .u64 0, .slice none 0 0, .slice none 0 0, .int .i64 0, .int .i64 0, .int .u64 0, .int .i64 0, .int .u64 0, .int .i64 0, .int .i64 0, .int .u64 0, .int .i64 0, .int .u64 0, .bool false] 53).below ((Below.refl _ _).alloc (Nat.le_refl _) (.cells zr.cells 29))
 have N0 := IsB.new (w.alloc (.cells #[.int .i64 0, .int .i64 0, .int .i64 0, .int .u64 0, .int .i64 0, .int .u64 0, .int .i64 0, .int .i64 0, .int .u64 0, .int .i64 0, .int .i64 0, .int .u64 0, .int .i64 0, .int .u64 0, .int .i64 0, .int .i64 0, .int .u64 0, .int .i64 0, .int .u64 0, .int .i64 0, .int .i64 0, .int .i64 0, .int .u64 0, .slice none 0 0, .slice none 0 0, .int .i64 0, .int .i64 0, .int .u64 0, .int .i64 0, .int .u64 0, .int .i64 0, .int .i64 0, .int .u64 0, .int .i64 0, .int .u64 0, .bool false] 53)) zr.cells 29
 have SN0 := store_newr (w.alloc (.cells #[.int .i64 0, .int .i64 0, .int .i64 0, .int .u64 0, .int .i64 0, .int .u64 0, .int .i64 0, .int .i64 0, .int .u64 0, .int .i64 0, .int .i64 0, .int .u64 0, .int .i64 0, .int .u64 0, .int .i64 0, .int .i64 0, .int .u64 0, .int .i64 0, .int .u64 0, .int .i64 0, .int .i64 0, .int .i64 0, .int .u64 0, .slice none 0 0, .slice none 0 0, .int .i64 0, .int .i64 0, .int .u64 0, .int .i64 0, .int .u64 0, .int .i64 0, .int .i64 0, .int .u64 0, .int .i64 0, .int .u64 0, .bool false] 53)) zr
 rw [World.size_alloc] at N0 SN0
 have b2 := ((Below.refl w.heap.size w).alloc (Nat.le_refl _) (.cells #[.int .i64 0, .int .i64 0, .int .i64 0, .int .u64 0, .int .i64 0, .int .u64 0, .int .i64 0, .int .i64 0, .int .u64 0, .int .i64 0, .int .i64 0, .int .u64 0, .int .i64 0, .int .u64 0, .int .i64 0, .int .i64 0, .int .u64 0, .int .i64 0, .int .u64 0, .int .i64 0, .int .i64 0, .int .i64 0, .int .u64 0, .slice none 0 0, .slice none 0 0, .int .i64 0, .int .i64 0, .int .u64 0, .int .i64 0, .int .u64 0, .int .i64 0, .int .i64 0, .int .u64 0, .int .i64 0, .int .u64 0, .bool false] 53)).alloc (by simp) (.cells zr.cells 29)
 have I := hide (X.below b2)
 have y9 : ((w.alloc (.cells #[.int .i64 0, .int .i64 0, .int .i64 0, .int .u64 0, .int .i64 0, .int .u64 0, .int .i64 0, .int .i64 0, .int .u64 0, .int .i64 0, .int .i64 0, .int .u64 0, .int .i64 0, .int .u64 0, .int .i64 0, .int .i64 0, .int .u64 0, .int .i64 0, .int .u64 0, .int .i64 0, .int .i64 0, .int .i64 0, .int .u64 0, .slice none 0 0, .slice none 0 0, .int .i64 0, .int .i64 0, .int .u64 0, .int .i64 0, .int .u64 0, .int .i64 0, .int .i64 0, .int .u64 0, .int .i64 0, .int .u64 0, .bool false] 53)).alloc (.cells zr.cells 29)).cell? ⟨b, 9, none⟩ = some (.int .i64 S.pl) := dcl_at I.out
 rw [hp] at y9
 have SN := hide SN0
 have bd := (Below.refl ((w.alloc (.cells #[.int .i64 0, .int .i64 0, .int .i64 0, .int .u64 0, .int .i64 0, .int .u64 0, .int .i64 0, .int .i64 0, .int .u64 0, .int .i64 0, .int .i64 0, .int .u64 0, .int .i64 0, .int .u64 0, .int .i64 0, .int .i64 0, .int .u64 0, .int .i64 0, .int .u64 0, .int .i64 0, .int .i64 0, .int .i64 0, .int .u64 0, .slice none 0 0, .slice none 0 0, .int .i64 0, .int .i64 0, .int .u64 0, .int .i64 0, .int .u64 0, .int .i64 0, .int .i64 0, .int .u64 0, .int .i64 0, .int .u64 0, .bool false] 53)).alloc (.cells zr.cells 29)).heap.size ((w.alloc (.cells #[.int .i64 0, .int .i64 0, .int .i64 0, .int .u64 0, .int .i64 0, .int .u64 0, .int .i64 0, .int .i64 0, .int .u64 0, .int .i64 0, .int .i64 0, .int .u64 0, .int .i64 0, .int .u64 0, .int .i64 0, .int .i64 0, .int .u64 0, .int .i64 0, .int .u64 0, .int .i64 0, .int .i64 0, .int .i64 0, .int .u64 0, .slice none 0 0, .slice none 0 0, .int .i64 0, .int .i64 0, .int .u64 0, .int .i64 0, .int .u64 0, .int .i64 0, .int .i64 0, .int .u64 0, .int .i64 0, .int .u64 0, .bool false] 53)).alloc (.cells zr.cells 29))).drew
 have ID := hide (IsB.below I.out bd)
 have ND := hide (N0.below bd)
 have PD := hide (P0.below bd)
 have B := hide b2.drew
 clear bd P0 N0 b2 I X SN0 hp
 go_enter Tryz.func30, Tryz.ntmps30
 go_wp2_with (first | (focus ((with_reducible refine wpList_store_w ?_ 29 (.tmp 3) (.tmp 4) ?_ ?_ ?_ SN.out ?_); rotate_left; rfl; rfl; rfl; rotate_left; rfl)))
 clear y9 SN
 refine regionL 10 (fun w' => DsAt w' b S ∧ IsB w' (w.heap.size + 1) zr.cells 29) mixed ⟨ID.out, ND.out⟩ (fun hHeld => ?_)
 generalize ((w.alloc (.cells #[.int .i64 0, .int .i64 0, .int .i64 0, .int .u64 0, .int .i64 0, .int .u64 0, .int .i64 0, .int .i64 0, .int .u64 0, .int .i64 0, .int .i64 0, .int .u64 0, .int .i64 0, .int .u64 0, .int .i64 0, .int .i64 0, .int .u64 0, .int .i64 0, .int .u64 0, .int .i64 0, .int .i64 0, .int .i64 0, .int .u64 0, .slice none 0 0, .slice none 0 0, .int .i64 0, .int .i64 0, .int .u64 0, .int .i64 0, .int .u64 0, .int .i64 0, .int .i64 0, .int .u64 0, .int .i64 0, .int .u64 0, .bool false] 53)).alloc (.cells zr.cells 29)).drew = WD at *
 refine pkA (v := ?_) 0 (some 52) rfl rfl ?_ (by assumption) ?_
 rotate_left
 · intro w'
   go_simp
   try with_reducible rfl
 try simp only [Act.put, zqa, zqb, zqc]
 refine pkA (v := ?_) 1 (some 53) rfl rfl ?_ (by assumption) ?_
 rotate_left
 · intro w'
   go_simp
   try with_reducible rfl
 try simp only [Act.put, zqa, zqb, zqc]
 refine pkA (v := ?_) 2 (some 54) rfl rfl ?_ (by assumption) ?_
 rotate_left
 · intro w'
   go_simp
   try with_reducible rfl
 try simp only [Act.put, zqa, zqb, zqc]
 refine pkA (v := ?_) 3 (some 55) rfl rfl ?_ (by assumption) ?_
 rotate_left
 · intro w'
   go_simp
   try with_reducible rfl
 try simp only [Act.put, zqa, zqb, zqc]
 refine pkL (v := .agg S.rg.cells) 4 (some 56) rfl rfl ?_ (by assumption) ?_
 · intro w' hSw
   obtain ⟨q0, q1⟩ := hSw
   exact exec_load rfl rfl (dld_right q0)
 try simp only [Act.put, zqa, zqb, zqc]
 refine pkA (v := ?_) 5 (some 57) rfl rfl ?_ (by assumption) ?_
 rotate_left
 · intro w'
   go_simp
   try with_reducible rfl
 try simp only [Act.put, zqa, zqb, zqc]
 refine pkA (v := ?_) 6 (some 58) rfl rfl ?_ (by assumption) ?_
 rotate_left
 · intro w'
   go_simp
   try with_reducible rfl
 try simp only [Act.put, zqa, zqb, zqc]
 refine pkA (v := ?_) 7 (some 59) rfl rfl ?_ (by assumption) ?_
 rotate_left
 · intro w'
   go_simp
   try with_reducible rfl
 try simp only [Act.put, zqa, zqb, zqc]
 refine pkL (v := .agg S.lf.cells) 8 (some 60) rfl rfl ?_ (by assumption) ?_
 · intro w' hSw
   obtain ⟨q0, q1⟩ := hSw
   exact exec_load rfl rfl (dld_left q0)
 try simp only [Act.put, zqa, zqb, zqc]
 refine oneL (i := 9) (by kernel_rfl) rfl (fun K hK => ?_)
 go_simp
 refine (dask_6 b S S.rg S.lf WD ID.out).mono ?_
 rintro e' w5 ⟨rfl, hb⟩
 obtain ⟨w6, hs6, P6', k6⟩ := ust_step (PD.out.below hb) rfl 1 S.rg 6 S.wl S.wb S.lf zr 0 0 0 zr zr
 have HS6 := hide hs6
 have P6 := hide P6'
 have B6 : Hid (Below w.heap.size w w6) := (B.out.trans (hb.mono B.out.size)).trans (k6.to_below (by have := B.out.size; have := hb.size; omega) (by simp))
 have I5 := hide (ID.out.below hb)
 have N5 := hide (ND.out.below hb)
 clear hs6 P6' k6 hb PD B
 refine hK.out _ _ ?_ ?_
 · exact ⟨I5.out, N5.out⟩
 clear hK K
 try simp only [Act.put, zqa, zqb, zqc]
 clear hHeld
 have hHeld : (fun w' => DsAt w' b S ∧ IsB w' (w.heap.size + 1) zr.cells 29) w5 := ⟨I5.out, N5.out⟩
 refine lateL (i := 10) (by kernel_rfl) rfl (by decide) (by kernel_rfl) (fun K hK => ?_)
 refine step_store_w rfl 53 (.tmp 2) (.tmp 61) rfl rfl rfl HS6.out ?_
 refine hK.out _ _ ?_
 clear hK K
 try simp only [Act.put, List.setIfInBounds_toArray]
 refine doneL (by kernel_rfl) ?_ _
 clear hHeld
 try simp only [Act.put]
 try go_wp2
 refine ret_step (p := 2) (b := w.heap.size) Tryz.results30 rfl rfl P6.out ?_
 exact ⟨rfl, B6.out⟩

set_option maxHeartbeats 2000000 in
set_option maxRecDepth 100000 in
theorem dn_6 (b : Nat) (S : Us) (hp : S.pl = 6) (w : World) (X : DsAt w b S) : Calls Tryz.prog 30 #[.pointer (some ⟨b, 0, none⟩)] w fun e' w' => e' = .returned (.agg (stL 1 S.me 8 S.wl S.wb zr zr S.oa S.oo 0 zr zr).toArray) ∧ Below w.heap.size w w' := by
 have mixed : Tryz.prog.follows .mixedOrders = true := by kernel_rfl
 have P0 : IsB ((w.alloc (.cells #[.int .i64 0, .int .i64 0, .int .i64 0, .int .u64 0, .int .i64 0, .int .u64 0, .int .i64 0, .int .i64 0, .int .u64 0, .int .i64 0, .int .i64 0, .int .u64 0, .int .i64 0, .int .u64 0, .int .i64 0, .int .i64 0, .int .u64 0, .int .i64 0, .int .u64 0, .int .i64 0, .int .i64 0, .int .i64 0, .int .u64 0, .slice none 0 0, .slice none 0 0, .int .i64 0, .int .i64 0, .int .u64 0, .int .i64 0, .int .u64 0, .int .i64 0, .int .i64 0, .int .u64 0, .int .i64 0, .int .u64 0, .bool false] 53)).alloc (.cells zr.cells 29)) w.heap.size (stL 0 zr 0 0 0 zr zr 0 0 0 zr zr).toArray 53 := (IsB.new w #[.int .i64 0, .int .i64 0, .int .i64 0, .int .u64 0, .int .i64 0, .int .u64 0, .int .i64 0, .int .i64 0, .int .u64 0, .int .i64 0, .int .i64 0, .int .u64 0, .int .i64 0, .int .u64 0, .int .i64 0, .int .i64 0, .int .u64 0, .int .i64 0, .int .u64 0, .int .i64 0, .int .i64 0, .int .i64 0, .int .u64 0, .slice none 0 0, .slice none 0 0, .int .i64 0, .int .i64 0, .int .u64 0, .int .i64 0, .int .u64 0, .int .i64 0, .int .i64 0, .int .u64 0, .int .i64 0, .int .u64 0, .bool false] 53).below ((Below.refl _ _).alloc (Nat.le_refl _) (.cells zr.cells 29))
 have N0 := IsB.new (w.alloc (.cells #[.int .i64 0, .int .i64 0, .int .i64 0, .int .u64 0, .int .i64 0, .int .u64 0, .int .i64 0, .int .i64 0, .int .u64 0, .int .i64 0, .int .i64 0, .int .u64 0, .int .i64 0, .int .u64 0, .int .i64 0, .int .i64 0, .int .u64 0, .int .i64 0, .int .u64 0, .int .i64 0, .int .i64 0, .int .i64 0, .int .u64 0, .slice none 0 0, .slice none 0 0, .int .i64 0, .int .i64 0, .int .u64 0, .int .i64 0, .int .u64 0, .int .i64 0, .int .i64 0, .int .u64 0, .int .i64 0, .int .u64 0, .bool false] 53)) zr.cells 29
 have SN0 := store_newr (w.alloc (.cells #[.int .i64 0, .int .i64 0, .int .i64 0, .int .u64 0, .int .i64 0, .int .u64 0, .int .i64 0, .int .i64 0, .int .u64 0, .int .i64 0, .int .i64 0, .int .u64 0, .int .i64 0, .int .u64 0, .int .i64 0, .int .i64 0, .int .u64 0, .int .i64 0, .int .u64 0, .int .i64 0, .int .i64 0, .int .i64 0, .int .u64 0, .slice none 0 0, .slice none 0 0, .int .i64 0, .int .i64 0, .int .u64 0, .int .i64 0, .int .u64 0, .int .i64 0, .int .i64 0, .int .u64 0, .int .i64 0, .int .u64 0, .bool false] 53)) zr
 rw [World.size_alloc] at N0 SN0
 have b2 := ((Below.refl w.heap.size w).alloc (Nat.le_refl _) (.cells #[.int .i64 0, .int .i64 0, .int .i64 0, .int .u64 0, .int .i64 0, .int .u64 0, .int .i64 0, .int .i64 0, .int .u64 0, .int .i64 0, .int .i64 0, .int .u64 0, .int .i64 0, .int .u64 0, .int .i64 0, .int .i64 0, .int .u64 0, .int .i64 0, .int .u64 0, .int .i64 0, .int .i64 0, .int .i64 0, .int .u64 0, .slice none 0 0, .slice none 0 0, .int .i64 0, .int .i64 0, .int .u64 0, .int .i64 0, .int .u64 0, .int .i64 0, .int .i64 0, .int .u64 0, .int .i64 0, .int .u64 0, .bool false] 53)).alloc (by simp) (.cells zr.cells 29)
 have I := hide (X.below b2)
 have y9 : ((w.alloc (.cells #[.int .i64 0, .int .i64 0, .int .i64 0, .int .u64 0, .int .i64 0, .int .u64 0, .int .i64 0, .int .i64 0, .int .u64 0, .int .i64 0, .int .i64 0, .int .u64 0, .int .i64 0, .int .u64 0, .int .i64 0, .int .i64 0, .int .u64 0, .int .i64 0, .int .u64 0, .int .i64 0, .int .i64 0, .int .i64 0, .int .u64 0, .slice none 0 0, .slice none 0 0, .int .i64 0, .int .i64 0, .int .u64 0, .int .i64 0, .int .u64 0, .int .i64 0, .int .i64 0, .int .u64 0, .int .i64 0, .int .u64 0, .bool false] 53)).alloc (.cells zr.cells 29)).cell? ⟨b, 9, none⟩ = some (.int .i64 S.pl) := dcl_at I.out
 rw [hp] at y9
 have SN := hide SN0
 have bd := (Below.refl ((w.alloc (.cells #[.int .i64 0, .int .i64 0, .int .i64 0, .int .u64 0, .int .i64 0, .int .u64 0, .int .i64 0, .int .i64 0, .int .u64 0, .int .i64 0, .int .i64 0, .int .u64 0, .int .i64 0, .int .u64 0, .int .i64 0, .int .i64 0, .int .u64 0, .int .i64 0, .int .u64 0, .int .i64 0, .int .i64 0, .int .i64 0, .int .u64 0, .slice none 0 0, .slice none 0 0, .int .i64 0, .int .i64 0, .int .u64 0, .int .i64 0, .int .u64 0, .int .i64 0, .int .i64 0, .int .u64 0, .int .i64 0, .int .u64 0, .bool false] 53)).alloc (.cells zr.cells 29)).heap.size ((w.alloc (.cells #[.int .i64 0, .int .i64 0, .int .i64 0, .int .u64 0, .int .i64 0, .int .u64 0, .int .i64 0, .int .i64 0, .int .u64 0, .int .i64 0, .int .i64 0, .int .u64 0, .int .i64 0, .int .u64 0, .int .i64 0, .int .i64 0, .int .u64 0, .int .i64 0, .int .u64 0, .int .i64 0, .int .i64 0, .int .i64 0, .int .u64 0, .slice none 0 0, .slice none 0 0, .int .i64 0, .int .i64 0, .int .u64 0, .int .i64 0, .int .u64 0, .int .i64 0, .int .i64 0, .int .u64 0, .int .i64 0, .int .u64 0, .bool false] 53)).alloc (.cells zr.cells 29))).drew
 have ID := hide (IsB.below I.out bd)
 have ND := hide (N0.below bd)
 have PD := hide (P0.below bd)
 have B := hide b2.drew
 clear bd P0 N0 b2 I X SN0 hp
 go_enter Tryz.func30, Tryz.ntmps30
 go_wp2_with (first | (focus ((with_reducible refine wpList_store_w ?_ 29 (.tmp 3) (.tmp 4) ?_ ?_ ?_ SN.out ?_); rotate_left; rfl; rfl; rfl; rotate_left; rfl)))
 clear y9 SN
 refine regionL 8 (fun w' => DsAt w' b S ∧ IsB w' (w.heap.size + 1) zr.cells 29) mixed ⟨ID.out, ND.out⟩ (fun hHeld => ?_)
 generalize ((w.alloc (.cells #[.int .i64 0, .int .i64 0, .int .i64 0, .int .u64 0, .int .i64 0, .int .u64 0, .int .i64 0, .int .i64 0, .int .u64 0, .int .i64 0, .int .i64 0, .int .u64 0, .int .i64 0, .int .u64 0, .int .i64 0, .int .i64 0, .int .u64 0, .int .i64 0, .int .u64 0, .int .i64 0, .int .i64 0, .int .i64 0, .int .u64 0, .slice none 0 0, .slice none 0 0, .int .i64 0, .int .i64 0, .int .u64 0, .int .i64 0, .int .u64 0, .int .i64 0, .int .i64 0, .int .u64 0, .int .i64 0, .int .u64 0, .bool false] 53)).alloc (.cells zr.cells 29)).drew = WD at *
 refine pkA (v := ?_) 0 (some 64) rfl rfl ?_ (by assumption) ?_
 rotate_left
 · intro w'
   go_simp
   try with_reducible rfl
 try simp only [Act.put, zqa, zqb, zqc]
 refine pkA (v := ?_) 1 (some 65) rfl rfl ?_ (by assumption) ?_
 rotate_left
 · intro w'
   go_simp
   try with_reducible rfl
 try simp only [Act.put, zqa, zqb, zqc]
 refine pkA (v := ?_) 2 (some 66) rfl rfl ?_ (by assumption) ?_
 rotate_left
 · intro w'
   go_simp
   try with_reducible rfl
 try simp only [Act.put, zqa, zqb, zqc]
 refine pkA (v := ?_) 3 (some 67) rfl rfl ?_ (by assumption) ?_
 rotate_left
 · intro w'
   go_simp
   try with_reducible rfl
 try simp only [Act.put, zqa, zqb, zqc]
 refine pkA (v := ?_) 4 (some 68) rfl rfl ?_ (by assumption) ?_
 rotate_left
 · intro w'
   go_simp
   try with_reducible rfl
 try simp only [Act.put, zqa, zqb, zqc]
 refine pkL (v := .agg S.me.cells) 5 (some 69) rfl rfl ?_ (by assumption) ?_
 · intro w' hSw
   obtain ⟨q0, q1⟩ := hSw
   exact exec_load rfl rfl (dld_me q0)
 try simp only [Act.put, zqa, zqb, zqc]
 refine pkL (v := .agg zr.cells) 6 (some 70) rfl rfl ?_ (by assumption) ?_
 · intro w' hSw
   obtain ⟨q0, q1⟩ := hSw
   exact exec_load rfl rfl (load_ref q1 rfl)
 try simp only [Act.put, zqa, zqb, zqc]
 refine oneL (i := 7) (by kernel_rfl) rfl (fun K hK => ?_)
 go_simp
 refine (dask_own b S 8 (by decide) (by decide) S.me zr WD ID.out).mono ?_
 rintro e' w5 ⟨rfl, hb⟩
 obtain ⟨w6, hs6, P6', k6⟩ := ust_step (PD.out.below hb) rfl 1 S.me 8 S.wl S.wb zr zr S.oa S.oo 0 zr zr
 have HS6 := hide hs6
 have P6 := hide P6'
 have B6 : Hid (Below w.heap.size w w6) := (B.out.trans (hb.mono B.out.size)).trans (k6.to_below (by have := B.out.size; have := hb.size; omega) (by simp))
 have I5 := hide (ID.out.below hb)
 have N5 := hide (ND.out.below hb)
 clear hs6 P6' k6 hb PD B
 refine hK.out _ _ ?_ ?_
 · exact ⟨I5.out, N5.out⟩
 clear hK K
 try simp only [Act.put, zqa, zqb, zqc]
 clear hHeld
 have hHeld : (fun w' => DsAt w' b S ∧ IsB w' (w.heap.size + 1) zr.cells 29) w5 := ⟨I5.out, N5.out⟩
 refine lateL (i := 8) (by kernel_rfl) rfl (by decide) (by kernel_rfl) (fun K hK => ?_)
 refine step_store_w rfl 53 (.tmp 2) (.tmp 71) rfl rfl rfl HS6.out ?_
 refine hK.out _ _ ?_
 clear hK K
 try simp only [Act.put, List.setIfInBounds_toArray]
 refine doneL (by kernel_rfl) ?_ _
 clear hHeld
 try simp only [Act.put]
 try go_wp2
 refine ret_step (p := 2) (b := w.heap.size) Tryz.results30 rfl rfl P6.out ?_
 exact ⟨rfl, B6.out⟩

set_option maxHeartbeats 2000000 in
set_option maxRecDepth 100000 in
theorem dn_7 (b : Nat) (S : Us) (hp : S.pl = 7) (w : World) (X : DsAt w b S) : Calls Tryz.prog 30 #[.pointer (some ⟨b, 0, none⟩)] w fun e' w' => e' = .returned (.agg (stL 1 S.me 4 S.wl S.wb zr zr S.oa S.oo 0 zr zr).toArray) ∧ Below w.heap.size w w' := by
 have mixed : Tryz.prog.follows .mixedOrders = true := by kernel_rfl
 have P0 : IsB ((w.alloc (.cells #[.int .i64 0, .int .i64 0, .int .i64 0, .int .u64 0, .int .i64 0, .int .u64 0, .int .i64 0, .int .i64 0, .int .u64 0, .int .i64 0, .int .i64 0, .int .u64 0, .int .i64 0, .int .u64 0, .int .i64 0, .int .i64 0, .int .u64 0, .int .i64 0, .int .u64 0, .int .i64 0, .int .i64 0, .int .i64 0, .int .u64 0, .slice none 0 0, .slice none 0 0, .int .i64 0, .int .i64 0, .int .u64 0, .int .i64 0, .int .u64 0, .int .i64 0, .int .i64 0, .int .u64 0, .int .i64 0, .int .u64 0, .bool false] 53)).alloc (.cells zr.cells 29)) w.heap.size (stL 0 zr 0 0 0 zr zr 0 0 0 zr zr).toArray 53 := (IsB.new w #[.int .i64 0, .int .i64 0, .int .i64 0, .int .u64 0, .int .i64 0, .int .u64 0, .int .i64 0, .int .i64 0, .int .u64 0, .int .i64 0, .int .i64 0, .int .u64 0, .int .i64 0, .int .u64 0, .int .i64 0, .int .i64 0, .int .u64 0, .int .i64 0, .int .u64 0, .int .i64 0, .int .i64 0, .int .i64 0, .int .u64 0, .slice none 0 0, .slice none 0 0, .int .i64 0, .int .i64 0, .int .u64 0, .int .i64 0, .int .u64 0, .int .i64 0, .int .i64 0, .int .u64 0, .int .i64 0, .int .u64 0, .bool false] 53).below ((Below.refl _ _).alloc (Nat.le_refl _) (.cells zr.cells 29))
 have N0 := IsB.new (w.alloc (.cells #[.int .i64 0, .int .i64 0, .int .i64 0, .int .u64 0, .int .i64 0, .int .u64 0, .int .i64 0, .int .i64 0, .int .u64 0, .int .i64 0, .int .i64 0, .int .u64 0, .int .i64 0, .int .u64 0, .int .i64 0, .int .i64 0, .int .u64 0, .int .i64 0, .int .u64 0, .int .i64 0, .int .i64 0, .int .i64 0, .int .u64 0, .slice none 0 0, .slice none 0 0, .int .i64 0, .int .i64 0, .int .u64 0, .int .i64 0, .int .u64 0, .int .i64 0, .int .i64 0, .int .u64 0, .int .i64 0, .int .u64 0, .bool false] 53)) zr.cells 29
 have SN0 := store_newr (w.alloc (.cells #[.int .i64 0, .int .i64 0, .int .i64 0, .int .u64 0, .int .i64 0, .int .u64 0, .int .i64 0, .int .i64 0, .int .u64 0, .int .i64 0, .int .i64 0, .int .u64 0, .int .i64 0, .int .u64 0, .int .i64 0, .int .i64 0, .int .u64 0, .int .i64 0, .int .u64 0, .int .i64 0, .int .i64 0, .int .i64 0, .int .u64 0, .slice none 0 0, .slice none 0 0, .int .i64 0, .int .i64 0, .int .u64 0, .int .i64 0, .int .u64 0, .int .i64 0, .int .i64 0, .int .u64 0, .int .i64 0, .int .u64 0, .bool false] 53)) zr
 rw [World.size_alloc] at N0 SN0
 have b2 := ((Below.refl w.heap.size w).alloc (Nat.le_refl _) (.cells #[.int .i64 0, .int .i64 0, .int .i64 0, .int .u64 0, .int .i64 0, .int .u64 0, .int .i64 0, .int .i64 0, .int .u64 0, .int .i64 0, .int .i64 0, .int .u64 0, .int .i64 0, .int .u64 0, .int .i64 0, .int .i64 0, .int .u64 0, .int .i64 0, .int .u64 0, .int .i64 0, .int .i64 0, .int .i64 0, .int .u64 0, .slice none 0 0, .slice none 0 0, .int .i64 0, .int .i64 0, .int .u64 0, .int .i64 0, .int .u64 0, .int .i64 0, .int .i64 0, .int .u64 0, .int .i64 0, .int .u64 0, .bool false] 53)).alloc (by simp) (.cells zr.cells 29)
 have I := hide (X.below b2)
 have y9 : ((w.alloc (.cells #[.int .i64 0, .int .i64 0, .int .i64 0, .int .u64 0, .int .i64 0, .int .u64 0, .int .i64 0, .int .i64 0, .int .u64 0, .int .i64 0, .int .i64 0, .int .u64 0, .int .i64 0, .int .u64 0, .int .i64 0, .int .i64 0, .int .u64 0, .int .i64 0, .int .u64 0, .int .i64 0, .int .i64 0, .int .i64 0, .int .u64 0, .slice none 0 0, .slice none 0 0, .int .i64 0, .int .i64 0, .int .u64 0, .int .i64 0, .int .u64 0, .int .i64 0, .int .i64 0, .int .u64 0, .int .i64 0, .int .u64 0, .bool false] 53)).alloc (.cells zr.cells 29)).cell? ⟨b, 9, none⟩ = some (.int .i64 S.pl) := dcl_at I.out
 rw [hp] at y9
 have SN := hide SN0
 have bd := (Below.refl ((w.alloc (.cells #[.int .i64 0, .int .i64 0, .int .i64 0, .int .u64 0, .int .i64 0, .int .u64 0, .int .i64 0, .int .i64 0, .int .u64 0, .int .i64 0, .int .i64 0, .int .u64 0, .int .i64 0, .int .u64 0, .int .i64 0, .int .i64 0, .int .u64 0, .int .i64 0, .int .u64 0, .int .i64 0, .int .i64 0, .int .i64 0, .int .u64 0, .slice none 0 0, .slice none 0 0, .int .i64 0, .int .i64 0, .int .u64 0, .int .i64 0, .int .u64 0, .int .i64 0, .int .i64 0, .int .u64 0, .int .i64 0, .int .u64 0, .bool false] 53)).alloc (.cells zr.cells 29)).heap.size ((w.alloc (.cells #[.int .i64 0, .int .i64 0, .int .i64 0, .int .u64 0, .int .i64 0, .int .u64 0, .int .i64 0, .int .i64 0, .int .u64 0, .int .i64 0, .int .i64 0, .int .u64 0, .int .i64 0, .int .u64 0, .int .i64 0, .int .i64 0, .int .u64 0, .int .i64 0, .int .u64 0, .int .i64 0, .int .i64 0, .int .i64 0, .int .u64 0, .slice none 0 0, .slice none 0 0, .int .i64 0, .int .i64 0, .int .u64 0, .int .i64 0, .int .u64 0, .int .i64 0, .int .i64 0, .int .u64 0, .int .i64 0, .int .u64 0, .bool false] 53)).alloc (.cells zr.cells 29))).drew
 have ID := hide (IsB.below I.out bd)
 have ND := hide (N0.below bd)
 have PD := hide (P0.below bd)
 have B := hide b2.drew
 clear bd P0 N0 b2 I X SN0 hp
 go_enter Tryz.func30, Tryz.ntmps30
 go_wp2_with (first | (focus ((with_reducible refine wpList_store_w ?_ 29 (.tmp 3) (.tmp 4) ?_ ?_ ?_ SN.out ?_); rotate_left; rfl; rfl; rfl; rotate_left; rfl)))
 clear y9 SN
 refine regionL 8 (fun w' => DsAt w' b S ∧ IsB w' (w.heap.size + 1) zr.cells 29) mixed ⟨ID.out, ND.out⟩ (fun hHeld => ?_)
 generalize ((w.alloc (.cells #[.int .i64 0, .int .i64 0, .int .i64 0, .int .u64 0, .int .i64 0, .int .u64 0, .int .i64 0, .int .i64 0, .int .u64 0, .int .i64 0, .int .i64 0, .int .u64 0, .int .i64 0, .int .u64 0, .int .i64 0, .int .i64 0, .int .u64 0, .int .i64 0, .int .u64 0, .int .i64 0, .int .i64 0, .int .i64 0, .int .u64 0, .slice none 0 0, .slice none 0 0, .int .i64 0, .int .i64 0, .int .u64 0, .int .i64 0, .int .u64 0, .int .i64 0, .int .i64 0, .int .u64 0, .int .i64 0, .int .u64 0, .bool false] 53)).alloc (.cells zr.cells 29)).drew = WD at *
 refine pkA (v := ?_) 0 (some 74) rfl rfl ?_ (by assumption) ?_
 rotate_left
 · intro w'
   go_simp
   try with_reducible rfl
 try simp only [Act.put, zqa, zqb, zqc]
 refine pkA (v := ?_) 1 (some 75) rfl rfl ?_ (by assumption) ?_
 rotate_left
 · intro w'
   go_simp
   try with_reducible rfl
 try simp only [Act.put, zqa, zqb, zqc]
 refine pkA (v := ?_) 2 (some 76) rfl rfl ?_ (by assumption) ?_
 rotate_left
 · intro w'
   go_simp
   try with_reducible rfl
 try simp only [Act.put, zqa, zqb, zqc]
 refine pkA (v := ?_) 3 (some 77) rfl rfl ?_ (by assumption) ?_
 rotate_left
 · intro w'
   go_simp
   try with_reducible rfl
 try simp only [Act.put, zqa, zqb, zqc]
 refine pkA (v := ?_) 4 (some 78) rfl rfl ?_ (by assumption) ?_
 rotate_left
 · intro w'
   go_simp
   try with_reducible rfl
 try simp only [Act.put, zqa, zqb, zqc]
 refine pkL (v := .agg S.me.cells) 5 (some 79) rfl rfl ?_ (by assumption) ?_
 · intro w' hSw
   obtain ⟨q0, q1⟩ := hSw
   exact exec_load rfl rfl (dld_me q0)
 try simp only [Act.put, zqa, zqb, zqc]
 refine pkL (v := .agg zr.cells) 6 (some 80) rfl rfl ?_ (by assumption) ?_
 · intro w' hSw
   obtain ⟨q0, q1⟩ := hSw
   exact exec_load rfl rfl (load_ref q1 rfl)
 try simp only [Act.put, zqa, zqb, zqc]
 refine oneL (i := 7) (by kernel_rfl) rfl (fun K hK => ?_)
 go_simp
 refine (dask_own b S 4 (by decide) (by decide) S.me zr WD ID.out).mono ?_
 rintro e' w5 ⟨rfl, hb⟩
 obtain ⟨w6, hs6, P6', k6⟩ := ust_step (PD.out.below hb) rfl 1 S.me 4 S.wl S.wb zr zr S.oa S.oo 0 zr zr
 have HS6 := hide hs6
 have P6 := hide P6'
 have B6 : Hid (Below w.heap.size w w6) := (B.out.trans (hb.mono B.out.size)).trans (k6.to_below (by have := B.out.size; have := hb.size; omega) (by simp))
 have I5 := hide (ID.out.below hb)
 have N5 := hide (ND.out.below hb)
 clear hs6 P6' k6 hb PD B
 refine hK.out _ _ ?_ ?_
 · exact ⟨I5.out, N5.out⟩
 clear hK K
 try simp only [Act.put, zqa, zqb, zqc]
 clear hHeld
 have hHeld : (fun w' => DsAt w' b S ∧ IsB w' (w.heap.size + 1) zr.cells 29) w5 := ⟨I5.out, N5.out⟩
 refine lateL (i := 8) (by kernel_rfl) rfl (by decide) (by kernel_rfl) (fun K hK => ?_)
 refine step_store_w rfl 53 (.tmp 2) (.tmp 81) rfl rfl rfl HS6.out ?_
 refine hK.out _ _ ?_
 clear hK K
 try simp only [Act.put, List.setIfInBounds_toArray]
 refine doneL (by kernel_rfl) ?_ _
 clear hHeld
 try simp only [Act.put]
 try go_wp2
 refine ret_step (p := 2) (b := w.heap.size) Tryz.results30 rfl rfl P6.out ?_
 exact ⟨rfl, B6.out⟩

set_option maxHeartbeats 2000000 in
set_option maxRecDepth 100000 in
theorem dn_8 (b : Nat) (S : Us) (hp : S.pl = 8) (w : World) (X : DsAt w b S) : Calls Tryz.prog 30 #[.pointer (some ⟨b, 0, none⟩)] w fun e' w' => e' = .returned (.agg (stL 1 S.lf 4 S.wl S.wb zr zr S.oa S.oo 0 zr zr).toArray) ∧ Below w.heap.size w w' := by
 have mixed : Tryz.prog.follows .mixedOrders = true := by kernel_rfl
 have P0 : IsB ((w.alloc (.cells #[.int .i64 0, .int .i64 0, .int .i64 0, .int .u64 0, .int .i64 0, .int .u64 0, .int .i64 0, .int .i64 0, .int .u64 0, .int .i64 0, .int .i64 0, .int .u64 0, .int .i64 0, .int .u64 0, .int .i64 0, .int .i64 0, .int .u64 0, .int .i64 0, .int .u64 0, .int .i64 0, .int .i64 0, .int .i64 0, .int .u64 0, .slice none 0 0, .slice none 0 0, .int .i64 0, .int .i64 0, .int .u64 0, .int .i64 0, .int .u64 0, .int .i64 0, .int .i64 0, .int .u64 0, .int .i64 0, .int .u64 0, .bool false] 53)).alloc (.cells zr.cells 29)) w.heap.size (stL 0 zr 0 0 0 zr zr 0 0 0 zr zr).toArray 53 := (IsB.new w #[.int .i64 0, .int .i64 0, .int .i64 0, .int .u64 0, .int .i64 0, .int .u64 0, .int .i64 0, .int .i64 0, .int .u64 0, .int .i64 0, .int .i64 0, .int .u64 0, .int .i64 0, .int .u64 0, .int .i64 0, .int .i64 0, .int .u64 0, .int .i64 0, .int .u64 0, .int .i64 0, .int .i64 0, .int .i64 0, .int .u64 0, .slice none 0 0, .slice none 0 0, .int .i64 0, .int .i64 0, .int .u64 0, .int .i64 0, .int .u64 0, .int .i64 0, .int .i64 0, .int .u64 0, .int .i64 0, .int .u64 0, .bool false] 53).below ((Below.refl _ _).alloc (Nat.le_refl _) (.cells zr.cells 29))
 have N0 := IsB.new (w.alloc (.cells #[.int .i64 0, .int .i64 0, .int .i64 0, .int .u64 0, .int .i64 0, .int .u64 0, .int .i64 0, .int .i64 0, .int .u64 0, .int .i64 0, .int .i64 0, .int .u64 0, .int .i64 0, .int .u64 0, .int .i64 0, .int .i64 0, .int .u64 0, .int .i64 0, .int .u64 0, .int .i64 0, .int .i64 0, .int .i64 0, .int .u64 0, .slice none 0 0, .slice none 0 0, .int .i64 0, .int .i64 0, .int .u64 0, .int .i64 0, .int .u64 0, .int .i64 0, .int .i64 0, .int .u64 0, .int .i64 0, .int .u64 0, .bool false] 53)) zr.cells 29
 have SN0 := store_newr (w.alloc (.cells #[.int .i64 0, .int .i64 0, .int .i64 0, .int .u64 0, .int .i64 0, .int .u64 0, .int .i64 0, .int .i64 0, .int .u64 0, .int .i64 0, .int .i64 0, .int .u64 0, .int .i64 0, .int .u64 0, .int .i64 0, .int .i64 0, .int .u64 0, .int .i64 0, .int .u64 0, .int .i64 0, .int .i64 0, .int .i64 0, .int .u64 0, .slice none 0 0, .slice none 0 0, .int .i64 0, .int .i64 0, .int .u64 0, .int .i64 0, .int .u64 0, .int .i64 0, .int .i64 0, .int .u64 0, .int .i64 0, .int .u64 0, .bool false] 53)) zr
 rw [World.size_alloc] at N0 SN0
 have b2 := ((Below.refl w.heap.size w).alloc (Nat.le_refl _) (.cells #[.int .i64 0, .int .i64 0, .int .i64 0, .int .u64 0, .int .i64 0, .int .u64 0, .int .i64 0, .int .i64 0, .int .u64 0, .int .i64 0, .int .i64 0, .int .u64 0, .int .i64 0, .int .u64 0, .int .i64 0, .int .i64 0, .int .u64 0, .int .i64 0, .int .u64 0, .int .i64 0, .int .i64 0, .int .i64 0, .int .u64 0, .slice none 0 0, .slice none 0 0, .int .i64 0, .int .i64 0, .int .u64 0, .int .i64 0, .int .u64 0, .int .i64 0, .int .i64 0, .int .u64 0, .int .i64 0, .int .u64 0, .bool false] 53)).alloc (by simp) (.cells zr.cells 29)
 have I := hide (X.below b2)
 have y9 : ((w.alloc (.cells #[.int .i64 0, .int .i64 0, .int .i64 0, .int .u64 0, .int .i64 0, .int .u64 0, .int .i64 0, .int .i64 0, .int .u64 0, .int .i64 0, .int .i64 0, .int .u64 0, .int .i64 0, .int .u64 0, .int .i64 0, .int .i64 0, .int .u64 0, .int .i64 0, .int .u64 0, .int .i64 0, .int .i64 0, .int .i64 0, .int .u64 0, .slice none 0 0, .slice none 0 0, .int .i64 0, .int .i64 0, .int .u64 0, .int .i64 0, .int .u64 0, .int .i64 0, .int .i64 0, .int .u64 0, .int .i64 0, .int .u64 0, .bool false] 53)).alloc (.cells zr.cells 29)).cell? ⟨b, 9, none⟩ = some (.int .i64 S.pl) := dcl_at I.out
 rw [hp] at y9
 have SN := hide SN0
 have bd := (Below.refl ((w.alloc (.cells #[.int .i64 0, .int .i64 0, .int .i64 0, .int .u64 0, .int .i64 0, .int .u64 0, .int .i64 0, .int .i64 0, .int .u64 0, .int .i64 0, .int .i64 0, .int .u64 0, .int .i64 0, .int .u64 0, .int .i64 0, .int .i64 0, .int .u64 0, .int .i64 0, .int .u64 0, .int .i64 0, .int .i64 0, .int .i64 0, .int .u64 0, .slice none 0 0, .slice none 0 0, .int .i64 0, .int .i64 0, .int .u64 0, .int .i64 0, .int .u64 0, .int .i64 0, .int .i64 0, .int .u64 0, .int .i64 0, .int .u64 0, .bool false] 53)).alloc (.cells zr.cells 29)).heap.size ((w.alloc (.cells #[.int .i64 0, .int .i64 0, .int .i64 0, .int .u64 0, .int .i64 0, .int .u64 0, .int .i64 0, .int .i64 0, .int .u64 0, .int .i64 0, .int .i64 0, .int .u64 0, .int .i64 0, .int .u64 0, .int .i64 0, .int .i64 0, .int .u64 0, .int .i64 0, .int .u64 0, .int .i64 0, .int .i64 0, .int .i64 0, .int .u64 0, .slice none 0 0, .slice none 0 0, .int .i64 0, .int .i64 0, .int .u64 0, .int .i64 0, .int .u64 0, .int .i64 0, .int .i64 0, .int .u64 0, .int .i64 0, .int .u64 0, .bool false] 53)).alloc (.cells zr.cells 29))).drew
 have ID := hide (IsB.below I.out bd)
 have ND := hide (N0.below bd)
 have PD := hide (P0.below bd)
 have B := hide b2.drew
 clear bd P0 N0 b2 I X SN0 hp
 go_enter Tryz.func30, Tryz.ntmps30
 go_wp2_with (first | (focus ((with_reducible refine wpList_store_w ?_ 29 (.tmp 3) (.tmp 4) ?_ ?_ ?_ SN.out ?_); rotate_left; rfl; rfl; rfl; rotate_left; rfl)))
 clear y9 SN
 refine regionL 7 (fun w' => DsAt w' b S ∧ IsB w' (w.heap.size + 1) zr.cells 29) mixed ⟨ID.out, ND.out⟩ (fun hHeld => ?_)
 generalize ((w.alloc (.cells #[.int .i64 0, .int .i64 0, .int .i64 0, .int .u64 0, .int .i64 0, .int .u64 0, .int .i64 0, .int .i64 0, .int .u64 0, .int .i64 0, .int .i64 0, .int .u64 0, .int .i64 0, .int .u64 0, .int .i64 0, .int .i64 0, .int .u64 0, .int .i64 0, .int .u64 0, .int .i64 0, .int .i64 0, .int .i64 0, .int .u64 0, .slice none 0 0, .slice none 0 0, .int .i64 0, .int .i64 0, .int .u64 0, .int .i64 0, .int .u64 0, .int .i64 0, .int .i64 0, .int .u64 0, .int .i64 0, .int .u64 0, .bool false] 53)).alloc (.cells zr.cells 29)).drew = WD at *
 refine pkA (v := ?_) 0 (some 84) rfl rfl ?_ (by assumption) ?_
 rotate_left
 · intro w'
   go_simp
   try with_reducible rfl
 try simp only [Act.put, zqa, zqb, zqc]
 refine pkA (v := ?_) 1 (some 85) rfl rfl ?_ (by assumption) ?_
 rotate_left
 · intro w'
   go_simp
   try with_reducible rfl
 try simp only [Act.put, zqa, zqb, zqc]
 refine pkA (v := ?_) 2 (some 86) rfl rfl ?_ (by assumption) ?_
 rotate_left
 · intro w'
   go_simp
   try with_reducible rfl
 try simp only [Act.put, zqa, zqb, zqc]
 refine pkA (v := ?_) 3 (some 87) rfl rfl ?_ (by assumption) ?_
 rotate_left
 · intro w'
   go_simp
   try with_reducible rfl
 try simp only [Act.put, zqa, zqb, zqc]
 refine pkL (v := .agg S.lf.cells) 4 (some 88) rfl rfl ?_ (by assumption) ?_
 · intro w' hSw
   obtain ⟨q0, q1⟩ := hSw
   exact exec_load rfl rfl (dld_left q0)
 try simp only [Act.put, zqa, zqb, zqc]
 refine pkL (v := .agg zr.cells) 5 (some 89) rfl rfl ?_ (by assumption) ?_
 · intro w' hSw
   obtain ⟨q0, q1⟩ := hSw
   exact exec_load rfl rfl (load_ref q1 rfl)
 try simp only [Act.put, zqa, zqb, zqc]
 refine oneL (i := 6) (by kernel_rfl) rfl (fun K hK => ?_)
 go_simp
 refine (dask_own b S 4 (by decide) (by decide) S.lf zr WD ID.out).mono ?_
 rintro e' w5 ⟨rfl, hb⟩
 obtain ⟨w6, hs6, P6', k6⟩ := ust_step (PD.out.below hb) rfl 1 S.lf 4 S.wl S.wb zr zr S.oa S.oo 0 zr zr
 have HS6 := hide hs6
 have P6 := hide P6'
 have B6 : Hid (Below w.heap.size w w6) := (B.out.trans (hb.mono B.out.size)).trans (k6.to_below (by have := B.out.size; have := hb.size; omega) (by simp))
 have I5 := hide (ID.out.below hb)
 have N5 := hide (ND.out.below hb)
 clear hs6 P6' k6 hb PD B
 refine hK.out _ _ ?_ ?_
 · exact ⟨I5.out, N5.out⟩
 clear hK K
 try simp only [Act.put, zqa, zqb, zqc]
 clear hHeld
 have hHeld : (fun w' => DsAt w' b S ∧ IsB w' (w.heap.size + 1) zr.cells 29) w5 := ⟨I5.out, N5.out⟩
 refine lateL (i := 7) (by kernel_rfl) rfl (by decide) (by kernel_rfl) (fun K hK => ?_)
 refine step_store_w rfl 53 (.tmp 2) (.tmp 90) rfl rfl rfl HS6.out ?_
 refine hK.out _ _ ?_
 clear hK K
 try simp only [Act.put, List.setIfInBounds_toArray]
 refine doneL (by kernel_rfl) ?_ _
 clear hHeld
 try simp only [Act.put]
 try go_wp2
 refine ret_step (p := 2) (b := w.heap.size) Tryz.results30 rfl rfl P6.out ?_
 exact ⟨rfl, B6.out⟩

set_option maxHeartbeats 2000000 in
set_option maxRecDepth 100000 in
theorem dn_9 (b : Nat) (S : Us) (hp : S.pl = 9) (w : World) (X : DsAt w b S) : Calls Tryz.prog 30 #[.pointer (some ⟨b, 0, none⟩)] w fun e' w' => e' = .returned (.agg (stL 2 zr 0 0 0 zr zr 0 0 0 zr zr).toArray) ∧ Below w.heap.size w w' := by
 have mixed : Tryz.prog.follows .mixedOrders = true := by kernel_rfl
 have P0 : IsB ((w.alloc (.cells #[.int .i64 0, .int .i64 0, .int .i64 0, .int .u64 0, .int .i64 0, .int .u64 0, .int .i64 0, .int .i64 0, .int .u64 0, .int .i64 0, .int .i64 0, .int .u64 0, .int .i64 0, .int .u64 0, .int .i64 0, .int .i64 0, .int .u64 0, .int .i64 0, .int .u64 0, .int .i64 0, .int .i64 0, .int .i64 0, .int .u64 0, .slice none 0 0, .slice none 0 0, .int .i64 0, .int .i64 0, .int .u64 0, .int .i64 0, .int .u64 0, .int .i64 0, .int .i64 0, .int .u64 0, .int .i64 0, .int .u64 0, .bool false] 53)).alloc (.cells zr.cells 29)) w.heap.size (stL 0 zr 0 0 0 zr zr 0 0 0 zr zr).toArray 53 := (IsB.new w #[.int .i64 0, .int .i64 0, .int .i64 0, .int .u64 0, .int .i64 0, .int .u64 0, .int .i64 0, .int .i64 0, .int .u64 0, .int .i64 0, .int .i64 0, .int .u64 0, .int .i64 0, .int .u64 0, .int .i64 0, .int .i64 0, .int .u64 0, .int .i64 0, .int .u64 0, .int .i64 0, .int .i64 0, .int .i64 0, .int .u64 0, .slice none 0 0, .slice none 0 0, .int .i64 0, .int .i64 0, .int .u64 0, .int .i64 0, .int .u64 0, .int .i64 0, .int .i64 0, .int .u64 0, .int .i64 0, .int .u64 0, .bool false] 53).below ((Below.refl _ _).alloc (Nat.le_refl _) (.cells zr.cells 29))
 have N0 := IsB.new (w.alloc (.cells #[.int .i64 0, .int .i64 0, .int .i64 0, .int .u64 0, .int .i64 0, .int .u64 0, .int .i64 0, .int .i64 0, .int .u64 0, .int .i64 0, .int .i64 0, .int .u64 0, .int .i64 0, .int .u64 0, .int .i64 0, .int .i64 0, .int .u64 0, .int .i64 0, .int .u64 0, .int .i64 0, .int .i64 0, .int .i64 0, .int .u64 0, .slice none 0 0, .slice none 0 0, .int .i64 0, .int .i64 0, .int .u64 0, .int .i64 0, .int .u64 0, .int .i64 0, .int .i64 0, .int .u64 0, .int .i64 0, .int .u64 0, .bool false] 53)) zr.cells 29
 have SN0 := store_newr (w.alloc (.cells #[.int .i64 0, .int .i64 0, .int .i64 0, .int .u64 0, .int .i64 0, .int .u64 0, .int .i64 0, .int .i64 0, .int .u64 0, .int .i64 0, .int .i64 0, .int .u64 0, .int .i64 0, .int .u64 0, .int .i64 0, .int .i64 0, .int .u64 0, .int .i64 0, .int .u64 0, .int .i64 0, .int .i64 0, .int .i64 0, .int .u64 0, .slice none 0 0, .slice none 0 0, .int .i64 0, .int .i64 0, .int .u64 0, .int .i64 0, .int .u64 0, .int .i64 0, .int .i64 0, .int .u64 0, .int .i64 0, .int .u64 0, .bool false] 53)) zr
 rw [World.size_alloc] at N0 SN0
 have b2 := ((Below.refl w.heap.size w).alloc (Nat.le_refl _) (.cells #[.int .i64 0, .int .i64 0, .int .i64 0, .int .u64 0, .int .i64 0, .int .u64 0, .int .i64 0, .int .i64 0, .int .u64 0, .int .i64 0, .int .i64 0, .int .u64 0, .int .i64 0, .int .u64 0, .int .i64 0, .int .i64 0, .int .u64 0, .int .i64 0, .int .u64 0, .int .i64 0, .int .i64 0, .int .i64 0, .int .u64 0, .slice none 0 0, .slice none 0 0, .int .i64 0, .int .i64 0, .int .u64 0, .int .i64 0, .int .u64 0, .int .i64 0, .int .i64 0, .int .u64 0, .int .i64 0, .int .u64 0, .bool false] 53)).alloc (by simp) (.cells zr.cells 29)
 have I := hide (X.below b2)
 have y9 : ((w.alloc (.cells #[.int .i64 0, .int .i64 0, .int .i64 0, .int .u64 0, .int .i64 0, .int .u64 0, .int .i64 0, .int .i64 0, .int .u64 0, .int .i64 0, .int .i64 0, .int .u64 0, .int .i64 0, .int .u64 0, .int .i64 0, .int .i64 0, .int .u64 0, .int .i64 0, .int .u64 0, .int .i64 0, .int .i64 0, .int .i64 0, .int .u64 0, .slice none 0 0, .slice none 0 0, .int .i64 0, .int .i64 0, .int .u64 0, .int .i64 0, .int .u64 0, .int .i64 0, .int .i64 0, .int .u64 0, .int .i64 0, .int .u64 0, .bool false] 53)).alloc (.cells zr.cells 29)).cell? ⟨b, 9, none⟩ = some (.int .i64 S.pl) := dcl_at I.out
 rw [hp] at y9
 have SN := hide SN0
 obtain ⟨w6, hs6, P6', k6⟩ := ust_step P0 rfl 2 zr 0 0 0 zr zr 0 0 0 zr zr
 have HS6 := hide hs6
 have P6 := hide P6'
 have B6 : Hid (Below w.heap.size w w6) := b2.trans (k6.to_below (by have := b2.size; omega) (by simp))
 clear hs6 P6' k6 P0 b2 N0 SN0 X hp
 clear I
 go_enter Tryz.func30, Tryz.ntmps30
 go_wp2_with (first | (focus ((with_reducible refine wpList_store_w ?_ 29 (.tmp 3) (.tmp 4) ?_ ?_ ?_ SN.out ?_); rotate_left; rfl; rfl; rfl; rotate_left; rfl)) | (focus ((with_reducible refine wpList_store_w ?_ 53 (.tmp 2) (.tmp 93) ?_ ?_ ?_ HS6.out ?_); rotate_left; rfl; rfl; rfl; rotate_left; rfl)))
 try simp only [Act.put]
 try go_wp2
 refine ret_step (p := 2) (b := w.heap.size) Tryz.results30 rfl rfl P6.out ?_
 exact ⟨rfl, B6.out⟩

set_option maxHeartbeats 2000000 in
set_option maxRecDepth 100000 in
theorem dn_10 (b : Nat) (S : Us) (hp : S.pl = 10) (w : World) (X : DsAt w b S) : Calls Tryz.prog 30 #[.pointer (some ⟨b, 0, none⟩)] w fun e' w' => e' = .returned (.agg (stL 3 zr 0 0 0 zr zr 0 0 S.e zr zr).toArray) ∧ Below w.heap.size w w' := by
 have mixed : Tryz.prog.follows .mixedOrders = true := by kernel_rfl
 have P0 : IsB ((w.alloc (.cells #[.int .i64 0, .int .i64 0, .int .i64 0, .int .u64 0, .int .i64 0, .int .u64 0, .int .i64 0, .int .i64 0, .int .u64 0, .int .i64 0, .int .i64 0, .int .u64 0, .int .i64 0, .int .u64 0, .int .i64 0, .int .i64 0, .int .u64 0, .int .i64 0, .int .u64 0, .int .i64 0, .int .i64 0, .int .i64 0, .int .u64 0, .slice none 0 0, .slice none 0 0, .int .i64 0, .int .i64 0, .int .u64 0, .int .i64 0, .int .u64 0, .int .i64 0, .int .i64 0, .int .u64 0, .int .i64 0, .int .u64 0, .bool false] 53)).alloc (.cells zr.cells 29)) w.heap.size (stL 0 zr 0 0 0 zr zr 0 0 0 zr zr).toArray 53 := (IsB.new w #[.int .i64 0, .int .i64 0, .int .i64 0, .int .u64 0, .int .i64 0, .int .u64 0, .int .i64 0, .int .i64 0, .int .u64 0, .int .i64 0, .int .i64 0, .int .u64 0, .int .i64 0, .int .u64 0, .int .i64 0, .int .i64 0, .int .u64 0, .int .i64 0, .int .u64 0, .int .i64 0, .int .i64 0, .int .i64 0, .int .u64 0, .slice none 0 0, .slice none 0 0, .int .i64 0, .int .i64 0, .int .u64 0, .int .i64 0, .int .u64 0, .int .i64 0, .int .i64 0, .int .u64 0, .int .i64 0, .int .u64 0, .bool false] 53).below ((Below.refl _ _).alloc (Nat.le_refl _) (.cells zr.cells 29))
 have N0 := IsB.new (w.alloc (.cells #[.int .i64 0, .int .i64 0, .int .i64 0, .int .u64 0, .int .i64 0, .int .u64 0, .int .i64 0, .int .i64 0, .int .u64 0, .int .i64 0, .int .i64 0, .int .u64 0, .int .i64 0, .int .u64 0, .int .i64 0, .int .i64 0, .int .u64 0, .int .i64 0, .int .u64 0, .int .i64 0, .int .i64 0, .int .i64 0, .int .u64 0, .slice none 0 0, .slice none 0 0, .int .i64 0, .int .i64 0, .int .u64 0, .int .i64 0, .int .u64 0, .int .i64 0, .int .i64 0, .int .u64 0, .int .i64 0, .int .u64 0, .bool false] 53)) zr.cells 29
 have SN0 := store_newr (w.alloc (.cells #[.int .i64 0, .int .i64 0, .int .i64 0, .int .u64 0, .int .i64 0, .int .u64 0, .int .i64 0, .int .i64 0, .int .u64 0, .int .i64 0, .int .i64 0, .int .u64 0, .int .i64 0, .int .u64 0, .int .i64 0, .int .i64 0, .int .u64 0, .int .i64 0, .int .u64 0, .int .i64 0, .int .i64 0, .int .i64 0, .int .u64 0, .slice none 0 0, .slice none 0 0, .int .i64 0, .int .i64 0, .int .u64 0, .int .i64 0, .int .u64 0, .int .i64 0, .int .i64 0, .int .u64 0, .int .i64 0, .int .u64 0, .bool false] 53)) zr
 rw [World.size_alloc] at N0 SN0
 have b2 := ((Below.refl w.heap.size w).alloc (Nat.le_refl _) (.cells #[.int .i64 0, .int .i64 0, .int .i64 0, .int .u64 0, .int .i64 0, .int .u64 0, .int .i64 0, .int .i64 0, .int .u64 0, .int .i64 0, .int .i64 0, .int .u64 0, .int .i64 0, .int .u64 0, .int .i64 0, .int .i64 0, .int .u64 0, .int .i64 0, .int .u64 0, .int .i64 0, .int .i64 0, .int .i64 0, .int .u64 0, .slice none 0 0, .slice none 0 0, .int .i64 0, .int .i64 0, .int .u64 0, .int .i64 0, .int .u64 0, .int .i64 0, .int .i64 0, .int .u64 0, .int .i64 0, .int .u64 0, .bool false] 53)).alloc (by simp) (.cells zr.cells 29)
 have I := hide (X.below b2)
 have y9 : ((w.alloc (.cells #[.int .i64 0, .int .i64 0, .int .i64 0, .int .u64 0, .int .i64 0, .int .u64 0, .int .i64 0, .int .i64 0, .int .u64 0, .int .i64 0, .int .i64 0, .int .u64 0, .int .i64 0, .int .u64 0, .int .i64 0, .int .i64 0, .int .u64 0, .int .i64 0, .int .u64 0, .int .i64 0, .int .i64 0, .int .i64 0, .int .u64 0, .slice none 0 0, .slice none 0 0, .int .i64 0, .int .i64 0, .int .u64 0, .int .i64 0, .int .u64 0, .int .i64 0, .int .i64 0, .int .u64 0, .int .i64 0, .int .u64 0, .bool false] 53)).alloc (.cells zr.cells 29)).cell? ⟨b, 9, none⟩ = some (.int .i64 S.pl) := dcl_at I.out
 rw [hp] at y9
 have SN := hide SN0
 obtain ⟨w6, hs6, P6', k6⟩ := ust_step P0 rfl 3 zr 0 0 0 zr zr 0 0 S.e zr zr
 have HS6 := hide hs6
 have P6 := hide P6'
 have B6 : Hid (Below w.heap.size w w6) := b2.trans (k6.to_below (by have := b2.size; omega) (by simp))
 clear hs6 P6' k6 P0 b2 N0 SN0 X hp
 have y21 : ((w.alloc (.cells #[.int .i64 0, .int .i64 0, .int .i64 0, .int .u64 0, .int .i64 0, .int .u64 0, .int .i64 0, .int .i64 0, .int .u64 0, .int .i64 0, .int .i64 0, .int .u64 0, .int .i64 0, .int .u64 0, .int .i64 0, .int .i64 0, .int .u64 0, .int .i64 0, .int .u64 0, .int .i64 0, .int .i64 0, .int .i64 0, .int .u64 0, .slice none 0 0, .slice none 0 0, .int .i64 0, .int .i64 0, .int .u64 0, .int .i64 0, .int .u64 0, .int .i64 0, .int .i64 0, .int .u64 0, .int .i64 0, .int .u64 0, .bool false] 53)).alloc (.cells zr.cells 29)).cell? ⟨b, 21, none⟩ = some (.int .i64 S.e) := dcl_e I.out
 clear I
 go_enter Tryz.func30, Tryz.ntmps30
 go_wp2_with (first | (focus ((with_reducible refine wpList_store_w ?_ 29 (.tmp 3) (.tmp 4) ?_ ?_ ?_ SN.out ?_); rotate_left; rfl; rfl; rfl; rotate_left; rfl)) | (focus ((with_reducible refine wpList_store_w ?_ 53 (.tmp 2) (.tmp 99) ?_ ?_ ?_ HS6.out ?_); rotate_left; rfl; rfl; rfl; rotate_left; rfl)))
 try simp only [Act.put]
 try go_wp2
 refine ret_step (p := 2) (b := w.heap.size) Tryz.results30 rfl rfl P6.out ?_
 exact ⟨rfl, B6.out⟩

theorem dnext_any (b : Nat) (S : Us) (h1 : 1 ≤ S.pl) (h2 : S.pl ≤ 10) (w : World) (X : DsAt w b S) : Calls Tryz.prog 30 #[.pointer (some ⟨b, 0, none⟩)] w fun e' w' => e' = .returned (.agg S.step.toArray) ∧ Below w.heap.size w w' := by
 unfold Us.step
 by_cases h1' : S.pl = 1
 · rw [if_pos h1']; exact dn_1 b S h1' w X
 rw [if_neg h1']
 by_cases h2' : S.pl = 2
 · rw [if_pos h2']; exact dn_2 b S h2' w X
 rw [if_neg h2']
 by_cases h3' : S.pl = 3
 · rw [if_pos h3']; exact dn_3 b S h3' w X
 rw [if_neg h3']
 by_cases h4' : S.pl = 4
 · rw [if_pos h4']; exact dn_4 b S h4' w X
 rw [if_neg h4']
 by_cases h5' : S.pl = 5
 · rw [if_pos h5']; exact dn_5 b S h5' w X
 rw [if_neg h5']
 by_cases h6' : S.pl = 6
 · rw [if_pos h6']; exact dn_6 b S h6' w X
 rw [if_neg h6']
 by_cases h7' : S.pl = 7
 · rw [if_pos h7']; exact dn_7 b S h7' w X
 rw [if_neg h7']
 by_cases h8' : S.pl = 8
 · rw [if_pos h8']; exact dn_8 b S h8' w X
 rw [if_neg h8']
 by_cases h9' : S.pl = 9
 · rw [if_pos h9']; exact dn_9 b S h9' w X
 rw [if_neg h9']
 exact dn_10 b S (by omega) w X

end Go.Proofs.YtokehogcenjefaaGreatDoor.Un
