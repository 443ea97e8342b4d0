/- The document's Dead, Next. -/
import Derived.Test.YtokehogcenjefaaGreatDoorDG
import Derived.Test.YtokehogcenjefaaGreatDoorSJ
namespace Go.Proofs.YtokehogcenjefaaGreatDoor
open Go.RowKit Go.Maps Go.ChangeMaps

theorem st_sto {w : World} {b : Nat} {k : Int} {r : Rf} {q x y e : Int} {l r2 : Rf} {f : Bool} (I : IsB w b (spL k r q x y e l r2 f).toArray 53) (r' : Rf) : ∃ w', (Instr.storeAt 29 (.pointer (some ⟨b, 1, none⟩)) (.agg r'.cells)).run Tryz.prog w = .ok () w' ∧ IsB w' b (spL k r' q x y e l r2 f).toArray 53 ∧ Kp [b] w w' :=
 store_mid I 1 _ r'.cs (by simp [spL, Rf.cs]) (by kernel_rfl) (by simp [Rf.cs, Value.oneCell'])
theorem ld_step {w : World} {b : Nat} {k : Int} {r : Rf} {q x y e : Int} {l r2 : Rf} {f : Bool} (I : IsB w b (spL k r q x y e l r2 f).toArray 53) : (Instr.loadAt 53 (.pointer (some ⟨b, 0, none⟩))).run Tryz.prog w = .ok (.agg (spL k r q x y e l r2 f).toArray) w := load_mid I 0 _ (spL k r q x y e l r2 f) _ rfl Tryz.underlying53 rfl (by kernel_rfl)
/-- The wills behind a word of who was found. -/
def Sk.deadL (S : Sk) (L : List Wl) (a : An) : List Wl := if S.ov = true ∧ S.e = 0 then keepL L (S.wil S.rr a) else L











set_option maxHeartbeats 2000000 in
set_option maxRecDepth 100000 in
theorem dnext_over (d base : Nat) (S : Sk) (s : Rf) (L : List Wl) (hov : S.ov = true) (w : World) (X : Dk w d base S s L) : Calls Tryz.prog 31 #[.pointer (some ⟨d, 0, none⟩)] w fun e' w' => e' = .returned (.agg (spL 3 zr 0 0 0 S.e S.rl S.rr S.fd).toArray) ∧ Below w.heap.size w w' := by
 have b1 := (Below.refl w.heap.size w).alloc (Nat.le_refl _) (.cells #[.int .i64 0, .int .i64 0, .int .i64 0, .int .u64 0, .int .i64 0, .int .u64 0, .int .i64 0, .int .i64 0, .int .u64 0, .int .i64 0, .int .i64 0, .int .u64 0, .int .i64 0, .int .u64 0, .int .i64 0, .int .i64 0, .int .u64 0, .int .i64 0, .int .u64 0, .int .i64 0, .int .i64 0, .int .i64 0, .int .u64 0, .slice none 0 0, .slice none 0 0, .int .i64 0, .int .i64 0, .int .u64 0, .int .i64 0, .int .u64 0, .int .i64 0, .int .i64 0, .int .u64 0, .int .i64 0, .int .u64 0, .bool false] 53)
 have P0 : IsB (w.alloc (.cells #[.int .i64 0, .int .i64 0, .int .i64 0, .int .u64 0, .int .i64 0, .int .u64 0, .int .i64 0, .int .i64 0, .int .u64 0, .int .i64 0, .int .i64 0, .int .u64 0, .int .i64 0, .int .u64 0, .int .i64 0, .int .i64 0, .int .u64 0, .int .i64 0, .int .u64 0, .int .i64 0, .int .i64 0, .int .i64 0, .int .u64 0, .slice none 0 0, .slice none 0 0, .int .i64 0, .int .i64 0, .int .u64 0, .int .i64 0, .int .u64 0, .int .i64 0, .int .i64 0, .int .u64 0, .int .i64 0, .int .u64 0, .bool false] 53)) w.heap.size (spL 0 zr 0 0 0 0 zr zr false).toArray 53 := IsB.new w #[.int .i64 0, .int .i64 0, .int .i64 0, .int .u64 0, .int .i64 0, .int .u64 0, .int .i64 0, .int .i64 0, .int .u64 0, .int .i64 0, .int .i64 0, .int .u64 0, .int .i64 0, .int .u64 0, .int .i64 0, .int .i64 0, .int .u64 0, .int .i64 0, .int .u64 0, .int .i64 0, .int .i64 0, .int .i64 0, .int .u64 0, .slice none 0 0, .slice none 0 0, .int .i64 0, .int .i64 0, .int .u64 0, .int .i64 0, .int .u64 0, .int .i64 0, .int .i64 0, .int .u64 0, .int .i64 0, .int .u64 0, .bool false] 53
 obtain ⟨to, v, hto, X0⟩ := X
 have XX := hide (X0.below b1)
 have y23 := c_ov XX.out.blk
 rw [hov] at y23
 have LR : Hid ((Instr.loadAt 51 (.pointer (some ⟨d, 24, none⟩))).run Tryz.prog (w.alloc (.cells #[.int .i64 0, .int .i64 0, .int .i64 0, .int .u64 0, .int .i64 0, .int .u64 0, .int .i64 0, .int .i64 0, .int .u64 0, .int .i64 0, .int .i64 0, .int .u64 0, .int .i64 0, .int .u64 0, .int .i64 0, .int .i64 0, .int .u64 0, .int .i64 0, .int .u64 0, .int .i64 0, .int .i64 0, .int .i64 0, .int .u64 0, .slice none 0 0, .slice none 0 0, .int .i64 0, .int .i64 0, .int .u64 0, .int .i64 0, .int .u64 0, .int .i64 0, .int .i64 0, .int .u64 0, .int .i64 0, .int .u64 0, .bool false] 53)) = .ok (.agg #[.int .i64 S.e, .int .u64 0, .slice none 0 0, .slice none 0 0, .int .i64 S.rl.id, .int .i64 S.rl.rk, .int .u64 S.rl.kn, .int .i64 S.rl.ln, .int .u64 S.rl.bt, .int .i64 S.rr.id, .int .i64 S.rr.rk, .int .u64 S.rr.kn, .int .i64 S.rr.ln, .int .u64 S.rr.bt, .bool S.fd]) (w.alloc (.cells #[.int .i64 0, .int .i64 0, .int .i64 0, .int .u64 0, .int .i64 0, .int .u64 0, .int .i64 0, .int .i64 0, .int .u64 0, .int .i64 0, .int .i64 0, .int .u64 0, .int .i64 0, .int .u64 0, .int .i64 0, .int .i64 0, .int .u64 0, .int .i64 0, .int .u64 0, .int .i64 0, .int .i64 0, .int .i64 0, .int .u64 0, .slice none 0 0, .slice none 0 0, .int .i64 0, .int .i64 0, .int .u64 0, .int .i64 0, .int .u64 0, .int .i64 0, .int .i64 0, .int .u64 0, .int .i64 0, .int .u64 0, .bool false] 53))) := q_res XX.out.blk
 obtain ⟨w6, hs6, P6', k6⟩ := st_step P0 rfl 3 zr 0 0 0 S.e S.rl S.rr S.fd
 have HS6 := hide hs6
 have P6 := hide P6'
 have B6 : Hid (Below w.heap.size w w6) := b1.trans (k6.to_below (by have := b1.size; omega) (by simp))
 clear hs6 P6' k6 P0 b1 X0 XX hto
 go_enter Tryz.func31, Tryz.ntmps31
 go_wp2_with (first | (focus ((with_reducible refine wpList_load_w ?_ 51 (.tmp 10) ?_ ?_ LR.out ?_); rotate_left; rfl; rfl; rotate_left; rfl)) | (focus ((with_reducible refine wpList_store_w ?_ 53 (.tmp 2) (.tmp 12) ?_ ?_ ?_ HS6.out ?_); rotate_left; rfl; rfl; rfl; rotate_left; rfl)))
 try simp only [Act.put]
 try go_wp2
 refine ret_step (p := 2) (b := w.heap.size) Tryz.results31 rfl rfl P6.out ?_
 exact ⟨rfl, B6.out⟩

set_option maxHeartbeats 2000000 in
set_option maxRecDepth 100000 in
theorem dnext_here (d base : Nat) (S : Sk) (s : Rf) (L : List Wl) (hov : S.ov = false) (hl : S.lk = false) (w : World) (X : Dk w d base S s L) : Calls Tryz.prog 31 #[.pointer (some ⟨d, 0, none⟩)] w fun e' w' => e' = .returned (.agg (spL 1 S.pt 1 S.wl S.wb 0 zr zr false).toArray) ∧ Below w.heap.size w w' := by
 have mixed : Tryz.prog.follows .mixedOrders = true := by kernel_rfl
 have b1 := (Below.refl w.heap.size w).alloc (Nat.le_refl _) (.cells #[.int .i64 0, .int .i64 0, .int .i64 0, .int .u64 0, .int .i64 0, .int .u64 0, .int .i64 0, .int .i64 0, .int .u64 0, .int .i64 0, .int .i64 0, .int .u64 0, .int .i64 0, .int .u64 0, .int .i64 0, .int .i64 0, .int .u64 0, .int .i64 0, .int .u64 0, .int .i64 0, .int .i64 0, .int .i64 0, .int .u64 0, .slice none 0 0, .slice none 0 0, .int .i64 0, .int .i64 0, .int .u64 0, .int .i64 0, .int .u64 0, .int .i64 0, .int .i64 0, .int .u64 0, .int .i64 0, .int .u64 0, .bool false] 53)
 have P0 : IsB (w.alloc (.cells #[.int .i64 0, .int .i64 0, .int .i64 0, .int .u64 0, .int .i64 0, .int .u64 0, .int .i64 0, .int .i64 0, .int .u64 0, .int .i64 0, .int .i64 0, .int .u64 0, .int .i64 0, .int .u64 0, .int .i64 0, .int .i64 0, .int .u64 0, .int .i64 0, .int .u64 0, .int .i64 0, .int .i64 0, .int .i64 0, .int .u64 0, .slice none 0 0, .slice none 0 0, .int .i64 0, .int .i64 0, .int .u64 0, .int .i64 0, .int .u64 0, .int .i64 0, .int .i64 0, .int .u64 0, .int .i64 0, .int .u64 0, .bool false] 53)) w.heap.size (spL 0 zr 0 0 0 0 zr zr false).toArray 53 := IsB.new w #[.int .i64 0, .int .i64 0, .int .i64 0, .int .u64 0, .int .i64 0, .int .u64 0, .int .i64 0, .int .i64 0, .int .u64 0, .int .i64 0, .int .i64 0, .int .u64 0, .int .i64 0, .int .u64 0, .int .i64 0, .int .i64 0, .int .u64 0, .int .i64 0, .int .u64 0, .int .i64 0, .int .i64 0, .int .i64 0, .int .u64 0, .slice none 0 0, .slice none 0 0, .int .i64 0, .int .i64 0, .int .u64 0, .int .i64 0, .int .u64 0, .int .i64 0, .int .i64 0, .int .u64 0, .int .i64 0, .int .u64 0, .bool false] 53
 obtain ⟨to, v, hto, X0⟩ := X
 have XX := hide (X0.below b1)
 have y23 := c_ov XX.out.blk
 rw [hov] at y23
 have B := hide b1.drew
 have PD := hide (P0.below ((Below.refl _ _).drew))
 have XD := hide (XX.out.below ((Below.refl _ _).drew))
 have ID := hide XD.out.blk
 clear b1 P0 X0 XX
 go_enter Tryz.func31, Tryz.ntmps31
 go_wp2_with fail
 clear y23
 refine regionL 11 (fun w' => IsB w' d (dkL S s to v).toArray 105) mixed ID.out (fun hHeld => ?_)
 generalize (w.alloc (.cells #[.int .i64 0, .int .i64 0, .int .i64 0, .int .u64 0, .int .i64 0, .int .u64 0, .int .i64 0, .int .i64 0, .int .u64 0, .int .i64 0, .int .i64 0, .int .u64 0, .int .i64 0, .int .u64 0, .int .i64 0, .int .i64 0, .int .u64 0, .int .i64 0, .int .u64 0, .int .i64 0, .int .i64 0, .int .i64 0, .int .u64 0, .slice none 0 0, .slice none 0 0, .int .i64 0, .int .i64 0, .int .u64 0, .int .i64 0, .int .u64 0, .int .i64 0, .int .i64 0, .int .u64 0, .int .i64 0, .int .u64 0, .bool false] 53)).drew = WD at *
 have bA := (Below.refl WD.heap.size WD).alloc (Nat.le_refl _) (.cells #[.int .i64 0, .int .i64 0, .int .i64 0, .int .u64 0, .int .i64 0, .int .u64 0, .int .i64 0, .int .i64 0, .int .u64 0, .int .i64 0, .int .i64 0, .int .u64 0, .int .i64 0, .int .u64 0, .int .i64 0, .int .i64 0, .int .u64 0, .int .i64 0, .int .u64 0, .int .i64 0, .int .i64 0, .int .i64 0, .int .u64 0, .slice none 0 0, .slice none 0 0, .int .i64 0, .int .i64 0, .int .u64 0, .int .i64 0, .int .u64 0, .int .i64 0, .int .i64 0, .int .u64 0, .int .i64 0, .int .u64 0, .bool false] 53)
 have IA := hide (ID.out.below bA)
 have SA := hide (store_step WD (spL 1 S.pt 1 S.wl S.wb 0 zr zr false).toArray rfl (by kernel_rfl))
 clear bA
 refine pkA (v := ?_) 0 (some 13) rfl rfl ?_ (by assumption) ?_
 rotate_left
 · intro w'
   go_simp
   try with_reducible rfl
 try simp only [Act.put, zqa, zqb, zqc]
 refine pkA (v := ?_) 1 (some 14) rfl rfl ?_ (by assumption) ?_
 rotate_left
 · intro w'
   go_simp
   try with_reducible rfl
 try simp only [Act.put, zqa, zqb, zqc]
 refine pkA (v := ?_) 2 (some 15) rfl rfl ?_ (by assumption) ?_
 rotate_left
 · intro w'
   go_simp
   try with_reducible rfl
 try simp only [Act.put, zqa, zqb, zqc]
 refine pkL (v := .agg S.pt.cells) 3 (some 16) rfl rfl ?_ (by assumption) ?_
 · intro w' hSw
   have q0 := hSw
   exact exec_load rfl rfl (q_at q0)
 try simp only [Act.put, zqa, zqb, zqc]
 refine pkA (v := ?_) 4 (some 17) rfl rfl ?_ (by assumption) ?_
 rotate_left
 · intro w'
   go_simp
   try with_reducible rfl
 try simp only [Act.put, zqa, zqb, zqc]
 refine pkA (v := ?_) 5 (some 18) rfl rfl ?_ (by assumption) ?_
 rotate_left
 · intro w'
   go_simp
   try with_reducible rfl
 try simp only [Act.put, zqa, zqb, zqc]
 refine pkA (v := ?_) 6 (some 19) rfl rfl ?_ (by assumption) ?_
 rotate_left
 · intro w'
   go_simp
   try with_reducible rfl
 try simp only [Act.put, zqa, zqb, zqc]
 refine pkL (v := (.agg #[.int .i64 (S.wl), .int .u64 (S.wb)])) 7 (some 20) rfl rfl ?_ (by assumption) ?_
 · intro w' hSw
   have q0 := hSw
   exact exec_load rfl rfl (q_w q0)
 try simp only [Act.put, zqa, zqb, zqc]
 refine pkA (v := ?_) 8 (some 21) rfl rfl ?_ (by assumption) ?_
 rotate_left
 · intro w'
   go_simp
   try with_reducible rfl
 try simp only [Act.put, zqa, zqb, zqc]
 refine pkA (v := .agg (spL 1 S.pt 1 S.wl S.wb 0 zr zr false).toArray) 9 (some 22) rfl rfl ?_ (by assumption) ?_
 · intro w'
   kernel_rfl
 try simp only [Act.put, zqa, zqb, zqc]
 refine oneL (i := 10) (by kernel_rfl) rfl (fun K hK => ?_)
 go_simp
 refine hK.out _ _ ?_ ?_
 · exact IA.out
 clear hK K
 try simp only [Act.put, zqa, zqb, zqc]
 clear hHeld
 have hHeld : (fun w' => IsB w' d (dkL S s to v).toArray 105) (WD.alloc (.cells #[.int .i64 0, .int .i64 0, .int .i64 0, .int .u64 0, .int .i64 0, .int .u64 0, .int .i64 0, .int .i64 0, .int .u64 0, .int .i64 0, .int .i64 0, .int .u64 0, .int .i64 0, .int .u64 0, .int .i64 0, .int .i64 0, .int .u64 0, .int .i64 0, .int .u64 0, .int .i64 0, .int .i64 0, .int .i64 0, .int .u64 0, .slice none 0 0, .slice none 0 0, .int .i64 0, .int .i64 0, .int .u64 0, .int .i64 0, .int .u64 0, .int .i64 0, .int .i64 0, .int .u64 0, .int .i64 0, .int .u64 0, .bool false] 53)) := IA.out
 refine lateL (i := 11) (by kernel_rfl) rfl (by decide) (by kernel_rfl) (fun K hK => ?_)
 refine step_store_w rfl 53 (.tmp 3) (.tmp 22) rfl rfl rfl SA.out ?_
 refine hK.out _ _ ?_
 clear hK K
 try simp only [Act.put, List.setIfInBounds_toArray]
 refine doneL (by kernel_rfl) ?_ _
 clear hHeld
 clear IA SA ID
 have b4 := (Below.refl WD.heap.size WD).alloc (Nat.le_refl _) (.cells (spL 1 S.pt 1 S.wl S.wb 0 zr zr false).toArray 53)
 have A := hide (IsB.new WD (spL 1 S.pt 1 S.wl S.wb 0 zr zr false).toArray 53)
 have X4 := hide (XD.out.below b4)
 have hlt := PD.out.lt
 replace PD := hide (PD.out.below b4)
 replace B := hide (B.out.trans (b4.mono B.out.size))
 clear b4 XD
 generalize hW4 : (WD.alloc (.cells (spL 1 S.pt 1 S.wl S.wb 0 zr zr false).toArray 53)) = W4 at *
 clear hW4
 obtain ⟨AB, hAB⟩ : ∃ AB, WD.heap.size = AB := ⟨_, rfl⟩
 rw [hAB] at A hlt ⊢
 clear hAB
 replace hlt := hide hlt
 have y15 := c_lk X4.out.blk
 rw [hl] at y15
 have LS := hide (ld_step A.out)
 obtain ⟨w6, hs6, P6', k6⟩ := st_step PD.out rfl 1 S.pt 1 S.wl S.wb 0 zr zr false
 have HS6 := hide hs6
 have P6 := hide P6'
 have B6 : Hid (Below w.heap.size w w6) := B.out.trans (k6.to_below B.out.size (by simp))
 clear hs6 P6' k6 B PD hto
 go_wp2_with (first | (focus ((with_reducible refine wpList_load_w ?_ 53 (.tmp 3) ?_ ?_ LS.out ?_); rotate_left; rfl; rfl; rotate_left; rfl)) | (focus ((with_reducible refine wpList_store_w ?_ 53 (.tmp 2) (.tmp 32) ?_ ?_ ?_ HS6.out ?_); rotate_left; rfl; rfl; rfl; rotate_left; rfl)))
 try simp only [Act.put]
 try go_wp2
 refine ret_step (p := 2) (b := w.heap.size) Tryz.results31 rfl rfl P6.out ?_
 exact ⟨rfl, B6.out⟩

set_option maxHeartbeats 2000000 in
set_option maxRecDepth 100000 in
theorem dnext_ahead (d base : Nat) (S : Sk) (s : Rf) (L : List Wl) (hov : S.ov = false) (hl : S.lk = true) (w : World) (X : Dk w d base S s L) : Calls Tryz.prog 31 #[.pointer (some ⟨d, 0, none⟩)] w fun e' w' => e' = .returned (.agg (spL 1 S.ah 1 S.wl S.wb 0 zr zr false).toArray) ∧ Below w.heap.size w w' := by
 have mixed : Tryz.prog.follows .mixedOrders = true := by kernel_rfl
 have b1 := (Below.refl w.heap.size w).alloc (Nat.le_refl _) (.cells #[.int .i64 0, .int .i64 0, .int .i64 0, .int .u64 0, .int .i64 0, .int .u64 0, .int .i64 0, .int .i64 0, .int .u64 0, .int .i64 0, .int .i64 0, .int .u64 0, .int .i64 0, .int .u64 0, .int .i64 0, .int .i64 0, .int .u64 0, .int .i64 0, .int .u64 0, .int .i64 0, .int .i64 0, .int .i64 0, .int .u64 0, .slice none 0 0, .slice none 0 0, .int .i64 0, .int .i64 0, .int .u64 0, .int .i64 0, .int .u64 0, .int .i64 0, .int .i64 0, .int .u64 0, .int .i64 0, .int .u64 0, .bool false] 53)
 have P0 : IsB (w.alloc (.cells #[.int .i64 0, .int .i64 0, .int .i64 0, .int .u64 0, .int .i64 0, .int .u64 0, .int .i64 0, .int .i64 0, .int .u64 0, .int .i64 0, .int .i64 0, .int .u64 0, .int .i64 0, .int .u64 0, .int .i64 0, .int .i64 0, .int .u64 0, .int .i64 0, .int .u64 0, .int .i64 0, .int .i64 0, .int .i64 0, .int .u64 0, .slice none 0 0, .slice none 0 0, .int .i64 0, .int .i64 0, .int .u64 0, .int .i64 0, .int .u64 0, .int .i64 0, .int .i64 0, .int .u64 0, .int .i64 0, .int .u64 0, .bool false] 53)) w.heap.size (spL 0 zr 0 0 0 0 zr zr false).toArray 53 := IsB.new w #[.int .i64 0, .int .i64 0, .int .i64 0, .int .u64 0, .int .i64 0, .int .u64 0, .int .i64 0, .int .i64 0, .int .u64 0, .int .i64 0, .int .i64 0, .int .u64 0, .int .i64 0, .int .u64 0, .int .i64 0, .int .i64 0, .int .u64 0, .int .i64 0, .int .u64 0, .int .i64 0, .int .i64 0, .int .i64 0, .int .u64 0, .slice none 0 0, .slice none 0 0, .int .i64 0, .int .i64 0, .int .u64 0, .int .i64 0, .int .u64 0, .int .i64 0, .int .i64 0, .int .u64 0, .int .i64 0, .int .u64 0, .bool false] 53
 obtain ⟨to, v, hto, X0⟩ := X
 have XX := hide (X0.below b1)
 have y23 := c_ov XX.out.blk
 rw [hov] at y23
 have B := hide b1.drew
 have PD := hide (P0.below ((Below.refl _ _).drew))
 have XD := hide (XX.out.below ((Below.refl _ _).drew))
 have ID := hide XD.out.blk
 clear b1 P0 X0 XX
 go_enter Tryz.func31, Tryz.ntmps31
 go_wp2_with fail
 clear y23
 refine regionL 11 (fun w' => IsB w' d (dkL S s to v).toArray 105) mixed ID.out (fun hHeld => ?_)
 generalize (w.alloc (.cells #[.int .i64 0, .int .i64 0, .int .i64 0, .int .u64 0, .int .i64 0, .int .u64 0, .int .i64 0, .int .i64 0, .int .u64 0, .int .i64 0, .int .i64 0, .int .u64 0, .int .i64 0, .int .u64 0, .int .i64 0, .int .i64 0, .int .u64 0, .int .i64 0, .int .u64 0, .int .i64 0, .int .i64 0, .int .i64 0, .int .u64 0, .slice none 0 0, .slice none 0 0, .int .i64 0, .int .i64 0, .int .u64 0, .int .i64 0, .int .u64 0, .int .i64 0, .int .i64 0, .int .u64 0, .int .i64 0, .int .u64 0, .bool false] 53)).drew = WD at *
 have bA := (Below.refl WD.heap.size WD).alloc (Nat.le_refl _) (.cells #[.int .i64 0, .int .i64 0, .int .i64 0, .int .u64 0, .int .i64 0, .int .u64 0, .int .i64 0, .int .i64 0, .int .u64 0, .int .i64 0, .int .i64 0, .int .u64 0, .int .i64 0, .int .u64 0, .int .i64 0, .int .i64 0, .int .u64 0, .int .i64 0, .int .u64 0, .int .i64 0, .int .i64 0, .int .i64 0, .int .u64 0, .slice none 0 0, .slice none 0 0, .int .i64 0, .int .i64 0, .int .u64 0, .int .i64 0, .int .u64 0, .int .i64 0, .int .i64 0, .int .u64 0, .int .i64 0, .int .u64 0, .bool false] 53)
 have IA := hide (ID.out.below bA)
 have SA := hide (store_step WD (spL 1 S.pt 1 S.wl S.wb 0 zr zr false).toArray rfl (by kernel_rfl))
 clear bA
 refine pkA (v := ?_) 0 (some 13) rfl rfl ?_ (by assumption) ?_
 rotate_left
 · intro w'
   go_simp
   try with_reducible rfl
 try simp only [Act.put, zqa, zqb, zqc]
 refine pkA (v := ?_) 1 (some 14) rfl rfl ?_ (by assumption) ?_
 rotate_left
 · intro w'
   go_simp
   try with_reducible rfl
 try simp only [Act.put, zqa, zqb, zqc]
 refine pkA (v := ?_) 2 (some 15) rfl rfl ?_ (by assumption) ?_
 rotate_left
 · intro w'
   go_simp
   try with_reducible rfl
 try simp only [Act.put, zqa, zqb, zqc]
 refine pkL (v := .agg S.pt.cells) 3 (some 16) rfl rfl ?_ (by assumption) ?_
 · intro w' hSw
   have q0 := hSw
   exact exec_load rfl rfl (q_at q0)
 try simp only [Act.put, zqa, zqb, zqc]
 refine pkA (v := ?_) 4 (some 17) rfl rfl ?_ (by assumption) ?_
 rotate_left
 · intro w'
   go_simp
   try with_reducible rfl
 try simp only [Act.put, zqa, zqb, zqc]
 refine pkA (v := ?_) 5 (some 18) rfl rfl ?_ (by assumption) ?_
 rotate_left
 · intro w'
   go_simp
   try with_reducible rfl
 try simp only [Act.put, zqa, zqb, zqc]
 refine pkA (v := ?_) 6 (some 19) rfl rfl ?_ (by assumption) ?_
 rotate_left
 · intro w'
   go_simp
   try with_reducible rfl
 try simp only [Act.put, zqa, zqb, zqc]
 refine pkL (v := (.agg #[.int .i64 (S.wl), .int .u64 (S.wb)])) 7 (some 20) rfl rfl ?_ (by assumption) ?_
 · intro w' hSw
   have q0 := hSw
   exact exec_load rfl rfl (q_w q0)
 try simp only [Act.put, zqa, zqb, zqc]
 refine pkA (v := ?_) 8 (some 21) rfl rfl ?_ (by assumption) ?_
 rotate_left
 · intro w'
   go_simp
   try with_reducible rfl
 try simp only [Act.put, zqa, zqb, zqc]
 refine pkA (v := .agg (spL 1 S.pt 1 S.wl S.wb 0 zr zr false).toArray) 9 (some 22) rfl rfl ?_ (by assumption) ?_
 · intro w'
   kernel_rfl
 try simp only [Act.put, zqa, zqb, zqc]
 refine oneL (i := 10) (by kernel_rfl) rfl (fun K hK => ?_)
 go_simp
 refine hK.out _ _ ?_ ?_
 · exact IA.out
 clear hK K
 try simp only [Act.put, zqa, zqb, zqc]
 clear hHeld
 have hHeld : (fun w' => IsB w' d (dkL S s to v).toArray 105) (WD.alloc (.cells #[.int .i64 0, .int .i64 0, .int .i64 0, .int .u64 0, .int .i64 0, .int .u64 0, .int .i64 0, .int .i64 0, .int .u64 0, .int .i64 0, .int .i64 0, .int .u64 0, .int .i64 0, .int .u64 0, .int .i64 0, .int .i64 0, .int .u64 0, .int .i64 0, .int .u64 0, .int .i64 0, .int .i64 0, .int .i64 0, .int .u64 0, .slice none 0 0, .slice none 0 0, .int .i64 0, .int .i64 0, .int .u64 0, .int .i64 0, .int .u64 0, .int .i64 0, .int .i64 0, .int .u64 0, .int .i64 0, .int .u64 0, .bool false] 53)) := IA.out
 refine lateL (i := 11) (by kernel_rfl) rfl (by decide) (by kernel_rfl) (fun K hK => ?_)
 refine step_store_w rfl 53 (.tmp 3) (.tmp 22) rfl rfl rfl SA.out ?_
 refine hK.out _ _ ?_
 clear hK K
 try simp only [Act.put, List.setIfInBounds_toArray]
 refine doneL (by kernel_rfl) ?_ _
 clear hHeld
 clear IA SA ID
 have b4 := (Below.refl WD.heap.size WD).alloc (Nat.le_refl _) (.cells (spL 1 S.pt 1 S.wl S.wb 0 zr zr false).toArray 53)
 have A := hide (IsB.new WD (spL 1 S.pt 1 S.wl S.wb 0 zr zr false).toArray 53)
 have X4 := hide (XD.out.below b4)
 have hlt := PD.out.lt
 replace PD := hide (PD.out.below b4)
 replace B := hide (B.out.trans (b4.mono B.out.size))
 clear b4 XD
 generalize hW4 : (WD.alloc (.cells (spL 1 S.pt 1 S.wl S.wb 0 zr zr false).toArray 53)) = W4 at *
 clear hW4
 obtain ⟨AB, hAB⟩ : ∃ AB, WD.heap.size = AB := ⟨_, rfl⟩
 rw [hAB] at A hlt ⊢
 clear hAB
 replace hlt := hide hlt
 have y15 := c_lk X4.out.blk
 rw [hl] at y15
 obtain rfl := hto hl
 have LT := hide (q_to X4.out.blk)
 obtain ⟨w5, hs5, A5, k5⟩ := st_sto A.out S.ah
 have HS5 := hide hs5
 replace PD := hide (PD.out.kp k5 (by have := hlt.out; simp; omega))
 replace B := hide (B.out.trans (k5.to_below B.out.size (by have := hlt.out; simp; omega)))
 replace A := hide A5
 clear hs5 A5 k5
 have LS := hide (ld_step A.out)
 obtain ⟨w6, hs6, P6', k6⟩ := st_step PD.out rfl 1 S.ah 1 S.wl S.wb 0 zr zr false
 have HS6 := hide hs6
 have P6 := hide P6'
 have B6 : Hid (Below w.heap.size w w6) := B.out.trans (k6.to_below B.out.size (by simp))
 clear hs6 P6' k6 B PD hto
 go_wp2_with (first | (focus ((with_reducible refine wpList_load_w ?_ 29 (.tmp 29) ?_ ?_ LT.out ?_); rotate_left; rfl; rfl; rotate_left; rfl)) | (focus ((with_reducible refine wpList_store_w ?_ 29 (.tmp 31) (.tmp 30) ?_ ?_ ?_ HS5.out ?_); rotate_left; rfl; rfl; rfl; rotate_left; rfl)) | (focus ((with_reducible refine wpList_load_w ?_ 53 (.tmp 3) ?_ ?_ LS.out ?_); rotate_left; rfl; rfl; rotate_left; rfl)) | (focus ((with_reducible refine wpList_store_w ?_ 53 (.tmp 2) (.tmp 32) ?_ ?_ ?_ HS6.out ?_); rotate_left; rfl; rfl; rfl; rotate_left; rfl)))
 try simp only [Act.put]
 try go_wp2
 refine ret_step (p := 2) (b := w.heap.size) Tryz.results31 rfl rfl P6.out ?_
 exact ⟨rfl, B6.out⟩

theorem dnext_any (d base : Nat) (S : Sk) (s : Rf) (L : List Wl) (w : World) (X : Dk w d base S s L) : Calls Tryz.prog 31 #[.pointer (some ⟨d, 0, none⟩)] w fun e' w' => e' = .returned (.agg S.step.toArray) ∧ Below w.heap.size w w' := by
 unfold Sk.step
 cases hov : S.ov with
 | true => rw [if_pos rfl]; exact dnext_over d base S s L hov w X
 | false =>
   rw [if_neg (by decide)]
   unfold Sk.to
   cases hl : S.lk with
   | true => rw [if_pos rfl]; exact dnext_ahead d base S s L hov hl w X
   | false => rw [if_neg (by decide)]; exact dnext_here d base S s L hov hl w X

end Go.Proofs.YtokehogcenjefaaGreatDoor
