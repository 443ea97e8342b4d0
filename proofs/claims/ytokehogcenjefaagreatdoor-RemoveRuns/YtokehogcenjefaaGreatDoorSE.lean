/- living: who lives to the right, as far as is known. -/
import Derived.Test.YtokehogcenjefaaGreatDoorSD
import Derived.Test.YtokehogcenjefaaGreatDoorSV
import Derived.Deep.WholeRow
namespace Go.Proofs.YtokehogcenjefaaGreatDoor
open Go.RowKit Go.Maps Go.ChangeMaps

theorem klt_iff {a b c d : Int} : klt (a, b) (c, d) = true ↔ (a < c ∨ a = c ∧ b < d) := by
 unfold klt kcmp orI cmpI
 simp only [decide_eq_true_eq]
 (repeat' split) <;> omega
theorem rlt_iff {x y : Rf} : rlt x y = true ↔ (x.rk < y.rk ∨ x.rk = y.rk ∧ x.kn < y.kn) := klt_iff
theorem countP_lt {α : Type} {p q : α → Bool} : ∀ {l : List α}, (∀ x ∈ l, p x = true → q x = true) → (∃ x ∈ l, q x = true ∧ p x = false) → l.countP p < l.countP q
 | [], _, h => by obtain ⟨x, hx, _⟩ := h; cases hx
 | a :: l, h, hx => by
   have hle : l.countP p ≤ l.countP q := List.countP_mono_left fun x hx hp => h x (List.mem_cons_of_mem _ hx) hp
   rw [List.countP_cons, List.countP_cons]
   by_cases ha : q a = true ∧ p a = false
   · rw [ha.1, ha.2]
     simp
     omega
   · obtain ⟨x, hm, h1⟩ := hx
     rcases List.mem_cons.1 hm with e | e
     · subst e
       exact absurd h1 ha
     · have := countP_lt (l := l) (fun x hx hp => h x (List.mem_cons_of_mem _ hx) hp) ⟨x, e, h1⟩
       have h2 := h a (List.mem_cons_self ..)
       cases hp : p a
       · simp; omega
       · rw [h2 hp]; simp; omega
/-- How far it may go yet. -/
def lvM (ws : List (Pl × Rf)) (last right : Rf) : Nat := ws.countP (fun x => rlt last x.2) + (if (ws.any fun x => decide (x.2 = right)) = true then 0 else 1)
theorem lvM_lt {ws : List (Pl × Rf)} {v : Pl} {last right r : Rf} (h1 : rlt last right = true) (h2 : look ws v = some r) : lvM ws right r < lvM ws last right := by
 have hr : (ws.any fun x => decide (x.2 = r)) = true := List.any_eq_true.2 ⟨_, look_some h2, by simp⟩
 have hmono : ∀ x ∈ ws, rlt right x.2 = true → rlt last x.2 = true := fun x _ h => by
   rw [rlt_iff] at *
   omega
 unfold lvM
 rw [if_pos hr]
 by_cases hc : (ws.any fun x => decide (x.2 = right)) = true
 · rw [if_pos hc]
   obtain ⟨x, hx, e⟩ := List.any_eq_true.1 hc
   have e := of_decide_eq_true e
   have := countP_lt (p := fun x : Pl × Rf => rlt right x.2) (q := fun x : Pl × Rf => rlt last x.2) hmono ⟨x, hx, by rw [e]; exact h1, by
     rw [e]
     cases hz : rlt right right with
     | false => rfl
     | true => rw [rlt_iff] at hz; omega⟩
   omega
 · rw [if_neg hc]
   have := List.countP_mono_left (p := fun x : Pl × Rf => rlt right x.2) (q := fun x : Pl × Rf => rlt last x.2) hmono
   omega
/-- The first one to the right of which no will is kept; none, if those on the way do not rise. -/
def liv (ws : List (Pl × Rf)) (x y : Int) (last right : Rf) : Option Rf :=
 if _h : rlt last right = true ∧ ckE right.rk right.kn = 0 then
   match _hl : look ws (right.id, x, y) with
   | none => some right
   | some r => liv ws x y right r
 else none
termination_by lvM ws last right
decreasing_by exact lvM_lt _h.1 _hl
theorem liv_bad {ws : List (Pl × Rf)} {x y : Int} {last right : Rf} (h : ¬(rlt last right = true ∧ ckE right.rk right.kn = 0)) : liv ws x y last right = none := by
 rw [liv, dif_neg h]
theorem liv_none {ws : List (Pl × Rf)} {x y : Int} {last right : Rf} (h : rlt last right = true ∧ ckE right.rk right.kn = 0) (hl : look ws (right.id, x, y) = none) : liv ws x y last right = some right := by
 rw [liv, dif_pos h]
 split
 · rfl
 · rename_i e; rw [hl] at e; cases e
theorem liv_some {ws : List (Pl × Rf)} {x y : Int} {last right r : Rf} (h : rlt last right = true ∧ ckE right.rk right.kn = 0) (hl : look ws (right.id, x, y) = some r) : liv ws x y last right = liv ws x y right r := by
 rw [liv, dif_pos h]
 split
 · rename_i e; rw [hl] at e; cases e
 · rename_i e; rw [hl] at e; injection e with e; rw [e]
/-- What lies in a variable. -/
def rdRf (w : World) (b : Nat) : Rf := match w.heap[b]? with
 | some (.cells cs _ _) => ⟨intOf (cs.getD 0 undef), intOf (cs.getD 1 undef), intOf (cs.getD 2 undef), intOf (cs.getD 3 undef), intOf (cs.getD 4 undef)⟩
 | _ => zr
theorem rdRf_is {w : World} {b : Nat} {r : Rf} (I : IsB w b r.cells 29) : rdRf w b = r := by
 unfold rdRf
 rw [show w.heap[b]? = some (.cells r.cells 29 (0, 0)) from I]
 rfl
theorem store_new (w : World) (r : Rf) : (Instr.storeAt 29 (.pointer (some ⟨w.heap.size, 0, none⟩)) (.agg r.cells)).run Tryz.prog (w.alloc (.cells #[.int .i64 0, .int .i64 0, .int .u64 0, .int .i64 0, .int .u64 0] 29)) = .ok () (w.alloc (.cells r.cells 29)) := run_storeAt_new w 29 _ r.cells ref_info rfl (by kernel_rfl)
def blkOf (v : Value) : Nat := match v with
 | .pointer (some a) => a.block
 | _ => 0

set_option maxHeartbeats 2000000 in
set_option maxRecDepth 100000 in
theorem living_any (b m : Nat) (S : Sk) (ws : List (Pl × Rf)) (right0 : Rf) (hid : (Lit.int .i64 right0.id).wf = true) (hok : ∀ x ∈ ws, (Lit.int .i64 x.2.id).wf = true) (hw1 : (Lit.int .i64 S.wl).wf = true) (hw2 : (Lit.int .u64 S.wb).wf = true) (w : World) (hR : Ranks w) (X : SkAt w b m S ws) :
   Calls Tryz.prog 154 #[.pointer (some ⟨b, 0, none⟩), .agg right0.cells] w fun e w' => e = .returned (.tuple #[.agg ((liv ws S.wl S.wb S.pt right0).getD zr).cells, .bool (liv ws S.wl S.wb S.pt right0).isSome]) ∧ Below w.heap.size w w' := by
 have mixed : Tryz.prog.follows .mixedOrders = true := by kernel_rfl
 have HR0 := hide hR
 have HOK := hide hok
 have HW1 := hide hw1
 have HW2 := hide hw2
 generalize hE : liv ws S.wl S.wb S.pt right0 = E0
 have HE := hide hE
 have b1 := (((Below.refl w.heap.size w).alloc (Nat.le_refl _) (.cells right0.cells 29)).alloc (by simp) (.cells #[.int .i64 0, .int .i64 0, .int .u64 0, .int .i64 0, .int .u64 0] 29)).alloc (by simp; omega) (.cells S.pt.cells 29)
 have b0 := ((Below.refl w.heap.size w).alloc (Nat.le_refl _) (.cells right0.cells 29)).alloc (by simp) (.cells #[.int .i64 0, .int .i64 0, .int .u64 0, .int .i64 0, .int .u64 0] 29)
 have I0 : Hid (IsB (((w.alloc (.cells right0.cells 29)).alloc (.cells #[.int .i64 0, .int .i64 0, .int .u64 0, .int .i64 0, .int .u64 0] 29)).alloc (.cells S.pt.cells 29)) w.heap.size right0.cells 29) := (IsB.new w right0.cells _).below (((Below.refl _ _).alloc (Nat.le_refl _) _).alloc (by simp) _)
 have I1 : Hid (IsB (((w.alloc (.cells right0.cells 29)).alloc (.cells #[.int .i64 0, .int .i64 0, .int .u64 0, .int .i64 0, .int .u64 0] 29)).alloc (.cells S.pt.cells 29)) (w.heap.size + 1) zr.cells 29) := by
   have := (IsB.new (w.alloc (.cells right0.cells 29)) #[.int .i64 0, .int .i64 0, .int .u64 0, .int .i64 0, .int .u64 0] 29).below ((Below.refl _ _).alloc (Nat.le_refl _) (.cells S.pt.cells 29))
   rwa [World.size_alloc] at this
 have I2 : Hid (IsB (((w.alloc (.cells right0.cells 29)).alloc (.cells #[.int .i64 0, .int .i64 0, .int .u64 0, .int .i64 0, .int .u64 0] 29)).alloc (.cells S.pt.cells 29)) (w.heap.size + 1 + 1) S.pt.cells 29) := by
   have := IsB.new ((w.alloc (.cells right0.cells 29)).alloc (.cells #[.int .i64 0, .int .i64 0, .int .u64 0, .int .i64 0, .int .u64 0] 29)) S.pt.cells 29
   rwa [World.size_alloc, World.size_alloc] at this
 have X1 := hide (X.below b1)
 have HR1 := hide (hR.below b1)
 have LH := hide (ld_here (X.below b0).blk)
 have SN0 := store_new ((w.alloc (.cells right0.cells 29)).alloc (.cells #[.int .i64 0, .int .i64 0, .int .u64 0, .int .i64 0, .int .u64 0] 29)) S.pt
 rw [World.size_alloc, World.size_alloc] at SN0
 have SN := hide SN0
 have B1 := hide b1
 have HID := hide hid
 have HX0 : Hid (b < w.heap.size ∧ m < w.heap.size) := ⟨X.blk.lt, X.map.lt⟩
 clear SN0 b1 b0 X hR hid hok hw1 hw2 hE
 go_enter Tryz.func154, Tryz.ntmps154
 go_wp2_with (first | (focus ((with_reducible refine wpList_load_w ?_ 29 (.tmp 11) ?_ ?_ LH.out ?_); rotate_left; rfl; rfl; rotate_left; rfl)) | (focus ((with_reducible refine wpList_store_w ?_ 29 (.tmp 6) (.tmp 12) ?_ ?_ ?_ SN.out ?_); rotate_left; rfl; rfl; rfl; rotate_left; rfl)))
 try simp only [Act.put]
 generalize (((w.alloc (.cells right0.cells 29)).alloc (.cells #[.int .i64 0, .int .i64 0, .int .u64 0, .int .i64 0, .int .u64 0] 29)).alloc (.cells S.pt.cells 29)) = W1 at *
 clear LH SN
 obtain ⟨R, hRR⟩ : ∃ R, w.heap.size = R := ⟨_, rfl⟩
 rw [hRR] at I0 I1 I2 ⊢
 replace hRR := hide hRR
 go_loopw [6] (fun v6 wr => ∃ (L : Nat) (last right : Rf), v6 = .pointer (some ⟨L, 0, none⟩) ∧ Hid (IsB wr L last.cells 29) ∧ Hid (IsB wr R right.cells 29) ∧ Hid (IsB wr (R + 1) zr.cells 29) ∧ Hid (SkAt wr b m S ws) ∧ Hid (Ranks wr) ∧ Hid (Below w.heap.size w wr) ∧ Hid (R + 1 < L) ∧ Hid (liv ws S.wl S.wb S.pt right0 = liv ws S.wl S.wb last right) ∧ Hid ((Lit.int .i64 right.id).wf = true)) (fun v6 wr => lvM ws (rdRf wr (blkOf v6)) (rdRf wr R))
 case atStart => exact ⟨R + 1 + 1, S.pt, right0, rfl, I2, I0, I1, X1, HR1, B1, by show R + 1 < R + 1 + 1; omega, rfl, HID⟩
 case round =>
   obtain ⟨L, last, right, rfl, IL, IR, IZ, XX, HR, BW, hLR, HEE, HD⟩ := hrel
   have HM1 := hide (rdRf_is IL.out)
   have HM2 := hide (rdRf_is IR.out)
   have LA1 := hide (load_ref IL.out rfl)
   have LA2 := hide (load_ref IR.out rfl)
   go_wp2_with (first | (focus ((with_reducible refine wpList_load_w ?_ 29 (.tmp 6) ?_ ?_ LA1.out ?_); rotate_left; rfl; rfl; rotate_left; rfl)) | (focus ((with_reducible refine wpList_load_w ?_ 29 (.tmp 3) ?_ ?_ LA2.out ?_); rotate_left; rfl; rfl; rotate_left; rfl)))
   refine (rises_any last right wr).mono ?_
   rintro e w2 ⟨rfl, hb⟩
   replace XX := hide (XX.out.below hb)
   replace IL := hide (IL.out.below hb)
   replace IR := hide (IR.out.below hb)
   replace IZ := hide (IZ.out.below hb)
   replace HR := hide (HR.out.below hb)
   replace BW := hide (BW.out.trans (hb.mono BW.out.size))
   clear hb LA1 LA2
   cases hL : rlt last right with
   | false =>
     have hEn : Hid (E0 = none) := by
       show E0 = none
       rw [← HE.out, HEE.out]
       exact liv_bad (fun h => by rw [hL] at h; cases h.1)
     replace hL := hide hL
     clear HE HEE
     obtain ⟨wz, hsz, IZ9, kz⟩ := store_ref IZ.out (cs := zr.cells) rfl rfl (by kernel_rfl)
     have HSZ := hide hsz
     have IZ8 := hide IZ9
     have BZ : Hid (Below w.heap.size w wz) := BW.out.trans (kz.to_below BW.out.size (by simp; have := hRR.out; omega))
     clear hsz IZ9 kz
     go_wp2_with (first | (focus ((with_reducible refine wpList_store_w ?_ 29 (.tmp 4) (.tmp 23) ?_ ?_ ?_ HSZ.out ?_); rotate_left; rfl; rfl; rfl; rotate_left; rfl)))
     refine ret_rt (p := 4) (u := 5) (b := R + 1) Tryz.results154 rfl rfl rfl IZ8.out ?_
     exact ⟨by rw [hEn.out]; rfl, BZ.out⟩
   | true =>
     have LK := hide (ld_key IR.out)
     go_wp2_with (first | (focus ((with_reducible refine wpList_load_w ?_ 25 (.tmp 18) ?_ ?_ LK.out ?_); rotate_left; rfl; rfl; rotate_left; rfl)))
     refine (kCheck_any right.rk right.kn w2 HR.out).mono ?_
     rintro e w3 ⟨rfl, hg⟩
     have hb := hg.below
     replace XX := hide (XX.out.below hb)
     replace IL := hide (IL.out.below hb)
     replace IR := hide (IR.out.below hb)
     replace IZ := hide (IZ.out.below hb)
     replace HR := hide (HR.out.below hb)
     replace BW := hide (BW.out.trans (hb.mono BW.out.size))
     clear hb hg LK
     rcases ck_cases right.rk right.kn with ⟨hC, -⟩ | ⟨hC, -⟩
     · rw [hC]
       have hEn : Hid (E0 = none) := by
         show E0 = none
         rw [← HE.out, HEE.out]
         exact liv_bad (fun h => by rw [hC] at h; cases h.2)
       replace hL := hide hL
       replace hC := hide hC
       clear HE HEE
       obtain ⟨wz, hsz, IZ9, kz⟩ := store_ref IZ.out (cs := zr.cells) rfl rfl (by kernel_rfl)
       have HSZ := hide hsz
       have IZ8 := hide IZ9
       have BZ : Hid (Below w.heap.size w wz) := BW.out.trans (kz.to_below BW.out.size (by simp; have := hRR.out; omega))
       clear hsz IZ9 kz
       go_wp2_with (first | (focus ((with_reducible refine wpList_store_w ?_ 29 (.tmp 4) (.tmp 23) ?_ ?_ ?_ HSZ.out ?_); rotate_left; rfl; rfl; rfl; rotate_left; rfl)))
       refine ret_rt (p := 4) (u := 5) (b := R + 1) Tryz.results154 rfl rfl rfl IZ8.out ?_
       exact ⟨by rw [hEn.out]; rfl, BZ.out⟩
     · rw [hC]
       have hG : Hid (rlt last right = true ∧ ckE right.rk right.kn = 0) := ⟨hL, hC⟩
       replace hL := hide hL
       replace hC := hide hC
       have HK : Hid (okC (right.id, S.wl, S.wb)) := ⟨HD.out, HW1.out, HW2.out⟩
       go_wp2_with fail
       have XD := hide (XX.out.below ((Below.refl _ _).drew))
       have IRD := hide (IR.out.below ((Below.refl _ _).drew))
       have ILD := hide (IL.out.below ((Below.refl _ _).drew))
       have IZD := hide (IZ.out.below ((Below.refl _ _).drew))
       have HRD := hide (HR.out.below ((Below.refl _ _).drew))
       have BD := hide BW.out.drew
       cases hlk : look ws (right.id, S.wl, S.wb) with
       | none =>
         have HLK := hide (look_none hlk)
         have hEn : Hid (E0 = some right) := by
           show E0 = some right
           rw [← HE.out, HEE.out]
           exact liv_none hG.out hlk
         clear HE HEE hlk
         refine regionL 18 (fun w' => IsB w' b (skL S (.map (some m))).toArray 171 ∧ PMp w' m ws ∧ IsB w' R right.cells 29) mixed ⟨XD.out.blk, XD.out.map, IRD.out⟩ (fun hHeld => ?_)
         generalize w3.drew = WD at *
         refine pkA (v := ?_) 0 (some 25) rfl rfl ?_ (by assumption) ?_
         rotate_left
         · intro w'
           go_simp
           try with_reducible rfl
         try simp only [Act.put, zqa, zqb, zqc]
         refine pkA (v := ?_) 1 (some 26) rfl rfl ?_ (by assumption) ?_
         rotate_left
         · intro w'
           go_simp
           try with_reducible rfl
         try simp only [Act.put, zqa, zqb, zqc]
         refine pkA (v := ?_) 2 (some 27) rfl rfl ?_ (by assumption) ?_
         rotate_left
         · intro w'
           go_simp
           try with_reducible rfl
         try simp only [Act.put, zqa, zqb, zqc]
         refine pkL (v := .map (some m)) 3 (some 28) rfl rfl ?_ (by assumption) ?_
         · intro w' hSw
           obtain ⟨q0, q1, q2⟩ := hSw
           have y20 := cl_map q0
           go_simp
         try simp only [Act.put, zqa, zqb, zqc]
         refine pkA (v := ?_) 4 (some 29) rfl rfl ?_ (by assumption) ?_
         rotate_left
         · intro w'
           go_simp
           try with_reducible rfl
         try simp only [Act.put, zqa, zqb, zqc]
         refine pkL (v := .int .i64 right.id) 5 (some 30) rfl rfl ?_ (by assumption) ?_
         · intro w' hSw
           obtain ⟨q0, q1, q2⟩ := hSw
           have y0 := ld_id q2
           go_simp
         try simp only [Act.put, zqa, zqb, zqc]
         refine pkA (v := ?_) 6 (some 31) rfl rfl ?_ (by assumption) ?_
         rotate_left
         · intro w'
           go_simp
           try with_reducible rfl
         try simp only [Act.put, zqa, zqb, zqc]
         refine pkA (v := ?_) 7 (some 32) rfl rfl ?_ (by assumption) ?_
         rotate_left
         · intro w'
           go_simp
           try with_reducible rfl
         try simp only [Act.put, zqa, zqb, zqc]
         refine pkA (v := ?_) 8 (some 33) rfl rfl ?_ (by assumption) ?_
         rotate_left
         · intro w'
           go_simp
           try with_reducible rfl
         try simp only [Act.put, zqa, zqb, zqc]
         refine pkL (v := .agg #[.int .i64 S.wl, .int .u64 S.wb]) 9 (some 34) rfl rfl ?_ (by assumption) ?_
         · intro w' hSw
           obtain ⟨q0, q1, q2⟩ := hSw
           exact exec_load rfl rfl (ld_list q0)
         try simp only [Act.put, zqa, zqb, zqc]
         refine pkA (v := ?_) 10 (some 35) rfl rfl ?_ (by assumption) ?_
         rotate_left
         · intro w'
           go_simp
           try with_reducible rfl
         try simp only [Act.put, zqa, zqb, zqc]
         refine pkL (v := .tuple #[.agg #[.int .i64 0, .int .i64 0, .int .u64 0, .int .i64 0, .int .u64 0], .bool false]) 11 (some 36) rfl rfl ?_ (by assumption) ?_
         · intro w' hSw
           obtain ⟨q0, q1, q2⟩ := hSw
           exact exec_look rfl rfl rfl (q1.look_no2 (right.id, S.wl, S.wb) HK.out HLK.out)
         try simp only [Act.put, zqa, zqb, zqc]
         refine pkA (v := ?_) 12 (some 24) rfl rfl ?_ (by assumption) ?_
         rotate_left
         · intro w'
           go_simp
           try with_reducible rfl
         try simp only [Act.put, zqa, zqb, zqc]
         refine pkA (v := .agg #[.int .i64 0, .int .i64 0, .int .u64 0, .int .i64 0, .int .u64 0]) 13 (some 37) rfl rfl ?_ (by assumption) ?_
         · intro w'
           go_simp
           try with_reducible rfl
         try simp only [Act.put, zqa, zqb, zqc]
         refine pkA (v := ?_) 14 (some 38) rfl rfl ?_ (by assumption) ?_
         rotate_left
         · intro w'
           go_simp
           try with_reducible rfl
         try simp only [Act.put, zqa, zqb, zqc]
         refine oneL (i := 15) (by kernel_rfl) rfl (fun K hK => ?_)
         go_simp
         have bA := (Below.refl WD.heap.size WD).alloc (Nat.le_refl _) (.cells #[.int .i64 0, .int .i64 0, .int .u64 0, .int .i64 0, .int .u64 0] 29)
         have WB0 := IsB.new WD #[.int .i64 0, .int .i64 0, .int .u64 0, .int .i64 0, .int .u64 0] 29
         have XA := hide (XD.out.below bA)
         have IRA := hide (IRD.out.below bA)
         have ILA := hide (ILD.out.below bA)
         have IZA := hide (IZD.out.below bA)
         have HRA := hide (HRD.out.below bA)
         have BA := hide (BD.out.trans (bA.mono BD.out.size))
         have hsz := BD.out.size
         clear bA
         refine hK.out _ _ ?_ ?_
         · exact ⟨XA.out.blk, XA.out.map, IRA.out⟩
         clear hK K
         try simp only [Act.put, zqa, zqb, zqc]
         generalize hWA : WD.alloc (.cells #[.int .i64 0, .int .i64 0, .int .u64 0, .int .i64 0, .int .u64 0] 29) = WA at *
         obtain ⟨w7, hst7, I7, k7⟩ := store_ref WB0 (cs := zr.cells) rfl rfl (by kernel_rfl)
         have hne := ILA.out
         have X7 := hide (XA.out.kp k7 (by simp; have := XD.out.blk.lt; omega) (by simp; have := XD.out.map.lt; omega))
         have IR7 := hide (IRA.out.kp k7 (by simp; have := IRD.out.lt; omega))
         have IL7 := hide (ILA.out.kp k7 (by simp; have := ILD.out.lt; omega))
         have IZ7 := hide (IZA.out.kp k7 (by simp; have := IZD.out.lt; omega))
         have B7 : Hid (Below w.heap.size w w7) := BA.out.trans (k7.to_below (by have := BA.out.size; omega) (by simp; omega))
         have HR7 : Hid (Ranks w7) := HR0.out.below B7.out
         have WB7 := hide I7
         have HST := hide hst7
         generalize hV : WD.heap.size = VB at *
         clear hst7 I7 k7 WB0 hne hHeld
         have hHeld : (fun w' => IsB w' b (skL S (.map (some m))).toArray 171 ∧ PMp w' m ws ∧ IsB w' R right.cells 29) WA := ⟨XA.out.blk, XA.out.map, IRA.out⟩
         refine oneL (i := 16) (by kernel_rfl) rfl (fun K hK => ?_)
         refine step_store_w rfl 29 (.tmp 7) (.tmp 37) rfl rfl rfl HST.out ?_
         refine hK.out _ _ ?_ ?_
         · exact ⟨X7.out.blk, X7.out.map, IR7.out⟩
         clear hK K
         try simp only [Act.put, List.setIfInBounds_toArray]
         clear hHeld
         have hHeld : (fun w' => IsB w' b (skL S (.map (some m))).toArray 171 ∧ PMp w' m ws ∧ IsB w' R right.cells 29) w7 := ⟨X7.out.blk, X7.out.map, IR7.out⟩
         refine pkA (v := ?_) 17 (some 8) rfl rfl ?_ (by assumption) ?_
         rotate_left
         · intro w'
           go_simp
           try with_reducible rfl
         try simp only [Act.put]
         refine doneL (by kernel_rfl) ?_ _
         clear hHeld
         have LR := hide (load_ref IR7.out rfl)
         obtain ⟨wz, hsz, IZ9, kz⟩ := store_ref IZ7.out (cs := right.cells) rfl rfl (by kernel_rfl)
         have HSZ := hide hsz
         have IZ8 := hide IZ9
         have BZ : Hid (Below w.heap.size w wz) := B7.out.trans (kz.to_below B7.out.size (by simp; have := hRR.out; omega))
         clear hsz IZ9 kz
         go_wp2_with (first | (focus ((with_reducible refine wpList_load_w ?_ 29 (.tmp 3) ?_ ?_ LR.out ?_); rotate_left; rfl; rfl; rotate_left; rfl)) | (focus ((with_reducible refine wpList_store_w ?_ 29 (.tmp 4) (.tmp 41) ?_ ?_ ?_ HSZ.out ?_); rotate_left; rfl; rfl; rfl; rotate_left; rfl)))
         refine ret_rt (p := 4) (u := 5) (b := R + 1) Tryz.results154 rfl rfl rfl IZ8.out ?_
         exact ⟨by rw [hEn.out]; rfl, BZ.out⟩
       | some r =>
         have HLK := hide (look_some hlk)
         have hEn : Hid (liv ws S.wl S.wb S.pt right0 = liv ws S.wl S.wb right r) := by
           show liv ws S.wl S.wb S.pt right0 = liv ws S.wl S.wb right r
           rw [HEE.out]
           exact liv_some hG.out hlk
         have hMM : Hid (lvM ws right r < lvM ws last right) := lvM_lt hL.out hlk
         clear HEE hlk
         refine regionL 18 (fun w' => IsB w' b (skL S (.map (some m))).toArray 171 ∧ PMp w' m ws ∧ IsB w' R right.cells 29) mixed ⟨XD.out.blk, XD.out.map, IRD.out⟩ (fun hHeld => ?_)
         generalize w3.drew = WD at *
         refine pkA (v := ?_) 0 (some 25) rfl rfl ?_ (by assumption) ?_
         rotate_left
         · intro w'
           go_simp
           try with_reducible rfl
         try simp only [Act.put, zqa, zqb, zqc]
         refine pkA (v := ?_) 1 (some 26) rfl rfl ?_ (by assumption) ?_
         rotate_left
         · intro w'
           go_simp
           try with_reducible rfl
         try simp only [Act.put, zqa, zqb, zqc]
         refine pkA (v := ?_) 2 (some 27) rfl rfl ?_ (by assumption) ?_
         rotate_left
         · intro w'
           go_simp
           try with_reducible rfl
         try simp only [Act.put, zqa, zqb, zqc]
         refine pkL (v := .map (some m)) 3 (some 28) rfl rfl ?_ (by assumption) ?_
         · intro w' hSw
           obtain ⟨q0, q1, q2⟩ := hSw
           have y20 := cl_map q0
           go_simp
         try simp only [Act.put, zqa, zqb, zqc]
         refine pkA (v := ?_) 4 (some 29) rfl rfl ?_ (by assumption) ?_
         rotate_left
         · intro w'
           go_simp
           try with_reducible rfl
         try simp only [Act.put, zqa, zqb, zqc]
         refine pkL (v := .int .i64 right.id) 5 (some 30) rfl rfl ?_ (by assumption) ?_
         · intro w' hSw
           obtain ⟨q0, q1, q2⟩ := hSw
           have y0 := ld_id q2
           go_simp
         try simp only [Act.put, zqa, zqb, zqc]
         refine pkA (v := ?_) 6 (some 31) rfl rfl ?_ (by assumption) ?_
         rotate_left
         · intro w'
           go_simp
           try with_reducible rfl
         try simp only [Act.put, zqa, zqb, zqc]
         refine pkA (v := ?_) 7 (some 32) rfl rfl ?_ (by assumption) ?_
         rotate_left
         · intro w'
           go_simp
           try with_reducible rfl
         try simp only [Act.put, zqa, zqb, zqc]
         refine pkA (v := ?_) 8 (some 33) rfl rfl ?_ (by assumption) ?_
         rotate_left
         · intro w'
           go_simp
           try with_reducible rfl
         try simp only [Act.put, zqa, zqb, zqc]
         refine pkL (v := .agg #[.int .i64 S.wl, .int .u64 S.wb]) 9 (some 34) rfl rfl ?_ (by assumption) ?_
         · intro w' hSw
           obtain ⟨q0, q1, q2⟩ := hSw
           exact exec_load rfl rfl (ld_list q0)
         try simp only [Act.put, zqa, zqb, zqc]
         refine pkA (v := ?_) 10 (some 35) rfl rfl ?_ (by assumption) ?_
         rotate_left
         · intro w'
           go_simp
           try with_reducible rfl
         try simp only [Act.put, zqa, zqb, zqc]
         refine pkL (v := .tuple #[.agg r.cells, .bool true]) 11 (some 36) rfl rfl ?_ (by assumption) ?_
         · intro w' hSw
           obtain ⟨q0, q1, q2⟩ := hSw
           exact exec_look rfl rfl rfl (q1.look_in2 (right.id, S.wl, S.wb) HK.out r HLK.out)
         try simp only [Act.put, zqa, zqb, zqc]
         refine pkA (v := ?_) 12 (some 24) rfl rfl ?_ (by assumption) ?_
         rotate_left
         · intro w'
           go_simp
           try with_reducible rfl
         try simp only [Act.put, zqa, zqb, zqc]
         refine pkA (v := .agg r.cells) 13 (some 37) rfl rfl ?_ (by assumption) ?_
         · intro w'
           go_simp
           try with_reducible rfl
         try simp only [Act.put, zqa, zqb, zqc]
         refine pkA (v := ?_) 14 (some 38) rfl rfl ?_ (by assumption) ?_
         rotate_left
         · intro w'
           go_simp
           try with_reducible rfl
         try simp only [Act.put, zqa, zqb, zqc]
         refine oneL (i := 15) (by kernel_rfl) rfl (fun K hK => ?_)
         go_simp
         have bA := (Below.refl WD.heap.size WD).alloc (Nat.le_refl _) (.cells #[.int .i64 0, .int .i64 0, .int .u64 0, .int .i64 0, .int .u64 0] 29)
         have WB0 := IsB.new WD #[.int .i64 0, .int .i64 0, .int .u64 0, .int .i64 0, .int .u64 0] 29
         have XA := hide (XD.out.below bA)
         have IRA := hide (IRD.out.below bA)
         have ILA := hide (ILD.out.below bA)
         have IZA := hide (IZD.out.below bA)
         have HRA := hide (HRD.out.below bA)
         have BA := hide (BD.out.trans (bA.mono BD.out.size))
         have hsz := BD.out.size
         clear bA
         refine hK.out _ _ ?_ ?_
         · exact ⟨XA.out.blk, XA.out.map, IRA.out⟩
         clear hK K
         try simp only [Act.put, zqa, zqb, zqc]
         generalize hWA : WD.alloc (.cells #[.int .i64 0, .int .i64 0, .int .u64 0, .int .i64 0, .int .u64 0] 29) = WA at *
         obtain ⟨w7, hst7, I7, k7⟩ := store_ref WB0 (cs := r.cells) rfl rfl (by kernel_rfl)
         have hne := ILA.out
         have X7 := hide (XA.out.kp k7 (by simp; have := XD.out.blk.lt; omega) (by simp; have := XD.out.map.lt; omega))
         have IR7 := hide (IRA.out.kp k7 (by simp; have := IRD.out.lt; omega))
         have IL7 := hide (ILA.out.kp k7 (by simp; have := ILD.out.lt; omega))
         have IZ7 := hide (IZA.out.kp k7 (by simp; have := IZD.out.lt; omega))
         have B7 : Hid (Below w.heap.size w w7) := BA.out.trans (k7.to_below (by have := BA.out.size; omega) (by simp; omega))
         have HR7 : Hid (Ranks w7) := HR0.out.below B7.out
         have WB7 := hide I7
         have HST := hide hst7
         generalize hV : WD.heap.size = VB at *
         clear hst7 I7 k7 WB0 hne hHeld
         have hHeld : (fun w' => IsB w' b (skL S (.map (some m))).toArray 171 ∧ PMp w' m ws ∧ IsB w' R right.cells 29) WA := ⟨XA.out.blk, XA.out.map, IRA.out⟩
         refine oneL (i := 16) (by kernel_rfl) rfl (fun K hK => ?_)
         refine step_store_w rfl 29 (.tmp 7) (.tmp 37) rfl rfl rfl HST.out ?_
         refine hK.out _ _ ?_ ?_
         · exact ⟨X7.out.blk, X7.out.map, IR7.out⟩
         clear hK K
         try simp only [Act.put, List.setIfInBounds_toArray]
         clear hHeld
         have hHeld : (fun w' => IsB w' b (skL S (.map (some m))).toArray 171 ∧ PMp w' m ws ∧ IsB w' R right.cells 29) w7 := ⟨X7.out.blk, X7.out.map, IR7.out⟩
         refine pkA (v := ?_) 17 (some 8) rfl rfl ?_ (by assumption) ?_
         rotate_left
         · intro w'
           go_simp
           try with_reducible rfl
         try simp only [Act.put]
         refine doneL (by kernel_rfl) ?_ _
         clear hHeld
         go_wp2_with fail
         have hLlt := ILD.out.lt
         have hVne : R + 1 < VB := by have := IZD.out.lt; omega
         have IR8 := hide (IR7.out.below ((Below.refl _ _).drew))
         have WB8 := hide (WB7.out.below ((Below.refl _ _).drew))
         have IL8 := IL7.out.below ((Below.refl _ _).drew)
         have IZ8 := IZ7.out.below ((Below.refl _ _).drew)
         have X8 := X7.out.below ((Below.refl _ _).drew)
         obtain ⟨wa, hsa, IA, ka⟩ := store_ref IL8 (cs := right.cells) rfl rfl (by kernel_rfl)
         obtain ⟨wb, hsb, IB, kb⟩ := store_ref (IR8.out.kp ka (by simp; have := hLR.out; omega)) (cs := r.cells) rfl rfl (by kernel_rfl)
         have IRa := hide (IR8.out.kp ka (by simp; have := hLR.out; omega))
         have WBa := hide (WB8.out.kp ka (by simp; omega))
         have HS1 := hide hsa
         have HS2 := hide hsb
         have IL9 := hide (IA.kp kb (by simp; have := hLR.out; omega))
         have IR9 := hide IB
         have IZ9 := hide ((IZ8.kp ka (by simp; have := hLR.out; omega)).kp kb (by simp))
         have hbm := XX.out.blk.lt
         have X9 : Hid (SkAt wb b m S ws) := by
           have hR0 := hRR.out
           have h1 := HX0.out
           exact (X8.kp ka (by simp; have := hLR.out; omega) (by simp; have := hLR.out; omega)).kp kb (by simp; omega) (by simp; omega)
         have B9 : Hid (Below w.heap.size w wb) := (B7.out.drew.trans (ka.to_below (by have := B7.out.drew.size; omega) (by simp; have := hLR.out; have := hRR.out; omega))).trans (kb.to_below (by have := (B7.out.drew.trans (ka.to_below (by have := B7.out.drew.size; omega) (by simp; have := hLR.out; have := hRR.out; omega))).size; omega) (by simp; have := hRR.out; omega))
         clear hsa hsb IA IB ka kb X8 IL8 IZ8
         refine regionL 3 (fun w' => IsB w' R right.cells 29 ∧ IsB w' VB r.cells 29) mixed ⟨IR8.out, WB8.out⟩ (fun hHeld => ?_)
         generalize w7.drew = WE at *
         refine pkL (v := .agg right.cells) 0 (some 42) rfl rfl ?_ (by assumption) ?_
         · intro w' hSw
           obtain ⟨q0, q1⟩ := hSw
           exact exec_load rfl rfl (load_ref q0 rfl)
         try simp only [Act.put, zqa, zqb, zqc]
         refine pkL (v := .agg r.cells) 1 (some 43) rfl rfl ?_ (by assumption) ?_
         · intro w' hSw
           obtain ⟨q0, q1⟩ := hSw
           exact exec_load rfl rfl (load_ref q1 rfl)
         try simp only [Act.put, zqa, zqb, zqc]
         refine oneL (i := 2) (by kernel_rfl) rfl (fun K hK => ?_)
         refine step_store_w rfl 29 (.tmp 6) (.tmp 42) rfl rfl rfl HS1.out ?_
         refine hK.out _ _ ?_ ?_
         · exact ⟨IRa.out, WBa.out⟩
         clear hK K
         try simp only [Act.put, List.setIfInBounds_toArray]
         clear hHeld
         have hHeld : (fun w' => IsB w' R right.cells 29 ∧ IsB w' VB r.cells 29) wa := ⟨IRa.out, WBa.out⟩
         refine lateL (i := 3) (by kernel_rfl) rfl (by decide) (by kernel_rfl) (fun K hK => ?_)
         refine step_store_w rfl 29 (.tmp 3) (.tmp 43) rfl rfl rfl HS2.out ?_
         refine hK.out _ _ ?_
         clear hK K
         try simp only [Act.put]
         refine doneL (by kernel_rfl) ?_ _
         clear hHeld
         have LL := hide (load_ref IL9.out rfl)
         have bN := (Below.refl wb.heap.size wb).alloc (Nat.le_refl _) (.cells right.cells 29)
         have IN := hide (IsB.new wb right.cells 29)
         have IRN := hide (IR9.out.below bN)
         have IZN := hide (IZ9.out.below bN)
         have XN := hide (X9.out.below bN)
         have BN := hide (B9.out.trans (bN.mono B9.out.size))
         have HRN : Hid (Ranks (wb.alloc (.cells right.cells 29))) := HR0.out.below BN.out
         clear bN
         have SN := hide (store_new wb right)
         go_wp2_with (first | (focus ((with_reducible refine wpList_load_w ?_ 29 (.tmp 6) ?_ ?_ LL.out ?_); rotate_left; rfl; rfl; rotate_left; rfl)) | (focus ((with_reducible refine wpList_store_w ?_ 29 (.tmp 6) (.tmp 44) ?_ ?_ ?_ SN.out ?_); rotate_left; rfl; rfl; rfl; rotate_left; rfl)))
         try simp only [Act.put]
         try go_wp2
         refine ⟨⟨wb.heap.size, right, r, rfl, IN, IRN, IZN, XN, HRN, BN, ?_, hEn, HOK.out _ HLK.out⟩, ?_⟩
         · show R + 1 < wb.heap.size
           have := IZ9.out.lt
           have := hLR.out
           have := IL9.out.lt
           omega
         · rw [rdRf_is IRN.out, HM2.out]
           show lvM ws (rdRf (wb.alloc (.cells right.cells 29)) wb.heap.size) r < lvM ws (rdRf wr L) right
           rw [rdRf_is IN.out, HM1.out]
           exact hMM.out

end Go.Proofs.YtokehogcenjefaaGreatDoor
