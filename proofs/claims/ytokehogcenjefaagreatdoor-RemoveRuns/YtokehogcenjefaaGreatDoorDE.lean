/- The document's right. -/
import Derived.Test.YtokehogcenjefaaGreatDoorDC
import Derived.Test.YtokehogcenjefaaGreatDoorDV
namespace Go.Proofs.YtokehogcenjefaaGreatDoor
open Go.RowKit Go.Maps Go.ChangeMaps

def rdK (w : World) (b : Nat) : Rf := match w.heap[b]? with
 | some (.cells #[.int _ x, .int _ y] _ _) => ⟨0, x, y, 0, 0⟩
 | _ => zr
theorem rdK_is {w : World} {b : Nat} {x y : Int} (I : IsB w b #[.int .i64 x, .int .u64 y] 25) : rdK w b = ⟨0, x, y, 0, 0⟩ := by
 unfold rdK
 rw [show w.heap[b]? = some (.cells #[.int .i64 x, .int .u64 y] 25 (0, 0)) from I]
 rfl
theorem ld_k2 {w : World} {b : Nat} {r n : Int} (I : IsB w b #[.int .i64 r, .int .u64 n] 25) : (Instr.loadAt 25 (.pointer (some ⟨b, 0, none⟩))).run Tryz.prog w = .ok (.agg #[.int .i64 (r), .int .u64 (n)]) w := load_mid (cs := [.int .i64 r, .int .u64 n]) I 0 _ [.int .i64 r, .int .u64 n] _ rfl Tryz.underlying25 rfl (by kernel_rfl)
theorem st_k2 {w : World} {b : Nat} {r n : Int} (I : IsB w b #[.int .i64 r, .int .u64 n] 25) (x y : Int) : ∃ w', (Instr.storeAt 25 (.pointer (some ⟨b, 0, none⟩)) (.agg #[.int .i64 (x), .int .u64 (y)])).run Tryz.prog w = .ok () w' ∧ IsB w' b #[.int .i64 x, .int .u64 y] 25 ∧ Kp [b] w w' := store_mid (cs := [.int .i64 r, .int .u64 n]) I 0 _ [.int .i64 x, .int .u64 y] (by simp) (by kernel_rfl) (by simp [Value.oneCell'])
theorem lvM_key {ws : List (Pl × Rf)} (x y r : Rf) (h1 : x.rk = y.rk) (h2 : x.kn = y.kn) : lvM ws x r = lvM ws y r := by
 unfold lvM rlt
 rw [h1, h2]
theorem Kd.loc {base : Nat} {w a b : World} {T : List Nat} (h : Kd base w a) (k : Kp T a b) (hT : ∀ j ∈ T, w.heap.size ≤ j) : Kd base w b :=
 ⟨k.os.trans h.os, k.tape.trans h.tape, k.output.trans h.output, Nat.le_trans h.size k.size, fun j hj hx => (k.block j (Nat.lt_of_lt_of_le hj h.size) (fun hm => by have := hT j hm; omega)).trans (h.blk j hj hx)⟩
/-- What is not of the document's search is kept. -/
theorem Kd.ref {base : Nat} {w w' : World} {b : Nat} {cs : Array Value} (k : Kd base w w') (h : IsB w b cs 29) : IsB w' b cs 29 := h.kd k (by decide) (by decide)

set_option maxHeartbeats 2000000 in
set_option maxRecDepth 100000 in
theorem dright_any (d base : Nat) (S : Sk) (s : Rf) (L : List Wl) (to : Rf) (v : Value) (hto0 : S.lk = true → to = S.ah) (hd0 : ∃ h, S.hd = ⟨0, 1, 0, h, 0⟩) (hrt : rt S.wl S.wb = true) (hwb : 0 ≤ S.wb) (h0 : 0 ≤ S.n) (h1 : S.n ≤ 64) (hL : L.length ≤ 1000000) (r0 : Rf) (w : World) (X : DkAt w d base S s to L v) : Calls Tryz.prog 64 #[.pointer (some ⟨d, 0, none⟩), .agg r0.cells] w fun e' w' => e' = .returned (.tuple #[]) ∧ Dk w' d base (S.right (L.map Wl.pr) r0) s L ∧ Kd base w w' := by
 have mixed : Tryz.prog.follows .mixedOrders = true := by kernel_rfl
 have R0 : IsB ((w.alloc (.cells r0.cells 29)).alloc (.cells #[.int .i64 S.pt.rk, .int .u64 S.pt.kn] 25)) w.heap.size r0.cells 29 := (IsB.new w r0.cells 29).below ((Below.refl _ _).alloc (Nat.le_refl _) _)
 have K0 : IsB ((w.alloc (.cells r0.cells 29)).alloc (.cells #[.int .i64 S.pt.rk, .int .u64 S.pt.kn] 25)) (w.heap.size + 1) #[.int .i64 S.pt.rk, .int .u64 S.pt.kn] 25 := by
   have := IsB.new (w.alloc (.cells r0.cells 29)) #[.int .i64 S.pt.rk, .int .u64 S.pt.kn] 25
   rwa [World.size_alloc] at this
 have b1 := (Below.refl w.heap.size w).alloc (Nat.le_refl _) (.cells r0.cells 29)
 have b2 := b1.alloc (by simp) (.cells #[.int .i64 S.pt.rk, .int .u64 S.pt.kn] 25)
 have LA : Hid ((Instr.loadAt 25 (.pointer (some ⟨d, 9, none⟩))).run Tryz.prog (w.alloc (.cells r0.cells 29)) = .ok (.agg #[.int .i64 S.pt.rk, .int .u64 S.pt.kn]) (w.alloc (.cells r0.cells 29))) := q_atk (X.below b1).blk
 have RI := hide R0
 have KI := hide K0
 have XX := hide (X.below b2)
 have KK : Hid (Kd base w ((w.alloc (.cells r0.cells 29)).alloc (.cells #[.int .i64 S.pt.rk, .int .u64 S.pt.kn] 25))) := Kd.of_below b2
 have DH := hide hd0
 have hto := hide hto0
 clear hto0
 clear hd0 X R0 K0 b1 b2
 go_enter Tryz.func64, Tryz.ntmps64
 go_wp2_with (first | (focus ((with_reducible refine wpList_load_w ?_ 25 (.tmp 9) ?_ ?_ LA.out ?_); rotate_left; rfl; rfl; rotate_left; rfl)))
 generalize ((w.alloc (.cells r0.cells 29)).alloc (.cells #[.int .i64 S.pt.rk, .int .u64 S.pt.kn] 25)) = W2 at *
 clear LA
 obtain ⟨R, hR⟩ : ∃ R, w.heap.size = R := ⟨_, rfl⟩
 rw [hR] at RI KI ⊢
 replace hR := hide hR
 go_loopw [5] (fun _ wr => ∃ (last right : Rf), Hid (IsB wr R right.cells 29) ∧ Hid (IsB wr (R + 1) #[.int .i64 last.rk, .int .u64 last.kn] 25) ∧ Hid (DkAt wr d base S s to L v) ∧ Hid (Kd base w wr) ∧ Hid (liv (L.map Wl.pr) S.wl S.wb S.pt r0 = liv (L.map Wl.pr) S.wl S.wb last right)) (fun _ wr => lvM (L.map Wl.pr) (rdK wr (R + 1)) (rdRf wr R))
 case atStart => exact ⟨S.pt, r0, RI, KI, XX, KK, rfl⟩
 case round =>
   clear RI KI XX KK
   obtain ⟨last, right, RI, KI, XX, KK, HE⟩ := hrel
   have HM1 := hide (rdRf_is RI.out)
   have HM2 := hide (rdK_is KI.out)
   have LK := hide (ld_key RI.out)
   rcases ck_cases right.rk right.kn with ⟨hc, -⟩ | ⟨hc, -⟩
   · have LK1 := hide (ld_key RI.out)
     go_wp2_with (first | (focus ((with_reducible refine wpList_load_w ?_ 25 (.tmp 11) ?_ ?_ LK1.out ?_); rotate_left; rfl; rfl; rotate_left; rfl)))
     refine (rCheck_any right.rk right.kn _).mono ?_
     rintro e w1 ⟨rfl, hg⟩
     have hb := hg.below
     replace RI := hide (RI.out.below hb)
     replace KI := hide (KI.out.below hb)
     replace XX := hide (XX.out.below hb)
     replace KK := hide (KK.out.bel hb)
     clear hb hg LK1 LK
     rw [hc]
     have HB : Hid (S.right (L.map Wl.pr) r0 = S.begin) := by show _ = _; unfold Sk.right; rw [HE.out, liv_bad (fun c => by rw [hc] at c; cases c.2)]
     have CT := hide (dagain_any d base S s L h0 h1 DH.out _ ⟨to, v, hto.out, XX.out⟩)
     clear HE
     go_wp2_with fail
     refine CT.out.mono ?_
     rintro e w9 ⟨rfl, X9, K9⟩
     have F6 : Hid (Dk w9 d base (S.right (L.map Wl.pr) r0) s L) := by show Dk _ _ _ _ _ _; rw [HB.out]; exact X9
     have K7 := hide (KK.out.tr K9)
     clear X9 K9 CT
     try go_wp2
     refine bodyPost_ret (results_none rfl _ _ _) rfl ?_
     exact ⟨rfl, F6.out, K7.out⟩
   have LK1 := hide (ld_key RI.out)
   go_wp2_with (first | (focus ((with_reducible refine wpList_load_w ?_ 25 (.tmp 11) ?_ ?_ LK1.out ?_); rotate_left; rfl; rfl; rotate_left; rfl)))
   refine (rCheck_any right.rk right.kn _).mono ?_
   rintro e w1 ⟨rfl, hg⟩
   have hb := hg.below
   replace RI := hide (RI.out.below hb)
   replace KI := hide (KI.out.below hb)
   replace XX := hide (XX.out.below hb)
   replace KK := hide (KK.out.bel hb)
   clear hb hg LK1 LK
   rw [hc]
   have LL := hide (ld_k2 KI.out)
   have LK := hide (ld_key RI.out)
   go_wp2_with (first | (focus ((with_reducible refine wpList_load_w ?_ 25 (.tmp 4) ?_ ?_ LL.out ?_); rotate_left; rfl; rfl; rotate_left; rfl)) | (focus ((with_reducible refine wpList_load_w ?_ 25 (.tmp 17) ?_ ?_ LK.out ?_); rotate_left; rfl; rfl; rotate_left; rfl)))
   refine (rLess_any last.rk last.kn right.rk right.kn _).mono ?_
   rintro e w2 ⟨rfl, hg⟩
   have hb := hg.below
   replace RI := hide (RI.out.below hb)
   replace KI := hide (KI.out.below hb)
   replace XX := hide (XX.out.below hb)
   replace KK := hide (KK.out.bel hb)
   clear hb hg LL LK
   rw [rlt_eq]
   cases hl : rlt last right with
   | false =>
     have HB : Hid (S.right (L.map Wl.pr) r0 = S.begin) := by show _ = _; unfold Sk.right; rw [HE.out, liv_bad (fun c => by rw [hl] at c; cases c.1)]
     have CT := hide (dagain_any d base S s L h0 h1 DH.out _ ⟨to, v, hto.out, XX.out⟩)
     clear HE
     go_wp2_with fail
     refine CT.out.mono ?_
     rintro e w9 ⟨rfl, X9, K9⟩
     have F6 : Hid (Dk w9 d base (S.right (L.map Wl.pr) r0) s L) := by show Dk _ _ _ _ _ _; rw [HB.out]; exact X9
     have K7 := hide (KK.out.tr K9)
     clear X9 K9 CT
     try go_wp2
     refine bodyPost_ret (results_none rfl _ _ _) rfl ?_
     exact ⟨rfl, F6.out, K7.out⟩
   | true =>
     have HG : Hid (rlt last right = true ∧ ckE right.rk right.kn = 0) := ⟨hl, hc⟩
     clear hc hl
     have LR := hide (load_ref RI.out rfl)
     go_wp2_with (first | (focus ((with_reducible refine wpList_load_w ?_ 29 (.tmp 3) ?_ ?_ LR.out ?_); rotate_left; rfl; rfl; rotate_left; rfl)))
     refine (known_any d base S s to L v hL right _ XX.out).mono ?_
     rintro e w3 ⟨rfl, hb⟩
     replace RI := hide (RI.out.below hb)
     replace KI := hide (KI.out.below hb)
     replace XX := hide (XX.out.below hb)
     replace KK := hide (KK.out.bel hb)
     clear hb LR
     cases hk : knI L (right.id, S.wl, S.wb) with
     | some i =>
       have HKV : knV L (right.id, S.wl, S.wb) = (i : Int) := by unfold knV; rw [hk]
       rw [HKV]
       obtain ⟨hi, -, hlook⟩ := knI_some hk
       have HN : Hid (liv (L.map Wl.pr) S.wl S.wb S.pt r0 = liv (L.map Wl.pr) S.wl S.wb right L[i].r) := HE.out.trans (liv_some HG.out hlook)
       have HM : Hid (∀ x, lvM (L.map Wl.pr) ⟨0, right.rk, right.kn, 0, 0⟩ x = lvM (L.map Wl.pr) right x) := fun x => lvM_key _ _ _ rfl rfl
       have HLT : Hid (lvM (L.map Wl.pr) ⟨0, right.rk, right.kn, 0, 0⟩ L[i].r < lvM (L.map Wl.pr) ⟨0, last.rk, last.kn, 0, 0⟩ right) := by show _ < _; rw [HM.out, lvM_key (ws := (L.map Wl.pr)) ⟨0, last.rk, last.kn, 0, 0⟩ last right rfl rfl]; exact lvM_lt HG.out.1 hlook
       clear HKV hlook HE hk
       have d0 : decide ((i : Int) < 0) = false := by simp
       obtain ⟨va, vc, hsh, -, -⟩ := XX.out.row.shape
       subst hsh
       have R0 := XX.out.row
       have hi2 : (i : Int) < (L.length : Int) := by omega
       obtain ⟨g, cap, ev, -, -, -⟩ := R0.form (by omega)
       injection ev with ev el ec
       clear el
       subst ev ec
       have XD := hide (XX.out.below ((Below.refl _ _).drew))
       have KD := hide (KK.out.bel ((Below.refl _ _).drew))
       have ID := hide XD.out.blk
       have RD := hide (RI.out.below ((Below.refl _ _).drew))
       have QD := hide (KI.out.below ((Below.refl _ _).drew))
       have rowD := R0.below ((Below.refl _ _).drew)
       obtain ⟨-, -, ldD⟩ := wl_cells rowD rfl i hi
       have LD := hide ldD
       obtain ⟨w5, hs5, Q5, k5⟩ := st_k2 QD.out right.rk right.kn
       have n1 : d ∉ [R + 1] := by simp only [List.mem_singleton]; exact fun e => ne_ty ID.out QD.out (by decide) e
       have n2 : R ∉ [R + 1] := by simp
       have nr : ∀ k, (Value.slice (some ⟨g, 0, none⟩) L.length vc).ownBlock = some k → k ∉ [R + 1] := fun k hk hm => by
         obtain ⟨-, cur, hc⟩ := rowD.lt k hk
         simp only [List.mem_singleton] at hm
         subst hm
         exact ne_ty QD.out (show IsB _ _ cur 179 from hc) (by decide) rfl
       have row5 := rowD.kp k5 nr
       obtain ⟨-, -, ld5⟩ := wl_cells row5 rfl i hi
       have I2 := hide (ID.out.kp k5 n1)
       have R2 := hide (RD.out.kp k5 n2)
       have L2 := hide ld5
       generalize L[i] = zw at *
       obtain ⟨z, hz⟩ : ∃ z, zw.r = z := ⟨_, rfl⟩
       rw [hz] at LD L2 HN HLT
       obtain ⟨w6, hs6, R6, k6⟩ := store_ref R2.out (cs := z.cells) rfl rfl (by kernel_rfl)
       have Q6 := hide (Q5.kp k6 (by simp))
       have RR6 := hide R6
       have m1 : d ∉ [R] := by simp only [List.mem_singleton]; exact fun e => ne_ty I2.out R2.out (by decide) e
       have nr6 : ∀ k, (Value.slice (some ⟨g, 0, none⟩) L.length vc).ownBlock = some k → k ∉ [R] := fun k hk hm => by
         obtain ⟨-, cur, hc⟩ := row5.lt k hk
         simp only [List.mem_singleton] at hm
         subst hm
         exact ne_ty R2.out (show IsB _ _ cur 179 from hc) (by decide) rfl
       have X6 : Hid (DkAt w6 d base S s to L (.slice (some ⟨g, 0, none⟩) L.length vc)) := ⟨XD.out.le, I2.out.kp k6 m1, row5.kp k6 nr6, XD.out.new⟩
       have K6 : Hid (Kd base w w6) := (KD.out.loc k5 (by have := hR.out; simp; omega)).loc k6 (by have := hR.out; simp; omega)
       have HS2 := hide hs5
       have HS3 := hide hs6
       clear hs5 hs6 Q5 k5 k6 R6 n1 n2 nr nr6 m1 row5 ld5 ldD rowD R0 QD
       go_wp2_with fail
       refine regionL 11 (fun w' => IsB w' d (dkL S s to (.slice (some ⟨g, 0, none⟩) L.length vc)).toArray 105 ∧ IsB w' R right.cells 29 ∧ (Instr.loadAt 29 (.pointer (some ⟨g, i * 13 + 8, none⟩))).run Tryz.prog w' = .ok (.agg z.cells) w') mixed ⟨ID.out, RD.out, LD.out⟩ (fun hHeld => ?_)
       generalize w3.drew = WD at *
       refine pkA (v := ?_) 0 (some 29) rfl rfl ?_ (by assumption) ?_
       rotate_left
       · intro w'
         go_simp
         try with_reducible rfl
       try simp only [Act.put, zqa, zqb, zqc]
       refine pkL (v := (.agg #[.int .i64 (right.rk), .int .u64 (right.kn)])) 1 (some 30) rfl rfl ?_ (by assumption) ?_
       · intro w' hSw
         obtain ⟨q0, q1, q2⟩ := hSw; have z21 := c_v q0
         exact exec_load rfl rfl (ld_key q1)
       try simp only [Act.put, zqa, zqb, zqc]
       refine pkA (v := ?_) 2 (some 31) rfl rfl ?_ (by assumption) ?_
       rotate_left
       · intro w'
         go_simp
         try with_reducible rfl
       try simp only [Act.put, zqa, zqb, zqc]
       refine pkA (v := ?_) 3 (some 32) rfl rfl ?_ (by assumption) ?_
       rotate_left
       · intro w'
         go_simp
         try with_reducible rfl
       try simp only [Act.put, zqa, zqb, zqc]
       refine pkA (v := ?_) 4 (some 33) rfl rfl ?_ (by assumption) ?_
       rotate_left
       · intro w'
         go_simp
         try with_reducible rfl
       try simp only [Act.put, zqa, zqb, zqc]
       refine pkL (v := ?_) 5 (some 34) rfl rfl ?_ (by assumption) ?_
       rotate_left
       · intro w' hSw
         obtain ⟨q0, q1, q2⟩ := hSw; have z21 := c_v q0
         go_simp
         try with_reducible rfl
       try simp only [Act.put, zqa, zqb, zqc]
       refine pkA (v := ?_) 6 (some 35) rfl rfl ?_ (by assumption) ?_
       rotate_left
       · intro w'
         go_simp
         try with_reducible rfl
       try simp only [Act.put, zqa, zqb, zqc]
       refine pkA (v := ?_) 7 (some 36) rfl rfl ?_ (by assumption) ?_
       rotate_left
       · intro w'
         go_simp
         try with_reducible rfl
       try simp only [Act.put, zqa, zqb, zqc]
       refine pkA (v := ?_) 8 (some 37) rfl rfl ?_ (by assumption) ?_
       rotate_left
       · intro w'
         go_simp
         try with_reducible rfl
       try simp only [Act.put, zqa, zqb, zqc]
       refine pkL (v := .agg z.cells) 9 (some 38) rfl rfl ?_ (by assumption) ?_
       · intro w' hSw
         obtain ⟨q0, q1, q2⟩ := hSw; have z21 := c_v q0
         exact exec_load rfl rfl q2
       try simp only [Act.put, zqa, zqb, zqc]
       refine oneL (i := 10) (by kernel_rfl) rfl (fun K hK => ?_)
       refine step_store_w rfl 25 (.tmp 4) (.tmp 30) rfl rfl rfl HS2.out ?_
       refine hK.out _ _ ?_ ?_
       · exact ⟨I2.out, R2.out, L2.out⟩
       clear hK K
       try simp only [Act.put, List.setIfInBounds_toArray]
       clear hHeld
       have hHeld : (fun w' => IsB w' d (dkL S s to (.slice (some ⟨g, 0, none⟩) L.length vc)).toArray 105 ∧ IsB w' R right.cells 29 ∧ (Instr.loadAt 29 (.pointer (some ⟨g, i * 13 + 8, none⟩))).run Tryz.prog w' = .ok (.agg z.cells) w') w5 := ⟨I2.out, R2.out, L2.out⟩
       refine lateL (i := 11) (by kernel_rfl) rfl (by decide) (by kernel_rfl) (fun K hK => ?_)
       refine step_store_w rfl 29 (.tmp 3) (.tmp 38) rfl rfl rfl HS3.out ?_
       refine hK.out _ _ ?_
       clear hK K
       try simp only [Act.put]
       refine doneL (by kernel_rfl) ?_ _
       clear hHeld
       have hm1 := rdRf_is RR6.out
       have hm2 := rdK_is Q6.out
       try go_wp2
       exact ⟨⟨right, z, RR6, Q6, X6, K6, HN⟩, by rw [hm1, hm2, HM1.out, HM2.out]; exact HLT.out⟩
     | none =>
       have HKV : knV L (right.id, S.wl, S.wb) = -1 := by unfold knV; rw [hk]
       rw [HKV]
       have HN : Hid (S.right (L.map Wl.pr) r0 = S.next right) := by show _ = _; unfold Sk.right; rw [HE.out, liv_none HG.out (knI_none hk)]
       clear HKV HE HG hk HM1 HM2 KI
       have XD := hide (XX.out.below ((Below.refl _ _).drew))
       have KD := hide (KK.out.bel ((Below.refl _ _).drew))
       have ID := hide XD.out.blk
       have RD := hide (RI.out.below ((Below.refl _ _).drew))
       cases hc2 : klt (right.rk, right.kn) (S.tr, S.tn) with
       | true =>
         have HC := hide hc2
         go_wp2_with fail
         refine regionL 9 (fun w' => IsB w' d (dkL S s to v).toArray 105 ∧ IsB w' R right.cells 29) mixed ⟨ID.out, RD.out⟩ (fun hHeld => ?_)
         generalize w3.drew = WD at *
         refine pkA (v := ?_) 0 (some 56) rfl rfl ?_ (by assumption) ?_
         rotate_left
         · intro w'
           go_simp
           try with_reducible rfl
         try simp only [Act.put, zqa, zqb, zqc]
         refine pkL (v := (.agg #[.int .i64 (right.rk), .int .u64 (right.kn)])) 1 (some 57) rfl rfl ?_ (by assumption) ?_
         · intro w' hSw
           obtain ⟨q0, q1⟩ := hSw
           exact exec_load rfl rfl (ld_key q1)
         try simp only [Act.put, zqa, zqb, zqc]
         refine pkA (v := ?_) 2 (some 58) rfl rfl ?_ (by assumption) ?_
         rotate_left
         · intro w'
           go_simp
           try with_reducible rfl
         try simp only [Act.put, zqa, zqb, zqc]
         refine pkA (v := ?_) 3 (some 59) rfl rfl ?_ (by assumption) ?_
         rotate_left
         · intro w'
           go_simp
           try with_reducible rfl
         try simp only [Act.put, zqa, zqb, zqc]
         refine pkA (v := ?_) 4 (some 60) rfl rfl ?_ (by assumption) ?_
         rotate_left
         · intro w'
           go_simp
           try with_reducible rfl
         try simp only [Act.put, zqa, zqb, zqc]
         refine pkA (v := ?_) 5 (some 61) rfl rfl ?_ (by assumption) ?_
         rotate_left
         · intro w'
           go_simp
           try with_reducible rfl
         try simp only [Act.put, zqa, zqb, zqc]
         refine pkL (v := (.agg #[.int .i64 (S.tr), .int .u64 (S.tn)])) 6 (some 62) rfl rfl ?_ (by assumption) ?_
         · intro w' hSw
           obtain ⟨q0, q1⟩ := hSw
           exact exec_load rfl rfl (q_tgt q0)
         try simp only [Act.put, zqa, zqb, zqc]
         refine oneL (i := 7) (by kernel_rfl) rfl (fun K hK => ?_)
         go_simp
         refine (rLess_any right.rk right.kn S.tr S.tn WD).mono ?_
         rintro e w4 ⟨rfl, hg⟩
         rw [HC.out]
         have I4 := hide (ID.out.below hg.below)
         have R4 := hide (RD.out.below hg.below)
         have X4 := hide (XD.out.below hg.below)
         have K4 := hide (KD.out.bel hg.below)
         clear hg
         refine hK.out _ _ ?_ ?_
         · exact ⟨I4.out, R4.out⟩
         clear hK K
         try simp only [Act.put, zqa, zqb, zqc]
         clear hHeld
         have hHeld : (fun w' => IsB w' d (dkL S s to v).toArray 105 ∧ IsB w' R right.cells 29) w4 := ⟨I4.out, R4.out⟩
         refine pkA (v := ?_) 8 (some 55) rfl rfl ?_ (by assumption) ?_
         rotate_left
         · intro w'
           go_simp
           try with_reducible rfl
         try simp only [Act.put, zqa, zqb, zqc]
         refine doneL (by kernel_rfl) ?_ _
         clear hHeld
         clear XD KD ID RD
         have XE := hide (X4.out.below ((Below.refl _ _).drew))
         have KE := hide (K4.out.bel ((Below.refl _ _).drew))
         have RE := hide (R4.out.below ((Below.refl _ _).drew))
         obtain ⟨w5, hs5, I5, k5⟩ := u_lk XE.out.blk true
         have HS5 := hide hs5
         obtain ⟨w6, hs6, I6, k6⟩ := u_to I5 right
         have HS6 := hide hs6
         have T := XE.out.turn (S' := { S with ah := right, lk := true }) (k5.tr k6) I6
         have R5 := hide (RE.out.kp k5 (by simp only [List.mem_singleton]; exact fun e => ne_ty XE.out.blk RE.out (by decide) e.symm))
         have HX : S.right (L.map Wl.pr) r0 = { S with ah := right, lk := true } := by rw [HN.out]; unfold Sk.next; rw [if_pos hc2]
         have F6 : Hid (Dk w6 d base (S.right (L.map Wl.pr) r0) s L) := by show Dk _ _ _ _ _ _; rw [HX]; exact ⟨right, v, fun _ => rfl, T.1⟩
         have K7 := hide (KE.out.tr T.2)
         clear hs5 I5 k5 hs6 I6 k6
         clear T XE KE HX
         go_wp2_with fail
         refine regionL 8 (fun w' => IsB w' R right.cells 29) mixed RE.out (fun hHeld => ?_)
         generalize w4.drew = WE at *
         refine pkA (v := ?_) 0 (some 64) rfl rfl ?_ (by assumption) ?_
         rotate_left
         · intro w'
           go_simp
           try with_reducible rfl
         try simp only [Act.put, zqa, zqb, zqc]
         refine pkA (v := ?_) 1 (some 65) rfl rfl ?_ (by assumption) ?_
         rotate_left
         · intro w'
           go_simp
           try with_reducible rfl
         try simp only [Act.put, zqa, zqb, zqc]
         refine pkL (v := .agg right.cells) 2 (some 66) rfl rfl ?_ (by assumption) ?_
         · intro w' hSw
           have q1 := hSw
           exact exec_load rfl rfl (load_ref q1 rfl)
         try simp only [Act.put, zqa, zqb, zqc]
         refine pkA (v := ?_) 3 (some 67) rfl rfl ?_ (by assumption) ?_
         rotate_left
         · intro w'
           go_simp
           try with_reducible rfl
         try simp only [Act.put, zqa, zqb, zqc]
         refine pkA (v := ?_) 4 (some 68) rfl rfl ?_ (by assumption) ?_
         rotate_left
         · intro w'
           go_simp
           try with_reducible rfl
         try simp only [Act.put, zqa, zqb, zqc]
         refine oneL (i := 5) (by kernel_rfl) rfl (fun K hK => ?_)
         refine step_store_w rfl 4 (.tmp 68) (.const (.bool true)) rfl rfl rfl HS5.out ?_
         refine hK.out _ _ ?_ ?_
         · exact R5.out
         clear hK K
         try simp only [Act.put, List.setIfInBounds_toArray]
         clear hHeld
         have hHeld : (fun w' => IsB w' R right.cells 29) w5 := R5.out
         refine pkA (v := ?_) 6 (some 69) rfl rfl ?_ (by assumption) ?_
         rotate_left
         · intro w'
           go_simp
           try with_reducible rfl
         try simp only [Act.put]
         refine pkA (v := ?_) 7 (some 70) rfl rfl ?_ (by assumption) ?_
         rotate_left
         · intro w'
           go_simp
           try with_reducible rfl
         try simp only [Act.put]
         refine lateL (i := 8) (by kernel_rfl) rfl (by decide) (by kernel_rfl) (fun K hK => ?_)
         refine step_store_w rfl 29 (.tmp 70) (.tmp 66) rfl rfl rfl HS6.out ?_
         refine hK.out _ _ ?_
         clear hK K
         try simp only [Act.put]
         refine doneL (by kernel_rfl) ?_ _
         clear hHeld
         try go_wp2
         refine bodyPost_end (results_none rfl _ _ _) rfl ?_
         exact ⟨rfl, F6.out, K7.out⟩
       | false =>
         by_cases hw : 0 < S.wl
         · have HC := hide hc2
           go_wp2_with fail
           refine regionL 9 (fun w' => IsB w' d (dkL S s to v).toArray 105 ∧ IsB w' R right.cells 29) mixed ⟨ID.out, RD.out⟩ (fun hHeld => ?_)
           generalize w3.drew = WD at *
           refine pkA (v := ?_) 0 (some 56) rfl rfl ?_ (by assumption) ?_
           rotate_left
           · intro w'
             go_simp
             try with_reducible rfl
           try simp only [Act.put, zqa, zqb, zqc]
           refine pkL (v := (.agg #[.int .i64 (right.rk), .int .u64 (right.kn)])) 1 (some 57) rfl rfl ?_ (by assumption) ?_
           · intro w' hSw
             obtain ⟨q0, q1⟩ := hSw
             exact exec_load rfl rfl (ld_key q1)
           try simp only [Act.put, zqa, zqb, zqc]
           refine pkA (v := ?_) 2 (some 58) rfl rfl ?_ (by assumption) ?_
           rotate_left
           · intro w'
             go_simp
             try with_reducible rfl
           try simp only [Act.put, zqa, zqb, zqc]
           refine pkA (v := ?_) 3 (some 59) rfl rfl ?_ (by assumption) ?_
           rotate_left
           · intro w'
             go_simp
             try with_reducible rfl
           try simp only [Act.put, zqa, zqb, zqc]
           refine pkA (v := ?_) 4 (some 60) rfl rfl ?_ (by assumption) ?_
           rotate_left
           · intro w'
             go_simp
             try with_reducible rfl
           try simp only [Act.put, zqa, zqb, zqc]
           refine pkA (v := ?_) 5 (some 61) rfl rfl ?_ (by assumption) ?_
           rotate_left
           · intro w'
             go_simp
             try with_reducible rfl
           try simp only [Act.put, zqa, zqb, zqc]
           refine pkL (v := (.agg #[.int .i64 (S.tr), .int .u64 (S.tn)])) 6 (some 62) rfl rfl ?_ (by assumption) ?_
           · intro w' hSw
             obtain ⟨q0, q1⟩ := hSw
             exact exec_load rfl rfl (q_tgt q0)
           try simp only [Act.put, zqa, zqb, zqc]
           refine oneL (i := 7) (by kernel_rfl) rfl (fun K hK => ?_)
           go_simp
           refine (rLess_any right.rk right.kn S.tr S.tn WD).mono ?_
           rintro e w4 ⟨rfl, hg⟩
           rw [HC.out]
           have I4 := hide (ID.out.below hg.below)
           have R4 := hide (RD.out.below hg.below)
           have X4 := hide (XD.out.below hg.below)
           have K4 := hide (KD.out.bel hg.below)
           clear hg
           refine hK.out _ _ ?_ ?_
           · exact ⟨I4.out, R4.out⟩
           clear hK K
           try simp only [Act.put, zqa, zqb, zqc]
           clear hHeld
           have hHeld : (fun w' => IsB w' d (dkL S s to v).toArray 105 ∧ IsB w' R right.cells 29) w4 := ⟨I4.out, R4.out⟩
           refine pkA (v := ?_) 8 (some 55) rfl rfl ?_ (by assumption) ?_
           rotate_left
           · intro w'
             go_simp
             try with_reducible rfl
           try simp only [Act.put, zqa, zqb, zqc]
           refine doneL (by kernel_rfl) ?_ _
           clear hHeld
           clear XD KD ID RD
           have HX : Hid (S.right (L.map Wl.pr) r0 = { S with wl := S.wl - 1, wb := ((pre S.wl.toNat S.wb.toNat (S.wl - 1).toNat : Nat) : Int), ah := zr, lk := false }) := by show _ = _; rw [HN.out]; unfold Sk.next; rw [if_neg (by rw [hc2]; decide), if_pos hw]
           have y13 := c_wl X4.out.blk
           have d4 : decide (S.wl > 0) = true := decide_eq_true hw
           have d5 : decide (0 < S.wl) = true := decide_eq_true hw
           have hwl32 : S.wl ≤ 32 := (of_decide_eq_true hrt).2.1
           have HW1 : Hid (IntKind.i64.wrap (S.wl - 1) = S.wl - 1) := wrap_pos (S.wl - 1) (by omega) (by omega)
           have XE := hide (X4.out.below ((Below.refl _ _).drew))
           have KE := hide (K4.out.bel ((Below.refl _ _).drew))
           have IE := hide XE.out.blk
           go_wp2_with fail
           clear y13 d4 d5
           refine regionL 17 (fun w' => IsB w' d (dkL S s to v).toArray 105) mixed IE.out (fun hHeld => ?_)
           generalize w4.drew = WE at *
           refine pkA (v := ?_) 0 (some 79) rfl rfl ?_ (by assumption) ?_
           rotate_left
           · intro w'
             go_simp
             try with_reducible rfl
           try simp only [Act.put, zqa, zqb, zqc]
           refine pkA (v := ?_) 1 (some 80) rfl rfl ?_ (by assumption) ?_
           rotate_left
           · intro w'
             go_simp
             try with_reducible rfl
           try simp only [Act.put, zqa, zqb, zqc]
           refine pkA (v := ?_) 2 (some 81) rfl rfl ?_ (by assumption) ?_
           rotate_left
           · intro w'
             go_simp
             try with_reducible rfl
           try simp only [Act.put, zqa, zqb, zqc]
           refine pkA (v := ?_) 3 (some 82) rfl rfl ?_ (by assumption) ?_
           rotate_left
           · intro w'
             go_simp
             try with_reducible rfl
           try simp only [Act.put, zqa, zqb, zqc]
           refine pkL (v := (.agg #[.int .i64 (S.wl), .int .u64 (S.wb)])) 4 (some 83) rfl rfl ?_ (by assumption) ?_
           · intro w' hSw
             have q0 := hSw; have zwl := c_wl q0
             exact exec_load rfl rfl (q_w q0)
           try simp only [Act.put, zqa, zqb, zqc]
           refine pkA (v := ?_) 5 (some 84) rfl rfl ?_ (by assumption) ?_
           rotate_left
           · intro w'
             go_simp
             try with_reducible rfl
           try simp only [Act.put, zqa, zqb, zqc]
           refine pkA (v := ?_) 6 (some 85) rfl rfl ?_ (by assumption) ?_
           rotate_left
           · intro w'
             go_simp
             try with_reducible rfl
           try simp only [Act.put, zqa, zqb, zqc]
           refine pkA (v := ?_) 7 (some 86) rfl rfl ?_ (by assumption) ?_
           rotate_left
           · intro w'
             go_simp
             try with_reducible rfl
           try simp only [Act.put, zqa, zqb, zqc]
           refine pkA (v := ?_) 8 (some 87) rfl rfl ?_ (by assumption) ?_
           rotate_left
           · intro w'
             go_simp
             try with_reducible rfl
           try simp only [Act.put, zqa, zqb, zqc]
           refine pkL (v := ?_) 9 (some 88) rfl rfl ?_ (by assumption) ?_
           rotate_left
           · intro w' hSw
             have q0 := hSw; have zwl := c_wl q0
             go_simp
             try with_reducible rfl
           try simp only [Act.put, zqa, zqb, zqc]
           refine pkA (v := .int .i64 (S.wl - 1)) 10 (some 89) rfl rfl ?_ (by assumption) ?_
           · intro w'
             go_simp
             rw [HW1.out]
           try simp only [Act.put, zqa, zqb, zqc]
           refine oneL (i := 11) (by kernel_rfl) rfl (fun K hK => ?_)
           go_simp
           refine (rprefix_ok S.wl S.wb (S.wl - 1) hrt hwb (by omega) (by omega) WE).mono ?_
           rintro e w5 ⟨rfl, hb⟩
           have X5 := XE.out.below hb
           have K5 := hide (KE.out.bel hb)
           obtain ⟨w6, hs6, I6, k6⟩ := u_w X5.blk (S.wl - 1) ((pre S.wl.toNat S.wb.toNat (S.wl - 1).toNat : Nat) : Int)
           have HS6 := hide hs6
           obtain ⟨w7, hs7, I7, k7⟩ := u_lk I6 false
           have HS7 := hide hs7
           have I5 := hide X5.blk
           have T := X5.turn (S' := { S with wl := S.wl - 1, wb := ((pre S.wl.toNat S.wb.toNat (S.wl - 1).toNat : Nat) : Int), ah := zr, lk := false }) (k6.tr k7) I7
           have F6 : Hid (Dk w7 d base (S.right (L.map Wl.pr) r0) s L) := by show Dk _ _ _ _ _ _; rw [HX.out]; exact ⟨to, v, fun c => Bool.noConfusion (show false = true from c), T.1⟩
           have K7 := hide (K5.out.tr T.2)
           clear hs6 hs7 I6 I7 k6 k7 T hb X5 K5
           refine hK.out _ _ ?_ ?_
           · exact I5.out
           clear hK K
           try simp only [Act.put, zqa, zqb, zqc]
           clear hHeld
           have hHeld : (fun w' => IsB w' d (dkL S s to v).toArray 105) w5 := I5.out
           refine pkA (v := ?_) 12 (some 78) rfl rfl ?_ (by assumption) ?_
           rotate_left
           · intro w'
             go_simp
             try with_reducible rfl
           try simp only [Act.put, zqa, zqb, zqc]
           refine pkA (v := (.agg #[.int .i64 (S.wl - 1), .int .u64 (((pre S.wl.toNat S.wb.toNat (S.wl - 1).toNat : Nat) : Int))])) 13 (some 91) rfl rfl ?_ (by assumption) ?_
           · intro w'
             go_simp
             try rfl
           try simp only [Act.put, zqa, zqb, zqc]
           refine pkA (v := ?_) 14 (some 92) rfl rfl ?_ (by assumption) ?_
           rotate_left
           · intro w'
             go_simp
             try with_reducible rfl
           try simp only [Act.put, zqa, zqb, zqc]
           refine pkA (v := ?_) 15 (some 93) rfl rfl ?_ (by assumption) ?_
           rotate_left
           · intro w'
             go_simp
             try with_reducible rfl
           try simp only [Act.put, zqa, zqb, zqc]
           refine pkA (v := ?_) 16 (some 94) rfl rfl ?_ (by assumption) ?_
           rotate_left
           · intro w'
             go_simp
             try with_reducible rfl
           try simp only [Act.put, zqa, zqb, zqc]
           refine lateL (i := 17) (by kernel_rfl) rfl (by decide) (by kernel_rfl) (fun K hK => ?_)
           refine step_store_w rfl 27 (.tmp 94) (.tmp 91) rfl rfl rfl HS6.out ?_
           refine hK.out _ _ ?_
           clear hK K
           try simp only [Act.put, List.setIfInBounds_toArray]
           refine doneL (by kernel_rfl) ?_ _
           clear hHeld
           go_wp2_with (first | (focus ((with_reducible refine wpList_store_w ?_ 4 (.tmp 97) (.const (.bool false)) ?_ ?_ ?_ HS7.out ?_); rotate_left; rfl; rfl; rfl; rotate_left; rfl)))
           try go_wp2
           refine bodyPost_end (results_none rfl _ _ _) rfl ?_
           exact ⟨rfl, F6.out, K7.out⟩
         · have HC := hide hc2
           go_wp2_with fail
           refine regionL 9 (fun w' => IsB w' d (dkL S s to v).toArray 105 ∧ IsB w' R right.cells 29) mixed ⟨ID.out, RD.out⟩ (fun hHeld => ?_)
           generalize w3.drew = WD at *
           refine pkA (v := ?_) 0 (some 56) rfl rfl ?_ (by assumption) ?_
           rotate_left
           · intro w'
             go_simp
             try with_reducible rfl
           try simp only [Act.put, zqa, zqb, zqc]
           refine pkL (v := (.agg #[.int .i64 (right.rk), .int .u64 (right.kn)])) 1 (some 57) rfl rfl ?_ (by assumption) ?_
           · intro w' hSw
             obtain ⟨q0, q1⟩ := hSw
             exact exec_load rfl rfl (ld_key q1)
           try simp only [Act.put, zqa, zqb, zqc]
           refine pkA (v := ?_) 2 (some 58) rfl rfl ?_ (by assumption) ?_
           rotate_left
           · intro w'
             go_simp
             try with_reducible rfl
           try simp only [Act.put, zqa, zqb, zqc]
           refine pkA (v := ?_) 3 (some 59) rfl rfl ?_ (by assumption) ?_
           rotate_left
           · intro w'
             go_simp
             try with_reducible rfl
           try simp only [Act.put, zqa, zqb, zqc]
           refine pkA (v := ?_) 4 (some 60) rfl rfl ?_ (by assumption) ?_
           rotate_left
           · intro w'
             go_simp
             try with_reducible rfl
           try simp only [Act.put, zqa, zqb, zqc]
           refine pkA (v := ?_) 5 (some 61) rfl rfl ?_ (by assumption) ?_
           rotate_left
           · intro w'
             go_simp
             try with_reducible rfl
           try simp only [Act.put, zqa, zqb, zqc]
           refine pkL (v := (.agg #[.int .i64 (S.tr), .int .u64 (S.tn)])) 6 (some 62) rfl rfl ?_ (by assumption) ?_
           · intro w' hSw
             obtain ⟨q0, q1⟩ := hSw
             exact exec_load rfl rfl (q_tgt q0)
           try simp only [Act.put, zqa, zqb, zqc]
           refine oneL (i := 7) (by kernel_rfl) rfl (fun K hK => ?_)
           go_simp
           refine (rLess_any right.rk right.kn S.tr S.tn WD).mono ?_
           rintro e w4 ⟨rfl, hg⟩
           rw [HC.out]
           have I4 := hide (ID.out.below hg.below)
           have R4 := hide (RD.out.below hg.below)
           have X4 := hide (XD.out.below hg.below)
           have K4 := hide (KD.out.bel hg.below)
           clear hg
           refine hK.out _ _ ?_ ?_
           · exact ⟨I4.out, R4.out⟩
           clear hK K
           try simp only [Act.put, zqa, zqb, zqc]
           clear hHeld
           have hHeld : (fun w' => IsB w' d (dkL S s to v).toArray 105 ∧ IsB w' R right.cells 29) w4 := ⟨I4.out, R4.out⟩
           refine pkA (v := ?_) 8 (some 55) rfl rfl ?_ (by assumption) ?_
           rotate_left
           · intro w'
             go_simp
             try with_reducible rfl
           try simp only [Act.put, zqa, zqb, zqc]
           refine doneL (by kernel_rfl) ?_ _
           clear hHeld
           clear XD KD ID RD
           cases hb2 : (right.rk == S.tr && right.kn == S.tn) with
           | true =>
             have HB2 := hide hb2
             have HX : Hid (S.right (L.map Wl.pr) r0 = { S with ov := true, e := 0, rl := S.pt, rr := right, fd := true }) := by show _ = _; rw [HN.out]; unfold Sk.next; rw [if_neg (by rw [hc2]; decide), if_neg (show ¬0 < S.wl by omega), hb2]
             have y13 := c_wl X4.out.blk
             have d4 : decide (S.wl > 0) = false := by simpa using hw
             have d5 : decide (0 < S.wl) = false := by simpa using hw
             have XE := hide (X4.out.below ((Below.refl _ _).drew))
             have KE := hide (K4.out.bel ((Below.refl _ _).drew))
             have RE := hide (R4.out.below ((Below.refl _ _).drew))
             have IE := hide XE.out.blk
             skip
             go_wp2_with fail
             clear y13 d4 d5
             refine regionL 15 (fun w' => IsB w' d (dkL S s to v).toArray 105 ∧ IsB w' R right.cells 29) mixed ⟨IE.out, RE.out⟩ (fun hHeld => ?_)
             generalize w4.drew = WE at *
             refine pkA (v := ?_) 0 (some 39) rfl rfl ?_ (by assumption) ?_
             rotate_left
             · intro w'
               go_simp
               try with_reducible rfl
             try simp only [Act.put, zqa, zqb, zqc]
             refine pkA (v := ?_) 1 (some 40) rfl rfl ?_ (by assumption) ?_
             rotate_left
             · intro w'
               go_simp
               try with_reducible rfl
             try simp only [Act.put, zqa, zqb, zqc]
             refine pkA (v := ?_) 2 (some 41) rfl rfl ?_ (by assumption) ?_
             rotate_left
             · intro w'
               go_simp
               try with_reducible rfl
             try simp only [Act.put, zqa, zqb, zqc]
             refine pkA (v := ?_) 3 (some 42) rfl rfl ?_ (by assumption) ?_
             rotate_left
             · intro w'
               go_simp
               try with_reducible rfl
             try simp only [Act.put, zqa, zqb, zqc]
             refine pkT (v := .agg S.pt.cells) 4 (some 43) rfl rfl ?_ (by assumption) ?_
             · intro w' hSw
               obtain ⟨q0, q1⟩ := hSw
               exact exec_load rfl rfl (q_at q0)
             try simp only [Act.put, zqa, zqb, zqc]
             refine pkT (v := .agg right.cells) 5 (some 44) rfl rfl ?_ (by assumption) ?_
             · intro w' hSw
               obtain ⟨q0, q1⟩ := hSw
               exact exec_load rfl rfl (load_ref q1 rfl)
             try simp only [Act.put, zqa, zqb, zqc]
             refine pkA (v := ?_) 6 (some 45) rfl rfl ?_ (by assumption) ?_
             rotate_left
             · intro w'
               go_simp
               try with_reducible rfl
             try simp only [Act.put, zqa, zqb, zqc]
             refine pkT (v := (.agg #[.int .i64 (right.rk), .int .u64 (right.kn)])) 7 (some 46) rfl rfl ?_ (by assumption) ?_
             · intro w' hSw
               obtain ⟨q0, q1⟩ := hSw
               exact exec_load rfl rfl (ld_key q1)
             try simp only [Act.put, zqa, zqb, zqc]
             refine pkA (v := ?_) 8 (some 47) rfl rfl ?_ (by assumption) ?_
             rotate_left
             · intro w'
               go_simp
               try with_reducible rfl
             try simp only [Act.put, zqa, zqb, zqc]
             refine pkA (v := ?_) 9 (some 48) rfl rfl ?_ (by assumption) ?_
             rotate_left
             · intro w'
               go_simp
               try with_reducible rfl
             try simp only [Act.put, zqa, zqb, zqc]
             refine pkA (v := ?_) 10 (some 49) rfl rfl ?_ (by assumption) ?_
             rotate_left
             · intro w'
               go_simp
               try with_reducible rfl
             try simp only [Act.put, zqa, zqb, zqc]
             refine pkA (v := ?_) 11 (some 50) rfl rfl ?_ (by assumption) ?_
             rotate_left
             · intro w'
               go_simp
               try with_reducible rfl
             try simp only [Act.put, zqa, zqb, zqc]
             refine pkT (v := (.agg #[.int .i64 (S.tr), .int .u64 (S.tn)])) 12 (some 51) rfl rfl ?_ (by assumption) ?_
             · intro w' hSw
               obtain ⟨q0, q1⟩ := hSw
               exact exec_load rfl rfl (q_tgt q0)
             try simp only [Act.put, zqa, zqb, zqc]
             refine pkA (v := .bool true) 13 (some 52) rfl rfl ?_ (by assumption) ?_
             · intro w'
               exact exec_bin kguard rfl rfl rfl (by rw [eqk, HB2.out])
             try simp only [Act.put, zqa, zqb, zqc]
             refine pkA (v := .agg (rsL 0 S.pt right true).toArray) 14 (some 53) rfl rfl ?_ (by assumption) ?_
             · intro w'
               kernel_rfl
             try simp only [Act.put, zqa, zqb, zqc]
             refine lateL (i := 15) (by kernel_rfl) rfl (by decide) (by kernel_rfl) (fun K hK => ?_)
             go_simp
             refine (dend_any d base S s L 0 S.pt right true WE ⟨to, v, hto.out, XE.out⟩).mono ?_
             rintro e w9 ⟨rfl, X9, K9⟩
             have F6 : Hid (Dk w9 d base (S.right (L.map Wl.pr) r0) s L) := by show Dk _ _ _ _ _ _; rw [HX.out]; exact X9
             have K7 := hide (KE.out.tr K9)
             clear X9 K9
             refine hK.out _ _ ?_
             clear hK K
             try simp only [Act.put, zqa, zqb, zqc]
             refine doneL (by kernel_rfl) ?_ _
             clear hHeld
             try go_wp2
             refine bodyPost_end (results_none rfl _ _ _) rfl ?_
             exact ⟨rfl, F6.out, K7.out⟩
           | false =>
             have HB2 := hide hb2
             have HX : Hid (S.right (L.map Wl.pr) r0 = { S with ov := true, e := 0, rl := S.pt, rr := right, fd := false }) := by show _ = _; rw [HN.out]; unfold Sk.next; rw [if_neg (by rw [hc2]; decide), if_neg (show ¬0 < S.wl by omega), hb2]
             have y13 := c_wl X4.out.blk
             have d4 : decide (S.wl > 0) = false := by simpa using hw
             have d5 : decide (0 < S.wl) = false := by simpa using hw
             have XE := hide (X4.out.below ((Below.refl _ _).drew))
             have KE := hide (K4.out.bel ((Below.refl _ _).drew))
             have RE := hide (R4.out.below ((Below.refl _ _).drew))
             have IE := hide XE.out.blk
             skip
             go_wp2_with fail
             clear y13 d4 d5
             refine regionL 15 (fun w' => IsB w' d (dkL S s to v).toArray 105 ∧ IsB w' R right.cells 29) mixed ⟨IE.out, RE.out⟩ (fun hHeld => ?_)
             generalize w4.drew = WE at *
             refine pkA (v := ?_) 0 (some 39) rfl rfl ?_ (by assumption) ?_
             rotate_left
             · intro w'
               go_simp
               try with_reducible rfl
             try simp only [Act.put, zqa, zqb, zqc]
             refine pkA (v := ?_) 1 (some 40) rfl rfl ?_ (by assumption) ?_
             rotate_left
             · intro w'
               go_simp
               try with_reducible rfl
             try simp only [Act.put, zqa, zqb, zqc]
             refine pkA (v := ?_) 2 (some 41) rfl rfl ?_ (by assumption) ?_
             rotate_left
             · intro w'
               go_simp
               try with_reducible rfl
             try simp only [Act.put, zqa, zqb, zqc]
             refine pkA (v := ?_) 3 (some 42) rfl rfl ?_ (by assumption) ?_
             rotate_left
             · intro w'
               go_simp
               try with_reducible rfl
             try simp only [Act.put, zqa, zqb, zqc]
             refine pkT (v := .agg S.pt.cells) 4 (some 43) rfl rfl ?_ (by assumption) ?_
             · intro w' hSw
               obtain ⟨q0, q1⟩ := hSw
               exact exec_load rfl rfl (q_at q0)
             try simp only [Act.put, zqa, zqb, zqc]
             refine pkT (v := .agg right.cells) 5 (some 44) rfl rfl ?_ (by assumption) ?_
             · intro w' hSw
               obtain ⟨q0, q1⟩ := hSw
               exact exec_load rfl rfl (load_ref q1 rfl)
             try simp only [Act.put, zqa, zqb, zqc]
             refine pkA (v := ?_) 6 (some 45) rfl rfl ?_ (by assumption) ?_
             rotate_left
             · intro w'
               go_simp
               try with_reducible rfl
             try simp only [Act.put, zqa, zqb, zqc]
             refine pkT (v := (.agg #[.int .i64 (right.rk), .int .u64 (right.kn)])) 7 (some 46) rfl rfl ?_ (by assumption) ?_
             · intro w' hSw
               obtain ⟨q0, q1⟩ := hSw
               exact exec_load rfl rfl (ld_key q1)
             try simp only [Act.put, zqa, zqb, zqc]
             refine pkA (v := ?_) 8 (some 47) rfl rfl ?_ (by assumption) ?_
             rotate_left
             · intro w'
               go_simp
               try with_reducible rfl
             try simp only [Act.put, zqa, zqb, zqc]
             refine pkA (v := ?_) 9 (some 48) rfl rfl ?_ (by assumption) ?_
             rotate_left
             · intro w'
               go_simp
               try with_reducible rfl
             try simp only [Act.put, zqa, zqb, zqc]
             refine pkA (v := ?_) 10 (some 49) rfl rfl ?_ (by assumption) ?_
             rotate_left
             · intro w'
               go_simp
               try with_reducible rfl
             try simp only [Act.put, zqa, zqb, zqc]
             refine pkA (v := ?_) 11 (some 50) rfl rfl ?_ (by assumption) ?_
             rotate_left
             · intro w'
               go_simp
               try with_reducible rfl
             try simp only [Act.put, zqa, zqb, zqc]
             refine pkT (v := (.agg #[.int .i64 (S.tr), .int .u64 (S.tn)])) 12 (some 51) rfl rfl ?_ (by assumption) ?_
             · intro w' hSw
               obtain ⟨q0, q1⟩ := hSw
               exact exec_load rfl rfl (q_tgt q0)
             try simp only [Act.put, zqa, zqb, zqc]
             refine pkA (v := .bool false) 13 (some 52) rfl rfl ?_ (by assumption) ?_
             · intro w'
               exact exec_bin kguard rfl rfl rfl (by rw [eqk, HB2.out])
             try simp only [Act.put, zqa, zqb, zqc]
             refine pkA (v := .agg (rsL 0 S.pt right false).toArray) 14 (some 53) rfl rfl ?_ (by assumption) ?_
             · intro w'
               kernel_rfl
             try simp only [Act.put, zqa, zqb, zqc]
             refine lateL (i := 15) (by kernel_rfl) rfl (by decide) (by kernel_rfl) (fun K hK => ?_)
             go_simp
             refine (dend_any d base S s L 0 S.pt right false WE ⟨to, v, hto.out, XE.out⟩).mono ?_
             rintro e w9 ⟨rfl, X9, K9⟩
             have F6 : Hid (Dk w9 d base (S.right (L.map Wl.pr) r0) s L) := by show Dk _ _ _ _ _ _; rw [HX.out]; exact X9
             have K7 := hide (KE.out.tr K9)
             clear X9 K9
             refine hK.out _ _ ?_
             clear hK K
             try simp only [Act.put, zqa, zqb, zqc]
             refine doneL (by kernel_rfl) ?_ _
             clear hHeld
             try go_wp2
             refine bodyPost_end (results_none rfl _ _ _) rfl ?_
             exact ⟨rfl, F6.out, K7.out⟩

end Go.Proofs.YtokehogcenjefaaGreatDoor
