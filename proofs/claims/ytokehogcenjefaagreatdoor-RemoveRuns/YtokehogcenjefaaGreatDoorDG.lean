/- The document's Tell. -/
import Derived.Test.YtokehogcenjefaaGreatDoorDF
namespace Go.Proofs.YtokehogcenjefaaGreatDoor
open Go.RowKit Go.Maps Go.ChangeMaps

theorem ld_alk {w : World} {b : Nat} {a : An} (I : IsB w b (anL a).toArray 62) : (Instr.loadAt 25 (.pointer (some ⟨b, 3, none⟩))).run Tryz.prog w = .ok (.agg #[.int .i64 (a.l.rk), .int .u64 (a.l.kn)]) w := load_mid I 3 _ [.int .i64 a.l.rk, .int .u64 a.l.kn] _ rfl Tryz.underlying25 rfl (by kernel_rfl)

set_option maxHeartbeats 2000000 in
set_option maxRecDepth 100000 in
theorem dtell_over (d base : Nat) (S : Sk) (s : Rf) (L : List Wl) (a : An) (hov : S.ov = true) (w : World) (X : Dk w d base S s L) : Calls Tryz.prog 38 #[.pointer (some ⟨d, 0, none⟩), .agg (anL a).toArray] w fun e' w' => e' = .returned (.tuple #[]) ∧ Dk w' d base (S) s L ∧ Kd base w w' := by
 have b1 := (Below.refl w.heap.size w).alloc (Nat.le_refl _) (.cells (anL a).toArray 62)
 have A := hide (IsB.new w (anL a).toArray 62)
 obtain ⟨to, v, hto, X0⟩ := X
 have XX := hide (X0.below b1)
 have KK : Hid (Kd base w (w.alloc (.cells (anL a).toArray 62))) := Kd.of_below b1
 have y23 := c_ov XX.out.blk
 rw [hov] at y23
 clear b1 X0
 go_enter Tryz.func38, Tryz.ntmps38
 go_wp2_with fail
 refine bodyPost_ret (results_none rfl _ _ _) rfl ?_
 exact ⟨rfl, ⟨to, v, hto, XX.out⟩, KK.out⟩

set_option maxHeartbeats 2000000 in
set_option maxRecDepth 100000 in
theorem dtell_looks (d base : Nat) (S : Sk) (s : Rf) (L : List Wl) (a : An) (hov : S.ov = false) (hl : S.lk = true) (P : Pre S L) (w : World) (X : Dk w d base S s L) : Calls Tryz.prog 38 #[.pointer (some ⟨d, 0, none⟩), .agg (anL a).toArray] w fun e' w' => e' = .returned (.tuple #[]) ∧ Dk w' d base ((S.hearA (L.map Wl.pr) a).1) s (S.tellL L a) ∧ Kd base w w' := by
 have b1 := (Below.refl w.heap.size w).alloc (Nat.le_refl _) (.cells (anL a).toArray 62)
 have A := hide (IsB.new w (anL a).toArray 62)
 obtain ⟨to, v, hto, X0⟩ := X
 have XX := hide (X0.below b1)
 have KK : Hid (Kd base w (w.alloc (.cells (anL a).toArray 62))) := Kd.of_below b1
 have y23 := c_ov XX.out.blk
 rw [hov] at y23
 have y15 := c_lk XX.out.blk
 rw [hl] at y15
 have LA := hide (ld_ans A.out)
 have CT := hide (looked_any d base S s L a hl hov P _ ⟨to, v, hto, XX.out⟩)
 clear b1 X0 XX A P hto
 go_enter Tryz.func38, Tryz.ntmps38
 go_wp2_with (first | (focus ((with_reducible refine wpList_load_w ?_ 62 (.tmp 3) ?_ ?_ LA.out ?_); rotate_left; rfl; rfl; rotate_left; rfl)))
 refine CT.out.mono ?_
 rintro e w9 ⟨rfl, X9, K9⟩
 have F6 := hide X9
 have K7 := hide (KK.out.tr K9)
 clear X9 K9 CT LA
 try go_wp2
 refine bodyPost_end (results_none rfl _ _ _) rfl ?_
 exact ⟨rfl, F6.out, K7.out⟩

set_option maxHeartbeats 2000000 in
set_option maxRecDepth 100000 in
theorem dtell_a (d base : Nat) (S : Sk) (s : Rf) (L : List Wl) (a : An) (hov : S.ov = false) (hl : S.lk = false) (hk : a.k = 1) (hc : klt (S.pt.rk, S.pt.kn) (S.tr, S.tn) = true) (P : Pre S L) (w : World) (X : Dk w d base S s L) : Calls Tryz.prog 38 #[.pointer (some ⟨d, 0, none⟩), .agg (anL a).toArray] w fun e' w' => e' = .returned (.tuple #[]) ∧ Dk w' d base (S.right (L.map Wl.pr) a.r) s L ∧ Kd base w w' := by
 have b1 := (Below.refl w.heap.size w).alloc (Nat.le_refl _) (.cells (anL a).toArray 62)
 have A := hide (IsB.new w (anL a).toArray 62)
 obtain ⟨to, v, hto, X0⟩ := X
 have XX := hide (X0.below b1)
 have KK : Hid (Kd base w (w.alloc (.cells (anL a).toArray 62))) := Kd.of_below b1
 have y23 := c_ov XX.out.blk
 rw [hov] at y23
 have y15 := c_lk XX.out.blk
 rw [hl] at y15
 have mixed : Tryz.prog.follows .mixedOrders = true := by kernel_rfl
 have HC := hide hc
 go_enter Tryz.func38, Tryz.ntmps38
 go_wp2_with fail
 generalize (w.alloc (.cells (anL a).toArray 62)) = WA at *
 obtain ⟨H, hH⟩ : ∃ H, w.heap.size = H := ⟨_, rfl⟩
 rw [hH] at A ⊢
 clear hH y23 y15 b1 X0
 have XD := hide (XX.out.below ((Below.refl _ _).drew))
 have AD := hide (A.out.below ((Below.refl _ _).drew))
 have KD := hide (KK.out.bel ((Below.refl _ _).drew))
 clear XX A KK
 have ID := hide XD.out.blk
 refine regionL 17 (fun w' => IsB w' d (dkL S s to v).toArray 105 ∧ IsB w' H (anL a).toArray 62) mixed ⟨ID.out, AD.out⟩ (fun hHeld => ?_)
 generalize WA.drew = WD at *
 refine pkA (v := ?_) 0 (some 30) rfl rfl ?_ (by assumption) ?_
 rotate_left
 · intro w'
   go_simp
   try with_reducible rfl
 try simp only [Act.put, zqa, zqb, zqc]
 refine pkL (v := ?_) 1 (some 31) rfl rfl ?_ (by assumption) ?_
 rotate_left
 · intro w' hSw
   obtain ⟨q0, q1⟩ := hSw; have zk := cl_ak q1; rw [hk] at zk
   go_simp
   try with_reducible rfl
 try simp only [Act.put, zqa, zqb, zqc]
 refine pkA (v := .bool true) 2 (some 32) rfl rfl ?_ (by assumption) ?_
 · intro w'
   go_simp
   try rfl
 try simp only [Act.put, zqa, zqb, zqc]
 refine pkA (v := ?_) 3 (some 33) rfl rfl ?_ (by assumption) ?_
 rotate_left
 · intro w'
   go_simp
   try with_reducible rfl
 try simp only [Act.put, zqa, zqb, zqc]
 refine pkA (v := ?_) 4 (some 34) rfl rfl ?_ (by assumption) ?_
 rotate_left
 · intro w'
   go_simp
   try with_reducible rfl
 try simp only [Act.put, zqa, zqb, zqc]
 refine pkA (v := ?_) 5 (some 35) rfl rfl ?_ (by assumption) ?_
 rotate_left
 · intro w'
   go_simp
   try with_reducible rfl
 try simp only [Act.put, zqa, zqb, zqc]
 refine pkA (v := ?_) 6 (some 36) rfl rfl ?_ (by assumption) ?_
 rotate_left
 · intro w'
   go_simp
   try with_reducible rfl
 try simp only [Act.put, zqa, zqb, zqc]
 refine pkA (v := ?_) 7 (some 37) rfl rfl ?_ (by assumption) ?_
 rotate_left
 · intro w'
   go_simp
   try with_reducible rfl
 try simp only [Act.put, zqa, zqb, zqc]
 refine pkL (v := (.agg #[.int .i64 (S.pt.rk), .int .u64 (S.pt.kn)])) 8 (some 38) rfl rfl ?_ (by assumption) ?_
 · intro w' hSw
   obtain ⟨q0, q1⟩ := hSw; have zk := cl_ak q1; rw [hk] at zk
   exact exec_load rfl rfl (q_atk q0)
 try simp only [Act.put, zqa, zqb, zqc]
 refine pkA (v := ?_) 9 (some 39) rfl rfl ?_ (by assumption) ?_
 rotate_left
 · intro w'
   go_simp
   try with_reducible rfl
 try simp only [Act.put, zqa, zqb, zqc]
 refine pkA (v := ?_) 10 (some 40) rfl rfl ?_ (by assumption) ?_
 rotate_left
 · intro w'
   go_simp
   try with_reducible rfl
 try simp only [Act.put, zqa, zqb, zqc]
 refine pkA (v := ?_) 11 (some 41) rfl rfl ?_ (by assumption) ?_
 rotate_left
 · intro w'
   go_simp
   try with_reducible rfl
 try simp only [Act.put, zqa, zqb, zqc]
 refine pkA (v := ?_) 12 (some 42) rfl rfl ?_ (by assumption) ?_
 rotate_left
 · intro w'
   go_simp
   try with_reducible rfl
 try simp only [Act.put, zqa, zqb, zqc]
 refine pkL (v := (.agg #[.int .i64 (S.tr), .int .u64 (S.tn)])) 13 (some 43) rfl rfl ?_ (by assumption) ?_
 · intro w' hSw
   obtain ⟨q0, q1⟩ := hSw; have zk := cl_ak q1; rw [hk] at zk
   exact exec_load rfl rfl (q_tgt q0)
 try simp only [Act.put, zqa, zqb, zqc]
 refine oneL (i := 14) (by kernel_rfl) rfl (fun K hK => ?_)
 go_simp
 refine (rLess_any S.pt.rk S.pt.kn S.tr S.tn WD).mono ?_
 rintro e w4 ⟨rfl, hg⟩
 rw [HC.out]
 have I4 := hide (ID.out.below hg.below)
 have A4 := hide (AD.out.below hg.below)
 have X4 := hide (XD.out.below hg.below)
 have K4 := hide (KD.out.bel hg.below)
 clear hg ID AD XD KD
 have ID := hide I4.out
 have AD := hide A4.out
 have XD := hide X4.out
 have KD := hide K4.out
 clear I4 A4 X4 K4
 refine hK.out _ _ ?_ ?_
 · exact ⟨ID.out, AD.out⟩
 clear hK K
 try simp only [Act.put, zqa, zqb, zqc]
 clear hHeld
 have hHeld : (fun w' => IsB w' d (dkL S s to v).toArray 105 ∧ IsB w' H (anL a).toArray 62) w4 := ⟨ID.out, AD.out⟩
 refine pkA (v := ?_) 15 (some 45) rfl rfl ?_ (by assumption) ?_
 rotate_left
 · intro w'
   go_simp
   try with_reducible rfl
 try simp only [Act.put, zqa, zqb, zqc]
 refine pkA (v := ?_) 16 (some 29) rfl rfl ?_ (by assumption) ?_
 rotate_left
 · intro w'
   go_simp
   try with_reducible rfl
 try simp only [Act.put, zqa, zqb, zqc]
 refine doneL (by kernel_rfl) ?_ _
 clear hHeld
 have LR := hide (ld_ar AD.out)
 have CT := hide (dright_any d base S s L to v hto P.hd0 P.hrt P.hwb P.h0 P.h1 P.hL a.r _ XD.out)
 clear P hto ID AD XD
 go_wp2_with (first | (focus ((with_reducible refine wpList_load_w ?_ 29 (.tmp 47) ?_ ?_ LR.out ?_); rotate_left; rfl; rfl; rotate_left; rfl)))
 refine CT.out.mono ?_
 rintro e w9 ⟨rfl, X9, K9⟩
 have F6 := hide X9
 have K7 := hide (KD.out.tr K9)
 clear X9 K9 CT LR
 try go_wp2
 refine bodyPost_end (results_none rfl _ _ _) rfl ?_
 exact ⟨rfl, F6.out, K7.out⟩

set_option maxHeartbeats 2000000 in
set_option maxRecDepth 100000 in
theorem dtell_b (d base : Nat) (S : Sk) (s : Rf) (L : List Wl) (a : An) (hov : S.ov = false) (hl : S.lk = false) (hk : a.k = 1) (hc : klt (S.pt.rk, S.pt.kn) (S.tr, S.tn) = false) (hd : ckE a.l.rk a.l.kn = 0) (he : klt (a.l.rk, a.l.kn) (S.pt.rk, S.pt.kn) = true) (_ : Pre S L) (w : World) (X : Dk w d base S s L) : Calls Tryz.prog 38 #[.pointer (some ⟨d, 0, none⟩), .agg (anL a).toArray] w fun e' w' => e' = .returned (.tuple #[]) ∧ Dk w' d base ({ S with pt := a.l, ah := zr, lk := false }) s L ∧ Kd base w w' := by
 have b1 := (Below.refl w.heap.size w).alloc (Nat.le_refl _) (.cells (anL a).toArray 62)
 have A := hide (IsB.new w (anL a).toArray 62)
 obtain ⟨to, v, hto, X0⟩ := X
 have XX := hide (X0.below b1)
 have KK : Hid (Kd base w (w.alloc (.cells (anL a).toArray 62))) := Kd.of_below b1
 have y23 := c_ov XX.out.blk
 rw [hov] at y23
 have y15 := c_lk XX.out.blk
 rw [hl] at y15
 have mixed : Tryz.prog.follows .mixedOrders = true := by kernel_rfl
 have HC := hide hc
 have HD := hide hd
 have HE := hide he
 go_enter Tryz.func38, Tryz.ntmps38
 go_wp2_with fail
 generalize (w.alloc (.cells (anL a).toArray 62)) = WA at *
 obtain ⟨H, hH⟩ : ∃ H, w.heap.size = H := ⟨_, rfl⟩
 rw [hH] at A ⊢
 clear hH y23 y15 b1 X0
 have XD := hide (XX.out.below ((Below.refl _ _).drew))
 have AD := hide (A.out.below ((Below.refl _ _).drew))
 have KD := hide (KK.out.bel ((Below.refl _ _).drew))
 clear XX A KK
 have ID := hide XD.out.blk
 refine regionL 17 (fun w' => IsB w' d (dkL S s to v).toArray 105 ∧ IsB w' H (anL a).toArray 62) mixed ⟨ID.out, AD.out⟩ (fun hHeld => ?_)
 generalize WA.drew = WD at *
 refine pkA (v := ?_) 0 (some 30) rfl rfl ?_ (by assumption) ?_
 rotate_left
 · intro w'
   go_simp
   try with_reducible rfl
 try simp only [Act.put, zqa, zqb, zqc]
 refine pkL (v := ?_) 1 (some 31) rfl rfl ?_ (by assumption) ?_
 rotate_left
 · intro w' hSw
   obtain ⟨q0, q1⟩ := hSw; have zk := cl_ak q1; rw [hk] at zk
   go_simp
   try with_reducible rfl
 try simp only [Act.put, zqa, zqb, zqc]
 refine pkA (v := .bool true) 2 (some 32) rfl rfl ?_ (by assumption) ?_
 · intro w'
   go_simp
   try rfl
 try simp only [Act.put, zqa, zqb, zqc]
 refine pkA (v := ?_) 3 (some 33) rfl rfl ?_ (by assumption) ?_
 rotate_left
 · intro w'
   go_simp
   try with_reducible rfl
 try simp only [Act.put, zqa, zqb, zqc]
 refine pkA (v := ?_) 4 (some 34) rfl rfl ?_ (by assumption) ?_
 rotate_left
 · intro w'
   go_simp
   try with_reducible rfl
 try simp only [Act.put, zqa, zqb, zqc]
 refine pkA (v := ?_) 5 (some 35) rfl rfl ?_ (by assumption) ?_
 rotate_left
 · intro w'
   go_simp
   try with_reducible rfl
 try simp only [Act.put, zqa, zqb, zqc]
 refine pkA (v := ?_) 6 (some 36) rfl rfl ?_ (by assumption) ?_
 rotate_left
 · intro w'
   go_simp
   try with_reducible rfl
 try simp only [Act.put, zqa, zqb, zqc]
 refine pkA (v := ?_) 7 (some 37) rfl rfl ?_ (by assumption) ?_
 rotate_left
 · intro w'
   go_simp
   try with_reducible rfl
 try simp only [Act.put, zqa, zqb, zqc]
 refine pkL (v := (.agg #[.int .i64 (S.pt.rk), .int .u64 (S.pt.kn)])) 8 (some 38) rfl rfl ?_ (by assumption) ?_
 · intro w' hSw
   obtain ⟨q0, q1⟩ := hSw; have zk := cl_ak q1; rw [hk] at zk
   exact exec_load rfl rfl (q_atk q0)
 try simp only [Act.put, zqa, zqb, zqc]
 refine pkA (v := ?_) 9 (some 39) rfl rfl ?_ (by assumption) ?_
 rotate_left
 · intro w'
   go_simp
   try with_reducible rfl
 try simp only [Act.put, zqa, zqb, zqc]
 refine pkA (v := ?_) 10 (some 40) rfl rfl ?_ (by assumption) ?_
 rotate_left
 · intro w'
   go_simp
   try with_reducible rfl
 try simp only [Act.put, zqa, zqb, zqc]
 refine pkA (v := ?_) 11 (some 41) rfl rfl ?_ (by assumption) ?_
 rotate_left
 · intro w'
   go_simp
   try with_reducible rfl
 try simp only [Act.put, zqa, zqb, zqc]
 refine pkA (v := ?_) 12 (some 42) rfl rfl ?_ (by assumption) ?_
 rotate_left
 · intro w'
   go_simp
   try with_reducible rfl
 try simp only [Act.put, zqa, zqb, zqc]
 refine pkL (v := (.agg #[.int .i64 (S.tr), .int .u64 (S.tn)])) 13 (some 43) rfl rfl ?_ (by assumption) ?_
 · intro w' hSw
   obtain ⟨q0, q1⟩ := hSw; have zk := cl_ak q1; rw [hk] at zk
   exact exec_load rfl rfl (q_tgt q0)
 try simp only [Act.put, zqa, zqb, zqc]
 refine oneL (i := 14) (by kernel_rfl) rfl (fun K hK => ?_)
 go_simp
 refine (rLess_any S.pt.rk S.pt.kn S.tr S.tn WD).mono ?_
 rintro e w4 ⟨rfl, hg⟩
 rw [HC.out]
 have I4 := hide (ID.out.below hg.below)
 have A4 := hide (AD.out.below hg.below)
 have X4 := hide (XD.out.below hg.below)
 have K4 := hide (KD.out.bel hg.below)
 clear hg ID AD XD KD
 have ID := hide I4.out
 have AD := hide A4.out
 have XD := hide X4.out
 have KD := hide K4.out
 clear I4 A4 X4 K4
 refine hK.out _ _ ?_ ?_
 · exact ⟨ID.out, AD.out⟩
 clear hK K
 try simp only [Act.put, zqa, zqb, zqc]
 clear hHeld
 have hHeld : (fun w' => IsB w' d (dkL S s to v).toArray 105 ∧ IsB w' H (anL a).toArray 62) w4 := ⟨ID.out, AD.out⟩
 refine pkA (v := ?_) 15 (some 45) rfl rfl ?_ (by assumption) ?_
 rotate_left
 · intro w'
   go_simp
   try with_reducible rfl
 try simp only [Act.put, zqa, zqb, zqc]
 refine pkA (v := ?_) 16 (some 29) rfl rfl ?_ (by assumption) ?_
 rotate_left
 · intro w'
   go_simp
   try with_reducible rfl
 try simp only [Act.put, zqa, zqb, zqc]
 refine doneL (by kernel_rfl) ?_ _
 clear hHeld
 have XE := hide (XD.out.below ((Below.refl _ _).drew))
 have AE := hide (AD.out.below ((Below.refl _ _).drew))
 have KE := hide (KD.out.bel ((Below.refl _ _).drew))
 clear XD AD KD ID
 have XD := hide XE.out
 have AD := hide AE.out
 have KD := hide KE.out
 clear XE AE KE
 have ID := hide XD.out.blk
 go_wp2_with fail
 refine regionL 22 (fun w' => IsB w' d (dkL S s to v).toArray 105 ∧ IsB w' H (anL a).toArray 62) mixed ⟨ID.out, AD.out⟩ (fun hHeld => ?_)
 generalize w4.drew = WE at *
 refine pkA (v := ?_) 0 (some 51) rfl rfl ?_ (by assumption) ?_
 rotate_left
 · intro w'
   go_simp
   try with_reducible rfl
 try simp only [Act.put, zqa, zqb, zqc]
 refine pkL (v := ?_) 1 (some 52) rfl rfl ?_ (by assumption) ?_
 rotate_left
 · intro w' hSw
   obtain ⟨q0, q1⟩ := hSw; have zk := cl_ak q1; rw [hk] at zk
   go_simp
   try with_reducible rfl
 try simp only [Act.put, zqa, zqb, zqc]
 refine pkA (v := .bool true) 2 (some 53) rfl rfl ?_ (by assumption) ?_
 · intro w'
   go_simp
   try rfl
 try simp only [Act.put, zqa, zqb, zqc]
 refine pkA (v := ?_) 3 (some 54) rfl rfl ?_ (by assumption) ?_
 rotate_left
 · intro w'
   go_simp
   try with_reducible rfl
 try simp only [Act.put, zqa, zqb, zqc]
 refine pkA (v := ?_) 4 (some 55) rfl rfl ?_ (by assumption) ?_
 rotate_left
 · intro w'
   go_simp
   try with_reducible rfl
 try simp only [Act.put, zqa, zqb, zqc]
 refine pkA (v := ?_) 5 (some 56) rfl rfl ?_ (by assumption) ?_
 rotate_left
 · intro w'
   go_simp
   try with_reducible rfl
 try simp only [Act.put, zqa, zqb, zqc]
 refine pkL (v := (.agg #[.int .i64 (a.l.rk), .int .u64 (a.l.kn)])) 6 (some 57) rfl rfl ?_ (by assumption) ?_
 · intro w' hSw
   obtain ⟨q0, q1⟩ := hSw; have zk := cl_ak q1; rw [hk] at zk
   exact exec_load rfl rfl (ld_alk q1)
 try simp only [Act.put, zqa, zqb, zqc]
 refine oneL (i := 7) (by kernel_rfl) rfl (fun K hK => ?_)
 go_simp
 refine (rCheck_any a.l.rk a.l.kn WE).mono ?_
 rintro e w5 ⟨rfl, hg⟩
 rw [HD.out]
 have I4 := hide (ID.out.below hg.below)
 have A4 := hide (AD.out.below hg.below)
 have X4 := hide (XD.out.below hg.below)
 have K4 := hide (KD.out.bel hg.below)
 clear hg ID AD XD KD
 have ID := hide I4.out
 have AD := hide A4.out
 have XD := hide X4.out
 have KD := hide K4.out
 clear I4 A4 X4 K4
 refine hK.out _ _ ?_ ?_
 · exact ⟨ID.out, AD.out⟩
 clear hK K
 try simp only [Act.put, zqa, zqb, zqc]
 clear hHeld
 have hHeld : (fun w' => IsB w' d (dkL S s to v).toArray 105 ∧ IsB w' H (anL a).toArray 62) w5 := ⟨ID.out, AD.out⟩
 refine pkA (v := ?_) 8 (some 59) rfl rfl ?_ (by assumption) ?_
 rotate_left
 · intro w'
   go_simp
   try with_reducible rfl
 try simp only [Act.put, zqa, zqb, zqc]
 refine pkA (v := ?_) 9 (some 60) rfl rfl ?_ (by assumption) ?_
 rotate_left
 · intro w'
   go_simp
   try with_reducible rfl
 try simp only [Act.put, zqa, zqb, zqc]
 refine pkA (v := ?_) 10 (some 61) rfl rfl ?_ (by assumption) ?_
 rotate_left
 · intro w'
   go_simp
   try with_reducible rfl
 try simp only [Act.put, zqa, zqb, zqc]
 refine pkA (v := ?_) 11 (some 62) rfl rfl ?_ (by assumption) ?_
 rotate_left
 · intro w'
   go_simp
   try with_reducible rfl
 try simp only [Act.put, zqa, zqb, zqc]
 refine pkA (v := ?_) 12 (some 63) rfl rfl ?_ (by assumption) ?_
 rotate_left
 · intro w'
   go_simp
   try with_reducible rfl
 try simp only [Act.put, zqa, zqb, zqc]
 refine pkL (v := (.agg #[.int .i64 (a.l.rk), .int .u64 (a.l.kn)])) 13 (some 64) rfl rfl ?_ (by assumption) ?_
 · intro w' hSw
   obtain ⟨q0, q1⟩ := hSw; have zk := cl_ak q1; rw [hk] at zk
   exact exec_load rfl rfl (ld_alk q1)
 try simp only [Act.put, zqa, zqb, zqc]
 refine pkA (v := ?_) 14 (some 65) rfl rfl ?_ (by assumption) ?_
 rotate_left
 · intro w'
   go_simp
   try with_reducible rfl
 try simp only [Act.put, zqa, zqb, zqc]
 refine pkA (v := ?_) 15 (some 66) rfl rfl ?_ (by assumption) ?_
 rotate_left
 · intro w'
   go_simp
   try with_reducible rfl
 try simp only [Act.put, zqa, zqb, zqc]
 refine pkA (v := ?_) 16 (some 67) rfl rfl ?_ (by assumption) ?_
 rotate_left
 · intro w'
   go_simp
   try with_reducible rfl
 try simp only [Act.put, zqa, zqb, zqc]
 refine pkA (v := ?_) 17 (some 68) rfl rfl ?_ (by assumption) ?_
 rotate_left
 · intro w'
   go_simp
   try with_reducible rfl
 try simp only [Act.put, zqa, zqb, zqc]
 refine pkL (v := (.agg #[.int .i64 (S.pt.rk), .int .u64 (S.pt.kn)])) 18 (some 69) rfl rfl ?_ (by assumption) ?_
 · intro w' hSw
   obtain ⟨q0, q1⟩ := hSw; have zk := cl_ak q1; rw [hk] at zk
   exact exec_load rfl rfl (q_atk q0)
 try simp only [Act.put, zqa, zqb, zqc]
 refine oneL (i := 19) (by kernel_rfl) rfl (fun K hK => ?_)
 go_simp
 refine (rLess_any a.l.rk a.l.kn S.pt.rk S.pt.kn w5).mono ?_
 rintro e w6 ⟨rfl, hg⟩
 rw [HE.out]
 have I4 := hide (ID.out.below hg.below)
 have A4 := hide (AD.out.below hg.below)
 have X4 := hide (XD.out.below hg.below)
 have K4 := hide (KD.out.bel hg.below)
 clear hg ID AD XD KD
 have ID := hide I4.out
 have AD := hide A4.out
 have XD := hide X4.out
 have KD := hide K4.out
 clear I4 A4 X4 K4
 refine hK.out _ _ ?_ ?_
 · exact ⟨ID.out, AD.out⟩
 clear hK K
 try simp only [Act.put, zqa, zqb, zqc]
 clear hHeld
 have hHeld : (fun w' => IsB w' d (dkL S s to v).toArray 105 ∧ IsB w' H (anL a).toArray 62) w6 := ⟨ID.out, AD.out⟩
 refine pkA (v := ?_) 20 (some 71) rfl rfl ?_ (by assumption) ?_
 rotate_left
 · intro w'
   go_simp
   try with_reducible rfl
 try simp only [Act.put, zqa, zqb, zqc]
 refine pkA (v := ?_) 21 (some 50) rfl rfl ?_ (by assumption) ?_
 rotate_left
 · intro w'
   go_simp
   try with_reducible rfl
 try simp only [Act.put, zqa, zqb, zqc]
 refine doneL (by kernel_rfl) ?_ _
 clear hHeld
 have LR := hide (ld_al AD.out)
 obtain ⟨w9, hs9, I9, k9⟩ := u_at XD.out.blk a.l
 have eD : dkL { S with pt := a.l } s to v = dkL { S with pt := a.l, ah := zr, lk := false } s to v := by simp only [dkL, hl]
 rw [eD] at I9
 have T := XD.out.turn (S' := { S with pt := a.l, ah := zr, lk := false }) k9 I9
 have F6 : Hid (Dk w9 d base { S with pt := a.l, ah := zr, lk := false } s L) := ⟨to, v, fun c => Bool.noConfusion (show false = true from c), T.1⟩
 have K7 := hide (KD.out.tr T.2)
 have HS := hide hs9
 clear hs9 I9 k9 T eD hto ID AD XD KD
 go_wp2_with (first | (focus ((with_reducible refine wpList_load_w ?_ 29 (.tmp 73) ?_ ?_ LR.out ?_); rotate_left; rfl; rfl; rotate_left; rfl)) | (focus ((with_reducible refine wpList_store_w ?_ 29 (.tmp 76) (.tmp 74) ?_ ?_ ?_ HS.out ?_); rotate_left; rfl; rfl; rfl; rotate_left; rfl)))
 try go_wp2
 refine bodyPost_end (results_none rfl _ _ _) rfl ?_
 exact ⟨rfl, F6.out, K7.out⟩

set_option maxHeartbeats 2000000 in
set_option maxRecDepth 100000 in
theorem dtell_c (d base : Nat) (S : Sk) (s : Rf) (L : List Wl) (a : An) (hov : S.ov = false) (hl : S.lk = false) (hk : a.k = 1) (hc : klt (S.pt.rk, S.pt.kn) (S.tr, S.tn) = false) (hd : ckE a.l.rk a.l.kn = 20) (P : Pre S L) (w : World) (X : Dk w d base S s L) : Calls Tryz.prog 38 #[.pointer (some ⟨d, 0, none⟩), .agg (anL a).toArray] w fun e' w' => e' = .returned (.tuple #[]) ∧ Dk w' d base (S.begin) s L ∧ Kd base w w' := by
 have b1 := (Below.refl w.heap.size w).alloc (Nat.le_refl _) (.cells (anL a).toArray 62)
 have A := hide (IsB.new w (anL a).toArray 62)
 obtain ⟨to, v, hto, X0⟩ := X
 have XX := hide (X0.below b1)
 have KK : Hid (Kd base w (w.alloc (.cells (anL a).toArray 62))) := Kd.of_below b1
 have y23 := c_ov XX.out.blk
 rw [hov] at y23
 have y15 := c_lk XX.out.blk
 rw [hl] at y15
 have mixed : Tryz.prog.follows .mixedOrders = true := by kernel_rfl
 have HC := hide hc
 have HD := hide hd
 go_enter Tryz.func38, Tryz.ntmps38
 go_wp2_with fail
 generalize (w.alloc (.cells (anL a).toArray 62)) = WA at *
 obtain ⟨H, hH⟩ : ∃ H, w.heap.size = H := ⟨_, rfl⟩
 rw [hH] at A ⊢
 clear hH y23 y15 b1 X0
 have XD := hide (XX.out.below ((Below.refl _ _).drew))
 have AD := hide (A.out.below ((Below.refl _ _).drew))
 have KD := hide (KK.out.bel ((Below.refl _ _).drew))
 clear XX A KK
 have ID := hide XD.out.blk
 refine regionL 17 (fun w' => IsB w' d (dkL S s to v).toArray 105 ∧ IsB w' H (anL a).toArray 62) mixed ⟨ID.out, AD.out⟩ (fun hHeld => ?_)
 generalize WA.drew = WD at *
 refine pkA (v := ?_) 0 (some 30) rfl rfl ?_ (by assumption) ?_
 rotate_left
 · intro w'
   go_simp
   try with_reducible rfl
 try simp only [Act.put, zqa, zqb, zqc]
 refine pkL (v := ?_) 1 (some 31) rfl rfl ?_ (by assumption) ?_
 rotate_left
 · intro w' hSw
   obtain ⟨q0, q1⟩ := hSw; have zk := cl_ak q1; rw [hk] at zk
   go_simp
   try with_reducible rfl
 try simp only [Act.put, zqa, zqb, zqc]
 refine pkA (v := .bool true) 2 (some 32) rfl rfl ?_ (by assumption) ?_
 · intro w'
   go_simp
   try rfl
 try simp only [Act.put, zqa, zqb, zqc]
 refine pkA (v := ?_) 3 (some 33) rfl rfl ?_ (by assumption) ?_
 rotate_left
 · intro w'
   go_simp
   try with_reducible rfl
 try simp only [Act.put, zqa, zqb, zqc]
 refine pkA (v := ?_) 4 (some 34) rfl rfl ?_ (by assumption) ?_
 rotate_left
 · intro w'
   go_simp
   try with_reducible rfl
 try simp only [Act.put, zqa, zqb, zqc]
 refine pkA (v := ?_) 5 (some 35) rfl rfl ?_ (by assumption) ?_
 rotate_left
 · intro w'
   go_simp
   try with_reducible rfl
 try simp only [Act.put, zqa, zqb, zqc]
 refine pkA (v := ?_) 6 (some 36) rfl rfl ?_ (by assumption) ?_
 rotate_left
 · intro w'
   go_simp
   try with_reducible rfl
 try simp only [Act.put, zqa, zqb, zqc]
 refine pkA (v := ?_) 7 (some 37) rfl rfl ?_ (by assumption) ?_
 rotate_left
 · intro w'
   go_simp
   try with_reducible rfl
 try simp only [Act.put, zqa, zqb, zqc]
 refine pkL (v := (.agg #[.int .i64 (S.pt.rk), .int .u64 (S.pt.kn)])) 8 (some 38) rfl rfl ?_ (by assumption) ?_
 · intro w' hSw
   obtain ⟨q0, q1⟩ := hSw; have zk := cl_ak q1; rw [hk] at zk
   exact exec_load rfl rfl (q_atk q0)
 try simp only [Act.put, zqa, zqb, zqc]
 refine pkA (v := ?_) 9 (some 39) rfl rfl ?_ (by assumption) ?_
 rotate_left
 · intro w'
   go_simp
   try with_reducible rfl
 try simp only [Act.put, zqa, zqb, zqc]
 refine pkA (v := ?_) 10 (some 40) rfl rfl ?_ (by assumption) ?_
 rotate_left
 · intro w'
   go_simp
   try with_reducible rfl
 try simp only [Act.put, zqa, zqb, zqc]
 refine pkA (v := ?_) 11 (some 41) rfl rfl ?_ (by assumption) ?_
 rotate_left
 · intro w'
   go_simp
   try with_reducible rfl
 try simp only [Act.put, zqa, zqb, zqc]
 refine pkA (v := ?_) 12 (some 42) rfl rfl ?_ (by assumption) ?_
 rotate_left
 · intro w'
   go_simp
   try with_reducible rfl
 try simp only [Act.put, zqa, zqb, zqc]
 refine pkL (v := (.agg #[.int .i64 (S.tr), .int .u64 (S.tn)])) 13 (some 43) rfl rfl ?_ (by assumption) ?_
 · intro w' hSw
   obtain ⟨q0, q1⟩ := hSw; have zk := cl_ak q1; rw [hk] at zk
   exact exec_load rfl rfl (q_tgt q0)
 try simp only [Act.put, zqa, zqb, zqc]
 refine oneL (i := 14) (by kernel_rfl) rfl (fun K hK => ?_)
 go_simp
 refine (rLess_any S.pt.rk S.pt.kn S.tr S.tn WD).mono ?_
 rintro e w4 ⟨rfl, hg⟩
 rw [HC.out]
 have I4 := hide (ID.out.below hg.below)
 have A4 := hide (AD.out.below hg.below)
 have X4 := hide (XD.out.below hg.below)
 have K4 := hide (KD.out.bel hg.below)
 clear hg ID AD XD KD
 have ID := hide I4.out
 have AD := hide A4.out
 have XD := hide X4.out
 have KD := hide K4.out
 clear I4 A4 X4 K4
 refine hK.out _ _ ?_ ?_
 · exact ⟨ID.out, AD.out⟩
 clear hK K
 try simp only [Act.put, zqa, zqb, zqc]
 clear hHeld
 have hHeld : (fun w' => IsB w' d (dkL S s to v).toArray 105 ∧ IsB w' H (anL a).toArray 62) w4 := ⟨ID.out, AD.out⟩
 refine pkA (v := ?_) 15 (some 45) rfl rfl ?_ (by assumption) ?_
 rotate_left
 · intro w'
   go_simp
   try with_reducible rfl
 try simp only [Act.put, zqa, zqb, zqc]
 refine pkA (v := ?_) 16 (some 29) rfl rfl ?_ (by assumption) ?_
 rotate_left
 · intro w'
   go_simp
   try with_reducible rfl
 try simp only [Act.put, zqa, zqb, zqc]
 refine doneL (by kernel_rfl) ?_ _
 clear hHeld
 have XE := hide (XD.out.below ((Below.refl _ _).drew))
 have AE := hide (AD.out.below ((Below.refl _ _).drew))
 have KE := hide (KD.out.bel ((Below.refl _ _).drew))
 clear XD AD KD ID
 have XD := hide XE.out
 have AD := hide AE.out
 have KD := hide KE.out
 clear XE AE KE
 have ID := hide XD.out.blk
 go_wp2_with fail
 refine regionL 22 (fun w' => IsB w' d (dkL S s to v).toArray 105 ∧ IsB w' H (anL a).toArray 62) mixed ⟨ID.out, AD.out⟩ (fun hHeld => ?_)
 generalize w4.drew = WE at *
 refine pkA (v := ?_) 0 (some 51) rfl rfl ?_ (by assumption) ?_
 rotate_left
 · intro w'
   go_simp
   try with_reducible rfl
 try simp only [Act.put, zqa, zqb, zqc]
 refine pkL (v := ?_) 1 (some 52) rfl rfl ?_ (by assumption) ?_
 rotate_left
 · intro w' hSw
   obtain ⟨q0, q1⟩ := hSw; have zk := cl_ak q1; rw [hk] at zk
   go_simp
   try with_reducible rfl
 try simp only [Act.put, zqa, zqb, zqc]
 refine pkA (v := .bool true) 2 (some 53) rfl rfl ?_ (by assumption) ?_
 · intro w'
   go_simp
   try rfl
 try simp only [Act.put, zqa, zqb, zqc]
 refine pkA (v := ?_) 3 (some 54) rfl rfl ?_ (by assumption) ?_
 rotate_left
 · intro w'
   go_simp
   try with_reducible rfl
 try simp only [Act.put, zqa, zqb, zqc]
 refine pkA (v := ?_) 4 (some 55) rfl rfl ?_ (by assumption) ?_
 rotate_left
 · intro w'
   go_simp
   try with_reducible rfl
 try simp only [Act.put, zqa, zqb, zqc]
 refine pkA (v := ?_) 5 (some 56) rfl rfl ?_ (by assumption) ?_
 rotate_left
 · intro w'
   go_simp
   try with_reducible rfl
 try simp only [Act.put, zqa, zqb, zqc]
 refine pkL (v := (.agg #[.int .i64 (a.l.rk), .int .u64 (a.l.kn)])) 6 (some 57) rfl rfl ?_ (by assumption) ?_
 · intro w' hSw
   obtain ⟨q0, q1⟩ := hSw; have zk := cl_ak q1; rw [hk] at zk
   exact exec_load rfl rfl (ld_alk q1)
 try simp only [Act.put, zqa, zqb, zqc]
 refine oneL (i := 7) (by kernel_rfl) rfl (fun K hK => ?_)
 go_simp
 refine (rCheck_any a.l.rk a.l.kn WE).mono ?_
 rintro e w5 ⟨rfl, hg⟩
 rw [HD.out]
 have I4 := hide (ID.out.below hg.below)
 have A4 := hide (AD.out.below hg.below)
 have X4 := hide (XD.out.below hg.below)
 have K4 := hide (KD.out.bel hg.below)
 clear hg ID AD XD KD
 have ID := hide I4.out
 have AD := hide A4.out
 have XD := hide X4.out
 have KD := hide K4.out
 clear I4 A4 X4 K4
 refine hK.out _ _ ?_ ?_
 · exact ⟨ID.out, AD.out⟩
 clear hK K
 try simp only [Act.put, zqa, zqb, zqc]
 clear hHeld
 have hHeld : (fun w' => IsB w' d (dkL S s to v).toArray 105 ∧ IsB w' H (anL a).toArray 62) w5 := ⟨ID.out, AD.out⟩
 refine pkA (v := ?_) 8 (some 59) rfl rfl ?_ (by assumption) ?_
 rotate_left
 · intro w'
   go_simp
   try with_reducible rfl
 try simp only [Act.put, zqa, zqb, zqc]
 refine pkA (v := ?_) 9 (some 60) rfl rfl ?_ (by assumption) ?_
 rotate_left
 · intro w'
   go_simp
   try with_reducible rfl
 try simp only [Act.put, zqa, zqb, zqc]
 refine pkA (v := ?_) 10 (some 61) rfl rfl ?_ (by assumption) ?_
 rotate_left
 · intro w'
   go_simp
   try with_reducible rfl
 try simp only [Act.put, zqa, zqb, zqc]
 refine pickN 11 (some 62) rfl rfl (by kernel_rfl) (by kernel_rfl) (by kernel_rfl) (by decide) (fun _ _ _ h => h) (by rfl) (by assumption) ?_
 try simp only [Act.put, zqa, zqb, zqc]
 refine pickN 12 (some 63) rfl rfl (by kernel_rfl) (by kernel_rfl) (by kernel_rfl) (by decide) (fun _ _ _ h => h) (by rfl) (by assumption) ?_
 try simp only [Act.put, zqa, zqb, zqc]
 refine pickN 13 (some 64) rfl rfl (by kernel_rfl) (by kernel_rfl) (by kernel_rfl) (by decide) (fun _ _ _ h => h) (by rfl) (by assumption) ?_
 try simp only [Act.put, zqa, zqb, zqc]
 refine pickN 14 (some 65) rfl rfl (by kernel_rfl) (by kernel_rfl) (by kernel_rfl) (by decide) (fun _ _ _ h => h) (by rfl) (by assumption) ?_
 try simp only [Act.put, zqa, zqb, zqc]
 refine pickN 15 (some 66) rfl rfl (by kernel_rfl) (by kernel_rfl) (by kernel_rfl) (by decide) (fun _ _ _ h => h) (by rfl) (by assumption) ?_
 try simp only [Act.put, zqa, zqb, zqc]
 refine pickN 16 (some 67) rfl rfl (by kernel_rfl) (by kernel_rfl) (by kernel_rfl) (by decide) (fun _ _ _ h => h) (by rfl) (by assumption) ?_
 try simp only [Act.put, zqa, zqb, zqc]
 refine pickN 17 (some 68) rfl rfl (by kernel_rfl) (by kernel_rfl) (by kernel_rfl) (by decide) (fun _ _ _ h => h) (by rfl) (by assumption) ?_
 try simp only [Act.put, zqa, zqb, zqc]
 refine pickN 18 (some 69) rfl rfl (by kernel_rfl) (by kernel_rfl) (by kernel_rfl) (by decide) (fun _ _ _ h => h) (by rfl) (by assumption) ?_
 try simp only [Act.put, zqa, zqb, zqc]
 refine pickN 19 (some 70) rfl rfl (by kernel_rfl) (by kernel_rfl) (by kernel_rfl) (by decide) (fun _ _ _ h => h) (by rfl) (by assumption) ?_
 try simp only [Act.put, zqa, zqb, zqc]
 refine pkA (v := ?_) 20 (some 71) rfl rfl ?_ (by assumption) ?_
 rotate_left
 · intro w'
   go_simp
   try with_reducible rfl
 try simp only [Act.put, zqa, zqb, zqc]
 refine pkA (v := ?_) 21 (some 50) rfl rfl ?_ (by assumption) ?_
 rotate_left
 · intro w'
   go_simp
   try with_reducible rfl
 try simp only [Act.put, zqa, zqb, zqc]
 refine doneL (by kernel_rfl) ?_ _
 clear hHeld
 have yk := cl_ak AD.out
 rw [hk] at yk
 have CT := hide (dagain_any d base S s L P.h0 P.h1 P.hd0 _ ⟨to, v, hto, XD.out⟩)
 clear P hto ID AD XD
 go_wp2_with fail
 refine CT.out.mono ?_
 rintro e w9 ⟨rfl, X9, K9⟩
 have F6 := hide X9
 have K7 := hide (KD.out.tr K9)
 clear X9 K9 CT
 try go_wp2
 refine bodyPost_end (results_none rfl _ _ _) rfl ?_
 exact ⟨rfl, F6.out, K7.out⟩

set_option maxHeartbeats 2000000 in
set_option maxRecDepth 100000 in
theorem dtell_d (d base : Nat) (S : Sk) (s : Rf) (L : List Wl) (a : An) (hov : S.ov = false) (hl : S.lk = false) (hk : a.k = 1) (hc : klt (S.pt.rk, S.pt.kn) (S.tr, S.tn) = false) (hd : ckE a.l.rk a.l.kn = 0) (he : klt (a.l.rk, a.l.kn) (S.pt.rk, S.pt.kn) = false) (P : Pre S L) (w : World) (X : Dk w d base S s L) : Calls Tryz.prog 38 #[.pointer (some ⟨d, 0, none⟩), .agg (anL a).toArray] w fun e' w' => e' = .returned (.tuple #[]) ∧ Dk w' d base (S.begin) s L ∧ Kd base w w' := by
 have b1 := (Below.refl w.heap.size w).alloc (Nat.le_refl _) (.cells (anL a).toArray 62)
 have A := hide (IsB.new w (anL a).toArray 62)
 obtain ⟨to, v, hto, X0⟩ := X
 have XX := hide (X0.below b1)
 have KK : Hid (Kd base w (w.alloc (.cells (anL a).toArray 62))) := Kd.of_below b1
 have y23 := c_ov XX.out.blk
 rw [hov] at y23
 have y15 := c_lk XX.out.blk
 rw [hl] at y15
 have mixed : Tryz.prog.follows .mixedOrders = true := by kernel_rfl
 have HC := hide hc
 have HD := hide hd
 have HE := hide he
 go_enter Tryz.func38, Tryz.ntmps38
 go_wp2_with fail
 generalize (w.alloc (.cells (anL a).toArray 62)) = WA at *
 obtain ⟨H, hH⟩ : ∃ H, w.heap.size = H := ⟨_, rfl⟩
 rw [hH] at A ⊢
 clear hH y23 y15 b1 X0
 have XD := hide (XX.out.below ((Below.refl _ _).drew))
 have AD := hide (A.out.below ((Below.refl _ _).drew))
 have KD := hide (KK.out.bel ((Below.refl _ _).drew))
 clear XX A KK
 have ID := hide XD.out.blk
 refine regionL 17 (fun w' => IsB w' d (dkL S s to v).toArray 105 ∧ IsB w' H (anL a).toArray 62) mixed ⟨ID.out, AD.out⟩ (fun hHeld => ?_)
 generalize WA.drew = WD at *
 refine pkA (v := ?_) 0 (some 30) rfl rfl ?_ (by assumption) ?_
 rotate_left
 · intro w'
   go_simp
   try with_reducible rfl
 try simp only [Act.put, zqa, zqb, zqc]
 refine pkL (v := ?_) 1 (some 31) rfl rfl ?_ (by assumption) ?_
 rotate_left
 · intro w' hSw
   obtain ⟨q0, q1⟩ := hSw; have zk := cl_ak q1; rw [hk] at zk
   go_simp
   try with_reducible rfl
 try simp only [Act.put, zqa, zqb, zqc]
 refine pkA (v := .bool true) 2 (some 32) rfl rfl ?_ (by assumption) ?_
 · intro w'
   go_simp
   try rfl
 try simp only [Act.put, zqa, zqb, zqc]
 refine pkA (v := ?_) 3 (some 33) rfl rfl ?_ (by assumption) ?_
 rotate_left
 · intro w'
   go_simp
   try with_reducible rfl
 try simp only [Act.put, zqa, zqb, zqc]
 refine pkA (v := ?_) 4 (some 34) rfl rfl ?_ (by assumption) ?_
 rotate_left
 · intro w'
   go_simp
   try with_reducible rfl
 try simp only [Act.put, zqa, zqb, zqc]
 refine pkA (v := ?_) 5 (some 35) rfl rfl ?_ (by assumption) ?_
 rotate_left
 · intro w'
   go_simp
   try with_reducible rfl
 try simp only [Act.put, zqa, zqb, zqc]
 refine pkA (v := ?_) 6 (some 36) rfl rfl ?_ (by assumption) ?_
 rotate_left
 · intro w'
   go_simp
   try with_reducible rfl
 try simp only [Act.put, zqa, zqb, zqc]
 refine pkA (v := ?_) 7 (some 37) rfl rfl ?_ (by assumption) ?_
 rotate_left
 · intro w'
   go_simp
   try with_reducible rfl
 try simp only [Act.put, zqa, zqb, zqc]
 refine pkL (v := (.agg #[.int .i64 (S.pt.rk), .int .u64 (S.pt.kn)])) 8 (some 38) rfl rfl ?_ (by assumption) ?_
 · intro w' hSw
   obtain ⟨q0, q1⟩ := hSw; have zk := cl_ak q1; rw [hk] at zk
   exact exec_load rfl rfl (q_atk q0)
 try simp only [Act.put, zqa, zqb, zqc]
 refine pkA (v := ?_) 9 (some 39) rfl rfl ?_ (by assumption) ?_
 rotate_left
 · intro w'
   go_simp
   try with_reducible rfl
 try simp only [Act.put, zqa, zqb, zqc]
 refine pkA (v := ?_) 10 (some 40) rfl rfl ?_ (by assumption) ?_
 rotate_left
 · intro w'
   go_simp
   try with_reducible rfl
 try simp only [Act.put, zqa, zqb, zqc]
 refine pkA (v := ?_) 11 (some 41) rfl rfl ?_ (by assumption) ?_
 rotate_left
 · intro w'
   go_simp
   try with_reducible rfl
 try simp only [Act.put, zqa, zqb, zqc]
 refine pkA (v := ?_) 12 (some 42) rfl rfl ?_ (by assumption) ?_
 rotate_left
 · intro w'
   go_simp
   try with_reducible rfl
 try simp only [Act.put, zqa, zqb, zqc]
 refine pkL (v := (.agg #[.int .i64 (S.tr), .int .u64 (S.tn)])) 13 (some 43) rfl rfl ?_ (by assumption) ?_
 · intro w' hSw
   obtain ⟨q0, q1⟩ := hSw; have zk := cl_ak q1; rw [hk] at zk
   exact exec_load rfl rfl (q_tgt q0)
 try simp only [Act.put, zqa, zqb, zqc]
 refine oneL (i := 14) (by kernel_rfl) rfl (fun K hK => ?_)
 go_simp
 refine (rLess_any S.pt.rk S.pt.kn S.tr S.tn WD).mono ?_
 rintro e w4 ⟨rfl, hg⟩
 rw [HC.out]
 have I4 := hide (ID.out.below hg.below)
 have A4 := hide (AD.out.below hg.below)
 have X4 := hide (XD.out.below hg.below)
 have K4 := hide (KD.out.bel hg.below)
 clear hg ID AD XD KD
 have ID := hide I4.out
 have AD := hide A4.out
 have XD := hide X4.out
 have KD := hide K4.out
 clear I4 A4 X4 K4
 refine hK.out _ _ ?_ ?_
 · exact ⟨ID.out, AD.out⟩
 clear hK K
 try simp only [Act.put, zqa, zqb, zqc]
 clear hHeld
 have hHeld : (fun w' => IsB w' d (dkL S s to v).toArray 105 ∧ IsB w' H (anL a).toArray 62) w4 := ⟨ID.out, AD.out⟩
 refine pkA (v := ?_) 15 (some 45) rfl rfl ?_ (by assumption) ?_
 rotate_left
 · intro w'
   go_simp
   try with_reducible rfl
 try simp only [Act.put, zqa, zqb, zqc]
 refine pkA (v := ?_) 16 (some 29) rfl rfl ?_ (by assumption) ?_
 rotate_left
 · intro w'
   go_simp
   try with_reducible rfl
 try simp only [Act.put, zqa, zqb, zqc]
 refine doneL (by kernel_rfl) ?_ _
 clear hHeld
 have XE := hide (XD.out.below ((Below.refl _ _).drew))
 have AE := hide (AD.out.below ((Below.refl _ _).drew))
 have KE := hide (KD.out.bel ((Below.refl _ _).drew))
 clear XD AD KD ID
 have XD := hide XE.out
 have AD := hide AE.out
 have KD := hide KE.out
 clear XE AE KE
 have ID := hide XD.out.blk
 go_wp2_with fail
 refine regionL 22 (fun w' => IsB w' d (dkL S s to v).toArray 105 ∧ IsB w' H (anL a).toArray 62) mixed ⟨ID.out, AD.out⟩ (fun hHeld => ?_)
 generalize w4.drew = WE at *
 refine pkA (v := ?_) 0 (some 51) rfl rfl ?_ (by assumption) ?_
 rotate_left
 · intro w'
   go_simp
   try with_reducible rfl
 try simp only [Act.put, zqa, zqb, zqc]
 refine pkL (v := ?_) 1 (some 52) rfl rfl ?_ (by assumption) ?_
 rotate_left
 · intro w' hSw
   obtain ⟨q0, q1⟩ := hSw; have zk := cl_ak q1; rw [hk] at zk
   go_simp
   try with_reducible rfl
 try simp only [Act.put, zqa, zqb, zqc]
 refine pkA (v := .bool true) 2 (some 53) rfl rfl ?_ (by assumption) ?_
 · intro w'
   go_simp
   try rfl
 try simp only [Act.put, zqa, zqb, zqc]
 refine pkA (v := ?_) 3 (some 54) rfl rfl ?_ (by assumption) ?_
 rotate_left
 · intro w'
   go_simp
   try with_reducible rfl
 try simp only [Act.put, zqa, zqb, zqc]
 refine pkA (v := ?_) 4 (some 55) rfl rfl ?_ (by assumption) ?_
 rotate_left
 · intro w'
   go_simp
   try with_reducible rfl
 try simp only [Act.put, zqa, zqb, zqc]
 refine pkA (v := ?_) 5 (some 56) rfl rfl ?_ (by assumption) ?_
 rotate_left
 · intro w'
   go_simp
   try with_reducible rfl
 try simp only [Act.put, zqa, zqb, zqc]
 refine pkL (v := (.agg #[.int .i64 (a.l.rk), .int .u64 (a.l.kn)])) 6 (some 57) rfl rfl ?_ (by assumption) ?_
 · intro w' hSw
   obtain ⟨q0, q1⟩ := hSw; have zk := cl_ak q1; rw [hk] at zk
   exact exec_load rfl rfl (ld_alk q1)
 try simp only [Act.put, zqa, zqb, zqc]
 refine oneL (i := 7) (by kernel_rfl) rfl (fun K hK => ?_)
 go_simp
 refine (rCheck_any a.l.rk a.l.kn WE).mono ?_
 rintro e w5 ⟨rfl, hg⟩
 rw [HD.out]
 have I4 := hide (ID.out.below hg.below)
 have A4 := hide (AD.out.below hg.below)
 have X4 := hide (XD.out.below hg.below)
 have K4 := hide (KD.out.bel hg.below)
 clear hg ID AD XD KD
 have ID := hide I4.out
 have AD := hide A4.out
 have XD := hide X4.out
 have KD := hide K4.out
 clear I4 A4 X4 K4
 refine hK.out _ _ ?_ ?_
 · exact ⟨ID.out, AD.out⟩
 clear hK K
 try simp only [Act.put, zqa, zqb, zqc]
 clear hHeld
 have hHeld : (fun w' => IsB w' d (dkL S s to v).toArray 105 ∧ IsB w' H (anL a).toArray 62) w5 := ⟨ID.out, AD.out⟩
 refine pkA (v := ?_) 8 (some 59) rfl rfl ?_ (by assumption) ?_
 rotate_left
 · intro w'
   go_simp
   try with_reducible rfl
 try simp only [Act.put, zqa, zqb, zqc]
 refine pkA (v := ?_) 9 (some 60) rfl rfl ?_ (by assumption) ?_
 rotate_left
 · intro w'
   go_simp
   try with_reducible rfl
 try simp only [Act.put, zqa, zqb, zqc]
 refine pkA (v := ?_) 10 (some 61) rfl rfl ?_ (by assumption) ?_
 rotate_left
 · intro w'
   go_simp
   try with_reducible rfl
 try simp only [Act.put, zqa, zqb, zqc]
 refine pkA (v := ?_) 11 (some 62) rfl rfl ?_ (by assumption) ?_
 rotate_left
 · intro w'
   go_simp
   try with_reducible rfl
 try simp only [Act.put, zqa, zqb, zqc]
 refine pkA (v := ?_) 12 (some 63) rfl rfl ?_ (by assumption) ?_
 rotate_left
 · intro w'
   go_simp
   try with_reducible rfl
 try simp only [Act.put, zqa, zqb, zqc]
 refine pkL (v := (.agg #[.int .i64 (a.l.rk), .int .u64 (a.l.kn)])) 13 (some 64) rfl rfl ?_ (by assumption) ?_
 · intro w' hSw
   obtain ⟨q0, q1⟩ := hSw; have zk := cl_ak q1; rw [hk] at zk
   exact exec_load rfl rfl (ld_alk q1)
 try simp only [Act.put, zqa, zqb, zqc]
 refine pkA (v := ?_) 14 (some 65) rfl rfl ?_ (by assumption) ?_
 rotate_left
 · intro w'
   go_simp
   try with_reducible rfl
 try simp only [Act.put, zqa, zqb, zqc]
 refine pkA (v := ?_) 15 (some 66) rfl rfl ?_ (by assumption) ?_
 rotate_left
 · intro w'
   go_simp
   try with_reducible rfl
 try simp only [Act.put, zqa, zqb, zqc]
 refine pkA (v := ?_) 16 (some 67) rfl rfl ?_ (by assumption) ?_
 rotate_left
 · intro w'
   go_simp
   try with_reducible rfl
 try simp only [Act.put, zqa, zqb, zqc]
 refine pkA (v := ?_) 17 (some 68) rfl rfl ?_ (by assumption) ?_
 rotate_left
 · intro w'
   go_simp
   try with_reducible rfl
 try simp only [Act.put, zqa, zqb, zqc]
 refine pkL (v := (.agg #[.int .i64 (S.pt.rk), .int .u64 (S.pt.kn)])) 18 (some 69) rfl rfl ?_ (by assumption) ?_
 · intro w' hSw
   obtain ⟨q0, q1⟩ := hSw; have zk := cl_ak q1; rw [hk] at zk
   exact exec_load rfl rfl (q_atk q0)
 try simp only [Act.put, zqa, zqb, zqc]
 refine oneL (i := 19) (by kernel_rfl) rfl (fun K hK => ?_)
 go_simp
 refine (rLess_any a.l.rk a.l.kn S.pt.rk S.pt.kn w5).mono ?_
 rintro e w6 ⟨rfl, hg⟩
 rw [HE.out]
 have I4 := hide (ID.out.below hg.below)
 have A4 := hide (AD.out.below hg.below)
 have X4 := hide (XD.out.below hg.below)
 have K4 := hide (KD.out.bel hg.below)
 clear hg ID AD XD KD
 have ID := hide I4.out
 have AD := hide A4.out
 have XD := hide X4.out
 have KD := hide K4.out
 clear I4 A4 X4 K4
 refine hK.out _ _ ?_ ?_
 · exact ⟨ID.out, AD.out⟩
 clear hK K
 try simp only [Act.put, zqa, zqb, zqc]
 clear hHeld
 have hHeld : (fun w' => IsB w' d (dkL S s to v).toArray 105 ∧ IsB w' H (anL a).toArray 62) w6 := ⟨ID.out, AD.out⟩
 refine pkA (v := ?_) 20 (some 71) rfl rfl ?_ (by assumption) ?_
 rotate_left
 · intro w'
   go_simp
   try with_reducible rfl
 try simp only [Act.put, zqa, zqb, zqc]
 refine pkA (v := ?_) 21 (some 50) rfl rfl ?_ (by assumption) ?_
 rotate_left
 · intro w'
   go_simp
   try with_reducible rfl
 try simp only [Act.put, zqa, zqb, zqc]
 refine doneL (by kernel_rfl) ?_ _
 clear hHeld
 have yk := cl_ak AD.out
 rw [hk] at yk
 have CT := hide (dagain_any d base S s L P.h0 P.h1 P.hd0 _ ⟨to, v, hto, XD.out⟩)
 clear P hto ID AD XD
 go_wp2_with fail
 refine CT.out.mono ?_
 rintro e w9 ⟨rfl, X9, K9⟩
 have F6 := hide X9
 have K7 := hide (KD.out.tr K9)
 clear X9 K9 CT
 try go_wp2
 refine bodyPost_end (results_none rfl _ _ _) rfl ?_
 exact ⟨rfl, F6.out, K7.out⟩

set_option maxHeartbeats 2000000 in
set_option maxRecDepth 100000 in
theorem dtell_e (d base : Nat) (S : Sk) (s : Rf) (L : List Wl) (a : An) (hov : S.ov = false) (hl : S.lk = false) (hk : a.k = 3) (P : Pre S L) (w : World) (X : Dk w d base S s L) : Calls Tryz.prog 38 #[.pointer (some ⟨d, 0, none⟩), .agg (anL a).toArray] w fun e' w' => e' = .returned (.tuple #[]) ∧ Dk w' d base (S.begin) s (keepL L (S.wil S.pt a)) ∧ Kd base w w' := by
 have b1 := (Below.refl w.heap.size w).alloc (Nat.le_refl _) (.cells (anL a).toArray 62)
 have A := hide (IsB.new w (anL a).toArray 62)
 obtain ⟨to, v, hto, X0⟩ := X
 have XX := hide (X0.below b1)
 have KK : Hid (Kd base w (w.alloc (.cells (anL a).toArray 62))) := Kd.of_below b1
 have y23 := c_ov XX.out.blk
 rw [hov] at y23
 have y15 := c_lk XX.out.blk
 rw [hl] at y15
 have mixed : Tryz.prog.follows .mixedOrders = true := by kernel_rfl
 have e1 : (a.k == 1) = false := by rw [hk]; rfl
 go_enter Tryz.func38, Tryz.ntmps38
 go_wp2_with fail
 generalize (w.alloc (.cells (anL a).toArray 62)) = WA at *
 obtain ⟨H, hH⟩ : ∃ H, w.heap.size = H := ⟨_, rfl⟩
 rw [hH] at A ⊢
 clear hH y23 y15 b1 X0
 have XD := hide (XX.out.below ((Below.refl _ _).drew))
 have AD := hide (A.out.below ((Below.refl _ _).drew))
 have KD := hide (KK.out.bel ((Below.refl _ _).drew))
 clear XX A KK
 have ID := hide XD.out.blk
 refine regionL 17 (fun w' => IsB w' d (dkL S s to v).toArray 105 ∧ IsB w' H (anL a).toArray 62) mixed ⟨ID.out, AD.out⟩ (fun hHeld => ?_)
 generalize WA.drew = WD at *
 refine pkA (v := ?_) 0 (some 30) rfl rfl ?_ (by assumption) ?_
 rotate_left
 · intro w'
   go_simp
   try with_reducible rfl
 try simp only [Act.put, zqa, zqb, zqc]
 refine pkL (v := ?_) 1 (some 31) rfl rfl ?_ (by assumption) ?_
 rotate_left
 · intro w' hSw
   obtain ⟨q0, q1⟩ := hSw; have zk := cl_ak q1
   go_simp
   try with_reducible rfl
 try simp only [Act.put, zqa, zqb, zqc]
 refine pkA (v := .bool false) 2 (some 32) rfl rfl ?_ (by assumption) ?_
 · intro w'
   go_simp
   first | done | rw [e1] | simp [e1]
 try simp only [Act.put, zqa, zqb, zqc]
 refine pkA (v := ?_) 3 (some 33) rfl rfl ?_ (by assumption) ?_
 rotate_left
 · intro w'
   go_simp
   try with_reducible rfl
 try simp only [Act.put, zqa, zqb, zqc]
 refine pickN 4 (some 34) rfl rfl (by kernel_rfl) (by kernel_rfl) (by kernel_rfl) (by decide) (fun _ _ _ h => h) (by rfl) (by assumption) ?_
 try simp only [Act.put, zqa, zqb, zqc]
 refine pickN 5 (some 35) rfl rfl (by kernel_rfl) (by kernel_rfl) (by kernel_rfl) (by decide) (fun _ _ _ h => h) (by rfl) (by assumption) ?_
 try simp only [Act.put, zqa, zqb, zqc]
 refine pickN 6 (some 36) rfl rfl (by kernel_rfl) (by kernel_rfl) (by kernel_rfl) (by decide) (fun _ _ _ h => h) (by rfl) (by assumption) ?_
 try simp only [Act.put, zqa, zqb, zqc]
 refine pickN 7 (some 37) rfl rfl (by kernel_rfl) (by kernel_rfl) (by kernel_rfl) (by decide) (fun _ _ _ h => h) (by rfl) (by assumption) ?_
 try simp only [Act.put, zqa, zqb, zqc]
 refine pickN 8 (some 38) rfl rfl (by kernel_rfl) (by kernel_rfl) (by kernel_rfl) (by decide) (fun _ _ _ h => h) (by rfl) (by assumption) ?_
 try simp only [Act.put, zqa, zqb, zqc]
 refine pickN 9 (some 39) rfl rfl (by kernel_rfl) (by kernel_rfl) (by kernel_rfl) (by decide) (fun _ _ _ h => h) (by rfl) (by assumption) ?_
 try simp only [Act.put, zqa, zqb, zqc]
 refine pickN 10 (some 40) rfl rfl (by kernel_rfl) (by kernel_rfl) (by kernel_rfl) (by decide) (fun _ _ _ h => h) (by rfl) (by assumption) ?_
 try simp only [Act.put, zqa, zqb, zqc]
 refine pickN 11 (some 41) rfl rfl (by kernel_rfl) (by kernel_rfl) (by kernel_rfl) (by decide) (fun _ _ _ h => h) (by rfl) (by assumption) ?_
 try simp only [Act.put, zqa, zqb, zqc]
 refine pickN 12 (some 42) rfl rfl (by kernel_rfl) (by kernel_rfl) (by kernel_rfl) (by decide) (fun _ _ _ h => h) (by rfl) (by assumption) ?_
 try simp only [Act.put, zqa, zqb, zqc]
 refine pickN 13 (some 43) rfl rfl (by kernel_rfl) (by kernel_rfl) (by kernel_rfl) (by decide) (fun _ _ _ h => h) (by rfl) (by assumption) ?_
 try simp only [Act.put, zqa, zqb, zqc]
 refine pickN 14 (some 44) rfl rfl (by kernel_rfl) (by kernel_rfl) (by kernel_rfl) (by decide) (fun _ _ _ h => h) (by rfl) (by assumption) ?_
 try simp only [Act.put, zqa, zqb, zqc]
 refine pkA (v := ?_) 15 (some 45) rfl rfl ?_ (by assumption) ?_
 rotate_left
 · intro w'
   go_simp
   try with_reducible rfl
 try simp only [Act.put, zqa, zqb, zqc]
 refine pkA (v := ?_) 16 (some 29) rfl rfl ?_ (by assumption) ?_
 rotate_left
 · intro w'
   go_simp
   try with_reducible rfl
 try simp only [Act.put, zqa, zqb, zqc]
 refine doneL (by kernel_rfl) ?_ _
 clear hHeld
 have XE := hide (XD.out.below ((Below.refl _ _).drew))
 have AE := hide (AD.out.below ((Below.refl _ _).drew))
 have KE := hide (KD.out.bel ((Below.refl _ _).drew))
 clear XD AD KD ID
 have XD := hide XE.out
 have AD := hide AE.out
 have KD := hide KE.out
 clear XE AE KE
 have ID := hide XD.out.blk
 go_wp2_with fail
 refine regionL 22 (fun w' => IsB w' d (dkL S s to v).toArray 105 ∧ IsB w' H (anL a).toArray 62) mixed ⟨ID.out, AD.out⟩ (fun hHeld => ?_)
 generalize WD.drew = WE at *
 refine pkA (v := ?_) 0 (some 51) rfl rfl ?_ (by assumption) ?_
 rotate_left
 · intro w'
   go_simp
   try with_reducible rfl
 try simp only [Act.put, zqa, zqb, zqc]
 refine pkL (v := ?_) 1 (some 52) rfl rfl ?_ (by assumption) ?_
 rotate_left
 · intro w' hSw
   obtain ⟨q0, q1⟩ := hSw; have zk := cl_ak q1
   go_simp
   try with_reducible rfl
 try simp only [Act.put, zqa, zqb, zqc]
 refine pkA (v := .bool false) 2 (some 53) rfl rfl ?_ (by assumption) ?_
 · intro w'
   go_simp
   first | done | rw [e1] | simp [e1]
 try simp only [Act.put, zqa, zqb, zqc]
 refine pkA (v := ?_) 3 (some 54) rfl rfl ?_ (by assumption) ?_
 rotate_left
 · intro w'
   go_simp
   try with_reducible rfl
 try simp only [Act.put, zqa, zqb, zqc]
 refine pickN 4 (some 55) rfl rfl (by kernel_rfl) (by kernel_rfl) (by kernel_rfl) (by decide) (fun _ _ _ h => h) (by rfl) (by assumption) ?_
 try simp only [Act.put, zqa, zqb, zqc]
 refine pickN 5 (some 56) rfl rfl (by kernel_rfl) (by kernel_rfl) (by kernel_rfl) (by decide) (fun _ _ _ h => h) (by rfl) (by assumption) ?_
 try simp only [Act.put, zqa, zqb, zqc]
 refine pickN 6 (some 57) rfl rfl (by kernel_rfl) (by kernel_rfl) (by kernel_rfl) (by decide) (fun _ _ _ h => h) (by rfl) (by assumption) ?_
 try simp only [Act.put, zqa, zqb, zqc]
 refine pickN 7 (some 58) rfl rfl (by kernel_rfl) (by kernel_rfl) (by kernel_rfl) (by decide) (fun _ _ _ h => h) (by rfl) (by assumption) ?_
 try simp only [Act.put, zqa, zqb, zqc]
 refine pickN 8 (some 59) rfl rfl (by kernel_rfl) (by kernel_rfl) (by kernel_rfl) (by decide) (fun _ _ _ h => h) (by rfl) (by assumption) ?_
 try simp only [Act.put, zqa, zqb, zqc]
 refine pkA (v := ?_) 9 (some 60) rfl rfl ?_ (by assumption) ?_
 rotate_left
 · intro w'
   go_simp
   try with_reducible rfl
 try simp only [Act.put, zqa, zqb, zqc]
 refine pkA (v := ?_) 10 (some 61) rfl rfl ?_ (by assumption) ?_
 rotate_left
 · intro w'
   go_simp
   try with_reducible rfl
 try simp only [Act.put, zqa, zqb, zqc]
 refine pickN 11 (some 62) rfl rfl (by kernel_rfl) (by kernel_rfl) (by kernel_rfl) (by decide) (fun _ _ _ h => h) (by rfl) (by assumption) ?_
 try simp only [Act.put, zqa, zqb, zqc]
 refine pickN 12 (some 63) rfl rfl (by kernel_rfl) (by kernel_rfl) (by kernel_rfl) (by decide) (fun _ _ _ h => h) (by rfl) (by assumption) ?_
 try simp only [Act.put, zqa, zqb, zqc]
 refine pickN 13 (some 64) rfl rfl (by kernel_rfl) (by kernel_rfl) (by kernel_rfl) (by decide) (fun _ _ _ h => h) (by rfl) (by assumption) ?_
 try simp only [Act.put, zqa, zqb, zqc]
 refine pickN 14 (some 65) rfl rfl (by kernel_rfl) (by kernel_rfl) (by kernel_rfl) (by decide) (fun _ _ _ h => h) (by rfl) (by assumption) ?_
 try simp only [Act.put, zqa, zqb, zqc]
 refine pickN 15 (some 66) rfl rfl (by kernel_rfl) (by kernel_rfl) (by kernel_rfl) (by decide) (fun _ _ _ h => h) (by rfl) (by assumption) ?_
 try simp only [Act.put, zqa, zqb, zqc]
 refine pickN 16 (some 67) rfl rfl (by kernel_rfl) (by kernel_rfl) (by kernel_rfl) (by decide) (fun _ _ _ h => h) (by rfl) (by assumption) ?_
 try simp only [Act.put, zqa, zqb, zqc]
 refine pickN 17 (some 68) rfl rfl (by kernel_rfl) (by kernel_rfl) (by kernel_rfl) (by decide) (fun _ _ _ h => h) (by rfl) (by assumption) ?_
 try simp only [Act.put, zqa, zqb, zqc]
 refine pickN 18 (some 69) rfl rfl (by kernel_rfl) (by kernel_rfl) (by kernel_rfl) (by decide) (fun _ _ _ h => h) (by rfl) (by assumption) ?_
 try simp only [Act.put, zqa, zqb, zqc]
 refine pickN 19 (some 70) rfl rfl (by kernel_rfl) (by kernel_rfl) (by kernel_rfl) (by decide) (fun _ _ _ h => h) (by rfl) (by assumption) ?_
 try simp only [Act.put, zqa, zqb, zqc]
 refine pkA (v := ?_) 20 (some 71) rfl rfl ?_ (by assumption) ?_
 rotate_left
 · intro w'
   go_simp
   try with_reducible rfl
 try simp only [Act.put, zqa, zqb, zqc]
 refine pkA (v := ?_) 21 (some 50) rfl rfl ?_ (by assumption) ?_
 rotate_left
 · intro w'
   go_simp
   try with_reducible rfl
 try simp only [Act.put, zqa, zqb, zqc]
 refine doneL (by kernel_rfl) ?_ _
 clear hHeld
 have yk := cl_ak AD.out
 rw [hk] at yk
 clear e1
 go_wp2_with fail
 clear yk
 have XE := hide (XD.out.below ((Below.refl _ _).drew))
 have AE := hide (AD.out.below ((Below.refl _ _).drew))
 have KE := hide (KD.out.bel ((Below.refl _ _).drew))
 clear XD AD KD ID
 have XD := hide XE.out
 have AD := hide AE.out
 have KD := hide KE.out
 clear XE AE KE
 have ID := hide XD.out.blk
 refine regionL 6 (fun w' => IsB w' d (dkL S s to v).toArray 105 ∧ IsB w' H (anL a).toArray 62) mixed ⟨ID.out, AD.out⟩ (fun hHeld => ?_)
 generalize WE.drew = WF at *
 refine pkA (v := ?_) 0 (some 7) rfl rfl ?_ (by assumption) ?_
 rotate_left
 · intro w'
   go_simp
   try with_reducible rfl
 try simp only [Act.put, zqa, zqb, zqc]
 refine pkA (v := ?_) 1 (some 8) rfl rfl ?_ (by assumption) ?_
 rotate_left
 · intro w'
   go_simp
   try with_reducible rfl
 try simp only [Act.put, zqa, zqb, zqc]
 refine pkA (v := ?_) 2 (some 9) rfl rfl ?_ (by assumption) ?_
 rotate_left
 · intro w'
   go_simp
   try with_reducible rfl
 try simp only [Act.put, zqa, zqb, zqc]
 refine pkA (v := ?_) 3 (some 10) rfl rfl ?_ (by assumption) ?_
 rotate_left
 · intro w'
   go_simp
   try with_reducible rfl
 try simp only [Act.put, zqa, zqb, zqc]
 refine pkT (v := .agg S.pt.cells) 4 (some 11) rfl rfl ?_ (by assumption) ?_
 · intro w' hSw
   obtain ⟨q0, q1⟩ := hSw
   exact exec_load rfl rfl (q_at q0)
 try simp only [Act.put, zqa, zqb, zqc]
 refine pkT (v := .agg (anL a).toArray) 5 (some 12) rfl rfl ?_ (by assumption) ?_
 · intro w' hSw
   obtain ⟨q0, q1⟩ := hSw
   exact exec_load rfl rfl (ld_ans q1)
 try simp only [Act.put, zqa, zqb, zqc]
 refine lateL (i := 6) (by kernel_rfl) rfl (by decide) (by kernel_rfl) (fun K hK => ?_)
 go_simp
 refine (keep_any2 d base S s L P.hL S.pt a WF ⟨to, v, hto, XD.out⟩).mono ?_
 rintro e w7 ⟨rfl, X7, K7⟩
 have D4 := hide X7
 have KK4 := hide (KD.out.tr K7)
 clear X7 K7
 refine hK.out _ _ ?_
 clear hK K
 try simp only [Act.put, zqa, zqb, zqc]
 refine doneL (by kernel_rfl) ?_ _
 clear hHeld
 have CT := hide (dagain_any d base S s (keepL L (S.wil S.pt a)) P.h0 P.h1 P.hd0 _ D4.out)
 clear P hto ID AD XD D4
 go_wp2_with fail
 refine CT.out.mono ?_
 rintro e w9 ⟨rfl, X9, K9⟩
 have F6 := hide X9
 have K7 := hide (KK4.out.tr K9)
 clear X9 K9 CT
 try go_wp2
 refine bodyPost_end (results_none rfl _ _ _) rfl ?_
 exact ⟨rfl, F6.out, K7.out⟩

set_option maxHeartbeats 2000000 in
set_option maxRecDepth 100000 in
theorem dtell_f (d base : Nat) (S : Sk) (s : Rf) (L : List Wl) (a : An) (hov : S.ov = false) (hl : S.lk = false) (hk1 : ¬a.k = 1) (hk3 : ¬a.k = 3) (P : Pre S L) (w : World) (X : Dk w d base S s L) : Calls Tryz.prog 38 #[.pointer (some ⟨d, 0, none⟩), .agg (anL a).toArray] w fun e' w' => e' = .returned (.tuple #[]) ∧ Dk w' d base (S.begin) s L ∧ Kd base w w' := by
 have b1 := (Below.refl w.heap.size w).alloc (Nat.le_refl _) (.cells (anL a).toArray 62)
 have A := hide (IsB.new w (anL a).toArray 62)
 obtain ⟨to, v, hto, X0⟩ := X
 have XX := hide (X0.below b1)
 have KK : Hid (Kd base w (w.alloc (.cells (anL a).toArray 62))) := Kd.of_below b1
 have y23 := c_ov XX.out.blk
 rw [hov] at y23
 have y15 := c_lk XX.out.blk
 rw [hl] at y15
 have mixed : Tryz.prog.follows .mixedOrders = true := by kernel_rfl
 have e1 : (a.k == 1) = false := by simpa using hk1
 have e3 : (a.k == 3) = false := by simpa using hk3
 go_enter Tryz.func38, Tryz.ntmps38
 go_wp2_with fail
 generalize (w.alloc (.cells (anL a).toArray 62)) = WA at *
 obtain ⟨H, hH⟩ : ∃ H, w.heap.size = H := ⟨_, rfl⟩
 rw [hH] at A ⊢
 clear hH y23 y15 b1 X0
 have XD := hide (XX.out.below ((Below.refl _ _).drew))
 have AD := hide (A.out.below ((Below.refl _ _).drew))
 have KD := hide (KK.out.bel ((Below.refl _ _).drew))
 clear XX A KK
 have ID := hide XD.out.blk
 refine regionL 17 (fun w' => IsB w' d (dkL S s to v).toArray 105 ∧ IsB w' H (anL a).toArray 62) mixed ⟨ID.out, AD.out⟩ (fun hHeld => ?_)
 generalize WA.drew = WD at *
 refine pkA (v := ?_) 0 (some 30) rfl rfl ?_ (by assumption) ?_
 rotate_left
 · intro w'
   go_simp
   try with_reducible rfl
 try simp only [Act.put, zqa, zqb, zqc]
 refine pkL (v := ?_) 1 (some 31) rfl rfl ?_ (by assumption) ?_
 rotate_left
 · intro w' hSw
   obtain ⟨q0, q1⟩ := hSw; have zk := cl_ak q1
   go_simp
   try with_reducible rfl
 try simp only [Act.put, zqa, zqb, zqc]
 refine pkA (v := .bool false) 2 (some 32) rfl rfl ?_ (by assumption) ?_
 · intro w'
   go_simp
   first | done | rw [e1] | simp [e1]
 try simp only [Act.put, zqa, zqb, zqc]
 refine pkA (v := ?_) 3 (some 33) rfl rfl ?_ (by assumption) ?_
 rotate_left
 · intro w'
   go_simp
   try with_reducible rfl
 try simp only [Act.put, zqa, zqb, zqc]
 refine pickN 4 (some 34) rfl rfl (by kernel_rfl) (by kernel_rfl) (by kernel_rfl) (by decide) (fun _ _ _ h => h) (by rfl) (by assumption) ?_
 try simp only [Act.put, zqa, zqb, zqc]
 refine pickN 5 (some 35) rfl rfl (by kernel_rfl) (by kernel_rfl) (by kernel_rfl) (by decide) (fun _ _ _ h => h) (by rfl) (by assumption) ?_
 try simp only [Act.put, zqa, zqb, zqc]
 refine pickN 6 (some 36) rfl rfl (by kernel_rfl) (by kernel_rfl) (by kernel_rfl) (by decide) (fun _ _ _ h => h) (by rfl) (by assumption) ?_
 try simp only [Act.put, zqa, zqb, zqc]
 refine pickN 7 (some 37) rfl rfl (by kernel_rfl) (by kernel_rfl) (by kernel_rfl) (by decide) (fun _ _ _ h => h) (by rfl) (by assumption) ?_
 try simp only [Act.put, zqa, zqb, zqc]
 refine pickN 8 (some 38) rfl rfl (by kernel_rfl) (by kernel_rfl) (by kernel_rfl) (by decide) (fun _ _ _ h => h) (by rfl) (by assumption) ?_
 try simp only [Act.put, zqa, zqb, zqc]
 refine pickN 9 (some 39) rfl rfl (by kernel_rfl) (by kernel_rfl) (by kernel_rfl) (by decide) (fun _ _ _ h => h) (by rfl) (by assumption) ?_
 try simp only [Act.put, zqa, zqb, zqc]
 refine pickN 10 (some 40) rfl rfl (by kernel_rfl) (by kernel_rfl) (by kernel_rfl) (by decide) (fun _ _ _ h => h) (by rfl) (by assumption) ?_
 try simp only [Act.put, zqa, zqb, zqc]
 refine pickN 11 (some 41) rfl rfl (by kernel_rfl) (by kernel_rfl) (by kernel_rfl) (by decide) (fun _ _ _ h => h) (by rfl) (by assumption) ?_
 try simp only [Act.put, zqa, zqb, zqc]
 refine pickN 12 (some 42) rfl rfl (by kernel_rfl) (by kernel_rfl) (by kernel_rfl) (by decide) (fun _ _ _ h => h) (by rfl) (by assumption) ?_
 try simp only [Act.put, zqa, zqb, zqc]
 refine pickN 13 (some 43) rfl rfl (by kernel_rfl) (by kernel_rfl) (by kernel_rfl) (by decide) (fun _ _ _ h => h) (by rfl) (by assumption) ?_
 try simp only [Act.put, zqa, zqb, zqc]
 refine pickN 14 (some 44) rfl rfl (by kernel_rfl) (by kernel_rfl) (by kernel_rfl) (by decide) (fun _ _ _ h => h) (by rfl) (by assumption) ?_
 try simp only [Act.put, zqa, zqb, zqc]
 refine pkA (v := ?_) 15 (some 45) rfl rfl ?_ (by assumption) ?_
 rotate_left
 · intro w'
   go_simp
   try with_reducible rfl
 try simp only [Act.put, zqa, zqb, zqc]
 refine pkA (v := ?_) 16 (some 29) rfl rfl ?_ (by assumption) ?_
 rotate_left
 · intro w'
   go_simp
   try with_reducible rfl
 try simp only [Act.put, zqa, zqb, zqc]
 refine doneL (by kernel_rfl) ?_ _
 clear hHeld
 have XE := hide (XD.out.below ((Below.refl _ _).drew))
 have AE := hide (AD.out.below ((Below.refl _ _).drew))
 have KE := hide (KD.out.bel ((Below.refl _ _).drew))
 clear XD AD KD ID
 have XD := hide XE.out
 have AD := hide AE.out
 have KD := hide KE.out
 clear XE AE KE
 have ID := hide XD.out.blk
 go_wp2_with fail
 refine regionL 22 (fun w' => IsB w' d (dkL S s to v).toArray 105 ∧ IsB w' H (anL a).toArray 62) mixed ⟨ID.out, AD.out⟩ (fun hHeld => ?_)
 generalize WD.drew = WE at *
 refine pkA (v := ?_) 0 (some 51) rfl rfl ?_ (by assumption) ?_
 rotate_left
 · intro w'
   go_simp
   try with_reducible rfl
 try simp only [Act.put, zqa, zqb, zqc]
 refine pkL (v := ?_) 1 (some 52) rfl rfl ?_ (by assumption) ?_
 rotate_left
 · intro w' hSw
   obtain ⟨q0, q1⟩ := hSw; have zk := cl_ak q1
   go_simp
   try with_reducible rfl
 try simp only [Act.put, zqa, zqb, zqc]
 refine pkA (v := .bool false) 2 (some 53) rfl rfl ?_ (by assumption) ?_
 · intro w'
   go_simp
   first | done | rw [e1] | simp [e1]
 try simp only [Act.put, zqa, zqb, zqc]
 refine pkA (v := ?_) 3 (some 54) rfl rfl ?_ (by assumption) ?_
 rotate_left
 · intro w'
   go_simp
   try with_reducible rfl
 try simp only [Act.put, zqa, zqb, zqc]
 refine pickN 4 (some 55) rfl rfl (by kernel_rfl) (by kernel_rfl) (by kernel_rfl) (by decide) (fun _ _ _ h => h) (by rfl) (by assumption) ?_
 try simp only [Act.put, zqa, zqb, zqc]
 refine pickN 5 (some 56) rfl rfl (by kernel_rfl) (by kernel_rfl) (by kernel_rfl) (by decide) (fun _ _ _ h => h) (by rfl) (by assumption) ?_
 try simp only [Act.put, zqa, zqb, zqc]
 refine pickN 6 (some 57) rfl rfl (by kernel_rfl) (by kernel_rfl) (by kernel_rfl) (by decide) (fun _ _ _ h => h) (by rfl) (by assumption) ?_
 try simp only [Act.put, zqa, zqb, zqc]
 refine pickN 7 (some 58) rfl rfl (by kernel_rfl) (by kernel_rfl) (by kernel_rfl) (by decide) (fun _ _ _ h => h) (by rfl) (by assumption) ?_
 try simp only [Act.put, zqa, zqb, zqc]
 refine pickN 8 (some 59) rfl rfl (by kernel_rfl) (by kernel_rfl) (by kernel_rfl) (by decide) (fun _ _ _ h => h) (by rfl) (by assumption) ?_
 try simp only [Act.put, zqa, zqb, zqc]
 refine pkA (v := ?_) 9 (some 60) rfl rfl ?_ (by assumption) ?_
 rotate_left
 · intro w'
   go_simp
   try with_reducible rfl
 try simp only [Act.put, zqa, zqb, zqc]
 refine pkA (v := ?_) 10 (some 61) rfl rfl ?_ (by assumption) ?_
 rotate_left
 · intro w'
   go_simp
   try with_reducible rfl
 try simp only [Act.put, zqa, zqb, zqc]
 refine pickN 11 (some 62) rfl rfl (by kernel_rfl) (by kernel_rfl) (by kernel_rfl) (by decide) (fun _ _ _ h => h) (by rfl) (by assumption) ?_
 try simp only [Act.put, zqa, zqb, zqc]
 refine pickN 12 (some 63) rfl rfl (by kernel_rfl) (by kernel_rfl) (by kernel_rfl) (by decide) (fun _ _ _ h => h) (by rfl) (by assumption) ?_
 try simp only [Act.put, zqa, zqb, zqc]
 refine pickN 13 (some 64) rfl rfl (by kernel_rfl) (by kernel_rfl) (by kernel_rfl) (by decide) (fun _ _ _ h => h) (by rfl) (by assumption) ?_
 try simp only [Act.put, zqa, zqb, zqc]
 refine pickN 14 (some 65) rfl rfl (by kernel_rfl) (by kernel_rfl) (by kernel_rfl) (by decide) (fun _ _ _ h => h) (by rfl) (by assumption) ?_
 try simp only [Act.put, zqa, zqb, zqc]
 refine pickN 15 (some 66) rfl rfl (by kernel_rfl) (by kernel_rfl) (by kernel_rfl) (by decide) (fun _ _ _ h => h) (by rfl) (by assumption) ?_
 try simp only [Act.put, zqa, zqb, zqc]
 refine pickN 16 (some 67) rfl rfl (by kernel_rfl) (by kernel_rfl) (by kernel_rfl) (by decide) (fun _ _ _ h => h) (by rfl) (by assumption) ?_
 try simp only [Act.put, zqa, zqb, zqc]
 refine pickN 17 (some 68) rfl rfl (by kernel_rfl) (by kernel_rfl) (by kernel_rfl) (by decide) (fun _ _ _ h => h) (by rfl) (by assumption) ?_
 try simp only [Act.put, zqa, zqb, zqc]
 refine pickN 18 (some 69) rfl rfl (by kernel_rfl) (by kernel_rfl) (by kernel_rfl) (by decide) (fun _ _ _ h => h) (by rfl) (by assumption) ?_
 try simp only [Act.put, zqa, zqb, zqc]
 refine pickN 19 (some 70) rfl rfl (by kernel_rfl) (by kernel_rfl) (by kernel_rfl) (by decide) (fun _ _ _ h => h) (by rfl) (by assumption) ?_
 try simp only [Act.put, zqa, zqb, zqc]
 refine pkA (v := ?_) 20 (some 71) rfl rfl ?_ (by assumption) ?_
 rotate_left
 · intro w'
   go_simp
   try with_reducible rfl
 try simp only [Act.put, zqa, zqb, zqc]
 refine pkA (v := ?_) 21 (some 50) rfl rfl ?_ (by assumption) ?_
 rotate_left
 · intro w'
   go_simp
   try with_reducible rfl
 try simp only [Act.put, zqa, zqb, zqc]
 refine doneL (by kernel_rfl) ?_ _
 clear hHeld
 have yk := cl_ak AD.out
 have CT := hide (dagain_any d base S s L P.h0 P.h1 P.hd0 _ ⟨to, v, hto, XD.out⟩)
 clear P hto ID AD XD
 go_wp2_with fail
 refine CT.out.mono ?_
 rintro e w9 ⟨rfl, X9, K9⟩
 have F6 := hide X9
 have K7 := hide (KD.out.tr K9)
 clear X9 K9 CT
 try go_wp2
 refine bodyPost_end (results_none rfl _ _ _) rfl ?_
 exact ⟨rfl, F6.out, K7.out⟩

theorem dtell_any (d base : Nat) (S : Sk) (s : Rf) (L : List Wl) (a : An) (P : Pre S L) (w : World) (X : Dk w d base S s L) : Calls Tryz.prog 38 #[.pointer (some ⟨d, 0, none⟩), .agg (anL a).toArray] w fun e' w' => e' = .returned (.tuple #[]) ∧ Dk w' d base (S.tell (L.map Wl.pr) a).1 s (S.tellL L a) ∧ Kd base w w' := by
 cases hov : S.ov with
 | true =>
   rw [show (S.tell (L.map Wl.pr) a).1 = S by unfold Sk.tell; rw [if_pos hov], show S.tellL L a = L by unfold Sk.tellL; rw [if_pos hov]]
   exact dtell_over d base S s L a hov w X
 | false =>
   have e0 : ¬S.ov = true := by rw [hov]; decide
   cases hl : S.lk with
   | true =>
     rw [show S.tell (L.map Wl.pr) a = S.hearA (L.map Wl.pr) a by unfold Sk.tell; rw [if_neg e0, if_pos hl]]
     exact dtell_looks d base S s L a hov hl P w X
   | false =>
     have e2 : ¬S.lk = true := by rw [hl]; decide
     rw [show S.tell (L.map Wl.pr) a = S.hearH (L.map Wl.pr) a by unfold Sk.tell; rw [if_neg e0, if_neg e2], show S.tellL L a = if a.k = 3 then keepL L (S.wil S.pt a) else L by unfold Sk.tellL Sk.to; rw [if_neg e0, if_neg e2]]
     clear e0 e2
     unfold Sk.hearH
     by_cases hk : a.k = 1
     · rw [if_pos hk, if_neg (show ¬a.k = 3 by omega)]
       cases hc : klt (S.pt.rk, S.pt.kn) (S.tr, S.tn) with
       | true => rw [if_pos rfl]; exact dtell_a d base S s L a hov hl hk hc P w X
       | false =>
         rw [if_neg (by decide)]
         show Calls _ _ _ _ fun e' w' => _ ∧ Dk w' d base (S.left a.l) s L ∧ _
         unfold Sk.left
         rcases ck_cases a.l.rk a.l.kn with ⟨hd, -⟩ | ⟨hd, -⟩
         · rw [if_neg (fun c => by rw [hd] at c; cases c.2)]; exact dtell_c d base S s L a hov hl hk hc hd P w X
         · cases he : rlt a.l S.pt with
           | true => rw [if_pos ⟨rfl, hd⟩]; exact dtell_b d base S s L a hov hl hk hc hd he P w X
           | false => rw [if_neg (fun c => by cases c.1)]; exact dtell_d d base S s L a hov hl hk hc hd he P w X
     · rw [if_neg hk]
       by_cases hk3 : a.k = 3
       · rw [if_pos hk3, if_pos hk3]; exact dtell_e d base S s L a hov hl hk3 P w X
       · rw [if_neg hk3, if_neg hk3]; exact dtell_f d base S s L a hov hl hk hk3 P w X

end Go.Proofs.YtokehogcenjefaaGreatDoor
