/- hearHere, hearAhead. -/
import Derived.Test.YtokehogcenjefaaGreatDoorSF
namespace Go.Proofs.YtokehogcenjefaaGreatDoor
open Go.RowKit Go.Maps Go.ChangeMaps

/-- What is true of a search, and of its wills. -/
structure SOk (S : Sk) (ws : List (Pl × Rf)) : Prop where
 n0 : 0 ≤ S.n
 n1 : S.n ≤ 64
 wr : rt S.wl S.wb = true
 w0 : 0 ≤ S.wb
 hr : rt S.hd.ln S.hd.bt = true
 hb : 0 ≤ S.hd.bt
 hi : (Lit.int .i64 S.hd.id).wf = true
 pi : (Lit.int .i64 S.pt.id).wf = true
 ai : (Lit.int .i64 S.ah.id).wf = true
 ri : (Lit.int .i64 S.rr.id).wf = true
 wi : ∀ x ∈ ws, (Lit.int .i64 x.2.id).wf = true
/-- .. of an answer. -/
structure AOk (a : An) : Prop where
 li : (Lit.int .i64 a.l.id).wf = true
 ri : (Lit.int .i64 a.r.id).wf = true
theorem Ranks.kp {w w' : World} {b m : Nat} {S : Sk} {ws : List (Pl × Rf)} (h : Ranks w) (k : Kp [b, m] w w') (X : SkAt w b m S ws) : Ranks w' := by
 have hg : (0 : Nat) < w.heap.size := lt_of_cell h.1
 have hne : (0 : Nat) ∉ [b, m] := by
   intro hm
   simp at hm
   rcases hm with e | e
   · have h1 := h.2.1
     rw [e, X.blk.cell 1] at h1
     simp [skL] at h1
   · have h1 := h.1
     obtain ⟨es, cl, hh, -⟩ := X.map
     rw [← e] at hh
     simp [World.cell?, hh] at h1
 have e := k.block _ hg hne
 have hc : ∀ o, w'.cell? ⟨0, o, none⟩ = w.cell? ⟨0, o, none⟩ := fun o => by simp [World.cell?, e]
 unfold Ranks at *
 simpa only [hc] using h
theorem zr_wf : (Lit.int .i64 zr.id).wf = true := by decide
theorem SOk.okc {S : Sk} {ws : List (Pl × Rf)} (h : SOk S ws) {d : Rf} (hd : (Lit.int .i64 d.id).wf = true) : okC (S.plc d) := ⟨hd, (rt_wf h.wr h.w0).1, (rt_wf h.wr h.w0).2⟩
theorem putW_mem {ws : List (Pl × Rf)} {v : Pl} {r : Rf} {x : Pl × Rf} (hx : x ∈ putW ws v r) : x ∈ ws ∨ x.2 = r := by
 unfold putW at hx
 split at hx
 · obtain ⟨y, hy, e⟩ := List.mem_map.1 hx
   split at e
   · right; rw [← e]
   · left; rw [← e]; exact hy
 · rcases List.mem_append.1 hx with g | g
   · exact Or.inl g
   · simp at g; right; rw [g]
theorem SOk.put {S : Sk} {ws : List (Pl × Rf)} (h : SOk S ws) {v : Pl} {r : Rf} (hr : (Lit.int .i64 r.id).wf = true) : SOk S (putW ws v r) := ⟨h.n0, h.n1, h.wr, h.w0, h.hr, h.hb, h.hi, h.pi, h.ai, h.ri, fun x hx => by
 rcases putW_mem hx with g | g
 · exact h.wi x g
 · rw [g]; exact hr⟩
theorem SOk.busy {S : Sk} {ws : List (Pl × Rf)} (h : SOk S ws) : SOk S.busy ws := ⟨h.n0, h.n1, h.wr, h.w0, h.hr, h.hb, h.hi, h.pi, h.ai, zr_wf, h.wi⟩
theorem SOk.begin {S : Sk} {ws : List (Pl × Rf)} (h : SOk S ws) : SOk S.begin ws := by
 unfold Sk.begin
 split
 · exact h.busy
 · rename_i hn
   have := h.n0
   have := h.n1
   exact ⟨by show 0 ≤ S.n + 1; omega, by show S.n + 1 ≤ 64; omega, h.hr, h.hb, h.hr, h.hb, h.hi, h.hi, zr_wf, h.ri, h.wi⟩
theorem SOk.passed {S : Sk} {ws : List (Pl × Rf)} (h : SOk S ws) : SOk S.passed ws := by
 unfold Sk.passed
 split
 · exact h.busy
 · rename_i hn
   have := h.n0
   have := h.n1
   exact ⟨by show 0 ≤ S.n + 1; omega, by show S.n + 1 ≤ 64; omega, h.wr, h.w0, h.hr, h.hb, h.hi, h.pi, zr_wf, zr_wf, h.wi⟩
theorem SOk.left {S : Sk} {ws : List (Pl × Rf)} (h : SOk S ws) {l : Rf} (hl : (Lit.int .i64 l.id).wf = true) : SOk (S.left l) ws := by
 unfold Sk.left
 split
 · exact ⟨h.n0, h.n1, h.wr, h.w0, h.hr, h.hb, h.hi, hl, zr_wf, h.ri, h.wi⟩
 · exact h.begin
theorem liv_wf {ws : List (Pl × Rf)} {x y : Int} (hw : ∀ x ∈ ws, (Lit.int .i64 x.2.id).wf = true) : ∀ (k : Nat) (last right r : Rf), lvM ws last right ≤ k → (Lit.int .i64 right.id).wf = true → liv ws x y last right = some r → (Lit.int .i64 r.id).wf = true := by
 intro k
 induction k with
 | zero =>
   intro last right r hk hi h
   by_cases hg : rlt last right = true ∧ ckE right.rk right.kn = 0
   · cases hl : look ws (right.id, x, y) with
     | none => rw [liv_none hg hl] at h; injection h with h; rw [← h]; exact hi
     | some q => have := lvM_lt hg.1 hl; omega
   · rw [liv_bad hg] at h; cases h
 | succ k ih =>
   intro last right r hk hi h
   by_cases hg : rlt last right = true ∧ ckE right.rk right.kn = 0
   · cases hl : look ws (right.id, x, y) with
     | none => rw [liv_none hg hl] at h; injection h with h; rw [← h]; exact hi
     | some q =>
       have := lvM_lt hg.1 hl
       rw [liv_some hg hl] at h
       exact ih right q r (by omega) (hw _ (look_some hl)) h
   · rw [liv_bad hg] at h; cases h
theorem rt_pre {n b : Int} (h : rt n b = true) (hb : 0 ≤ b) (hn : 0 < n) : rt (n - 1) ((pre n.toNat b.toNat (n - 1).toNat : Nat) : Int) = true := by
 obtain ⟨h0, h1, h2⟩ := of_decide_eq_true h
 refine decide_eq_true ⟨by omega, by omega, ?_⟩
 unfold pre
 have e : n.toNat - (n - 1).toNat = 1 := by omega
 rw [e]
 have h3 : b.toNat < 2 ^ n.toNat := by
   have h4 : ((b.toNat : Nat) : Int) < ((2 ^ n.toNat : Nat) : Int) := by
     rw [Int.toNat_of_nonneg hb]
     simpa using h2
   exact_mod_cast h4
 have h5 : 2 ^ n.toNat = 2 ^ (n - 1).toNat * 2 := by
   rw [show n.toNat = (n - 1).toNat + 1 by omega, Nat.pow_succ]
 have h6 : b.toNat / 2 ^ 1 < 2 ^ (n - 1).toNat := by
   rw [Nat.pow_one]
   omega
 have h7 : ((b.toNat / 2 ^ 1 : Nat) : Int) < ((2 ^ (n - 1).toNat : Nat) : Int) := by omega
 simpa using h7
theorem SOk.right {S : Sk} {ws : List (Pl × Rf)} (h : SOk S ws) {r : Rf} (hl : (Lit.int .i64 r.id).wf = true) : SOk (S.right ws r) ws := by
 unfold Sk.right
 cases hE : liv ws S.wl S.wb S.pt r with
 | none => exact h.begin
 | some x =>
   have hx := liv_wf h.wi _ _ _ _ (Nat.le_refl _) hl hE
   show SOk (S.next x) ws
   unfold Sk.next
   split
   · exact ⟨h.n0, h.n1, h.wr, h.w0, h.hr, h.hb, h.hi, h.pi, hx, h.ri, h.wi⟩
   · split
     · rename_i hp
       exact ⟨h.n0, h.n1, rt_pre h.wr h.w0 hp, by show (0 : Int) ≤ ((pre _ _ _ : Nat) : Int); omega, h.hr, h.hb, h.hi, h.pi, zr_wf, h.ri, h.wi⟩
     · exact ⟨h.n0, h.n1, h.wr, h.w0, h.hr, h.hb, h.hi, h.pi, h.ai, hx, h.wi⟩
/-- The peer on which it stands has answered. -/
def Sk.hearH (S : Sk) (ws : List (Pl × Rf)) (a : An) : Sk × List (Pl × Rf) := if a.k = 1 then (if klt (S.pt.rk, S.pt.kn) (S.tr, S.tn) = true then S.right ws a.r else S.left a.l, ws) else if a.k = 3 then (S.begin, putW ws (S.plc S.pt) a.r) else (S.begin, ws)
def Sk.stand (S : Sk) (r : Rf) : Sk := { S with pt := r, ah := zr, lk := false }
theorem SOk.stand {S : Sk} {ws : List (Pl × Rf)} (h : SOk S ws) {r : Rf} (hl : (Lit.int .i64 r.id).wf = true) : SOk (S.stand r) ws := ⟨h.n0, h.n1, h.wr, h.w0, h.hr, h.hb, h.hi, hl, zr_wf, h.ri, h.wi⟩
/-- The one that it looks at has answered. -/
def Sk.hearA (S : Sk) (ws : List (Pl × Rf)) (a : An) : Sk × List (Pl × Rf) := if a.k = 1 then ((S.stand S.ah).right ws a.r, ws) else if a.k = 3 then (S.passed, putW ws (S.plc S.ah) a.r) else (S.begin, ws)
theorem SOk.hearH {S : Sk} {ws : List (Pl × Rf)} (h : SOk S ws) {a : An} (ha : AOk a) : SOk (S.hearH ws a).1 (S.hearH ws a).2 := by
 unfold Sk.hearH
 split
 · split
   · exact h.right ha.ri
   · exact h.left ha.li
 · split
   · exact h.begin.put ha.ri
   · exact h.begin
theorem SOk.hearA {S : Sk} {ws : List (Pl × Rf)} (h : SOk S ws) {a : An} (ha : AOk a) : SOk (S.hearA ws a).1 (S.hearA ws a).2 := by
 unfold Sk.hearA
 split
 · exact (h.stand h.ai).right ha.ri
 · split
   · exact h.passed.put ha.ri
   · exact h.begin

set_option maxHeartbeats 2000000 in
set_option maxRecDepth 100000 in
theorem hearH_right (b m : Nat) (S : Sk) (ws : List (Pl × Rf)) (a : An) (ho : SOk S ws) (ha : AOk a) (hk : a.k = 1) (hL : klt (S.pt.rk, S.pt.kn) (S.tr, S.tn) = true) (w : World) (hR : Ranks w) (X : SkAt w b m S ws) : Calls Tryz.prog 146 #[.pointer (some ⟨b, 0, none⟩), .agg (anL a).toArray] w fun e w' => e = .returned (.tuple #[]) ∧ SkAt w' b m (S.right ws a.r) ws ∧ Kp [b, m] w w' := by
 have mixed : Tryz.prog.follows .mixedOrders = true := by kernel_rfl
 have b1 := (Below.refl w.heap.size w).alloc (Nat.le_refl _) (.cells (anL a).toArray 62)
 have AB := hide (IsB.new w (anL a).toArray 62)
 have X1 := hide (X.below b1)
 have HR := hide (hR.below b1)
 have KZ : Hid (Kp [b, m] w (w.alloc (.cells (anL a).toArray 62))) := Kp.of_below b1
 have y0 := cl_ak AB.out
 have HX0 : Hid (b < w.heap.size ∧ m < w.heap.size) := ⟨X.blk.lt, X.map.lt⟩
 replace ho := hide ho
 replace ha := hide ha
 clear b1 X hR
 rw [hk] at y0
 clear hk
 have HL := hide hL
 clear hL
 go_enter Tryz.func146, Tryz.ntmps146
 go_wp2_with fail
 generalize (w.alloc (.cells (anL a).toArray 62)) = W1 at *
 generalize w.heap.size = H at *
 have XD := hide (X1.out.below ((Below.refl _ _).drew))
 have AD := hide (AB.out.below ((Below.refl _ _).drew))
 have HRD := hide (HR.out.below ((Below.refl _ _).drew))
 have KD := hide (KZ.out.bel ((Below.refl _ _).drew))
 clear y0 X1 AB HR KZ
 refine regionL 10 (fun w' => IsB w' b (skL S (.map (some m))).toArray 171 ∧ IsB w' H (anL a).toArray 62) mixed ⟨XD.out.blk, AD.out⟩ (fun hHeld => ?_)
 generalize W1.drew = WD at *
 refine pkA (v := ?_) 0 (some 10) rfl rfl ?_ (by assumption) ?_
 rotate_left
 · intro w'
   go_simp
   try with_reducible rfl
 try simp only [Act.put, zqa, zqb, zqc]
 refine pkA (v := ?_) 1 (some 11) rfl rfl ?_ (by assumption) ?_
 rotate_left
 · intro w'
   go_simp
   try with_reducible rfl
 try simp only [Act.put, zqa, zqb, zqc]
 refine pkA (v := ?_) 2 (some 12) rfl rfl ?_ (by assumption) ?_
 rotate_left
 · intro w'
   go_simp
   try with_reducible rfl
 try simp only [Act.put, zqa, zqb, zqc]
 refine pkA (v := ?_) 3 (some 13) rfl rfl ?_ (by assumption) ?_
 rotate_left
 · intro w'
   go_simp
   try with_reducible rfl
 try simp only [Act.put, zqa, zqb, zqc]
 refine pkL (v := .agg #[.int .i64 S.pt.rk, .int .u64 S.pt.kn]) 4 (some 14) rfl rfl ?_ (by assumption) ?_
 · intro w' hSw
   obtain ⟨q0, q1⟩ := hSw
   exact exec_load rfl rfl (ld_herekey q0)
 try simp only [Act.put, zqa, zqb, zqc]
 refine pkA (v := ?_) 5 (some 15) rfl rfl ?_ (by assumption) ?_
 rotate_left
 · intro w'
   go_simp
   try with_reducible rfl
 try simp only [Act.put, zqa, zqb, zqc]
 refine pkA (v := ?_) 6 (some 16) rfl rfl ?_ (by assumption) ?_
 rotate_left
 · intro w'
   go_simp
   try with_reducible rfl
 try simp only [Act.put, zqa, zqb, zqc]
 refine pkA (v := ?_) 7 (some 17) rfl rfl ?_ (by assumption) ?_
 rotate_left
 · intro w'
   go_simp
   try with_reducible rfl
 try simp only [Act.put, zqa, zqb, zqc]
 refine pkL (v := .agg #[.int .i64 S.tr, .int .u64 S.tn]) 8 (some 18) rfl rfl ?_ (by assumption) ?_
 · intro w' hSw
   obtain ⟨q0, q1⟩ := hSw
   exact exec_load rfl rfl (ld_target q0)
 try simp only [Act.put, zqa, zqb, zqc]
 refine oneL (i := 9) (by kernel_rfl) rfl (fun K hK => ?_)
 go_simp
 refine (kLess_any S.pt.rk S.pt.kn S.tr S.tn WD).mono ?_
 rintro e w4 ⟨rfl, hg⟩
 rw [HL.out]
 have X4 := hide (XD.out.below hg.below)
 have A4 := hide (AD.out.below hg.below)
 have HR4 := hide (HRD.out.below hg.below)
 have K4 := hide (KD.out.bel hg.below)
 clear hg
 refine hK.out _ _ ?_ ?_
 · exact ⟨X4.out.blk, A4.out⟩
 clear hK K
 try simp only [Act.put, zqa, zqb, zqc]
 clear hHeld
 have hHeld : (fun w' => IsB w' b (skL S (.map (some m))).toArray 171 ∧ IsB w' H (anL a).toArray 62) w4 := ⟨X4.out.blk, A4.out⟩
 refine doneL (by kernel_rfl) ?_ _
 clear hHeld
 have LA := hide (ld_ar A4.out)
 have CT := hide (goRight_any b m S ws a.r ha.out.ri ho.out.wi ho.out.wr ho.out.w0 ho.out.n0 ho.out.n1 w4 HR4.out X4.out)
 go_wp2_with (first | (focus ((with_reducible refine wpList_load_w ?_ 29 (.tmp 21) ?_ ?_ LA.out ?_); rotate_left; rfl; rfl; rotate_left; rfl)))
 refine CT.out.mono ?_
 rintro e w6 ⟨rfl, X6, K6⟩
 have F6 := hide X6
 have K7 := hide (K4.out.tr K6)
 clear CT X6 K6 LA
 go_wp2
 refine bodyPost_end (results_none rfl _ _ _) rfl ?_
 exact ⟨rfl, F6.out, K7.out⟩

set_option maxHeartbeats 2000000 in
set_option maxRecDepth 100000 in
theorem hearH_left (b m : Nat) (S : Sk) (ws : List (Pl × Rf)) (a : An) (ho : SOk S ws) (ha : AOk a) (hk : a.k = 1) (hL : klt (S.pt.rk, S.pt.kn) (S.tr, S.tn) = false) (w : World) (hR : Ranks w) (X : SkAt w b m S ws) : Calls Tryz.prog 146 #[.pointer (some ⟨b, 0, none⟩), .agg (anL a).toArray] w fun e w' => e = .returned (.tuple #[]) ∧ SkAt w' b m (S.left a.l) ws ∧ Kp [b, m] w w' := by
 have mixed : Tryz.prog.follows .mixedOrders = true := by kernel_rfl
 have b1 := (Below.refl w.heap.size w).alloc (Nat.le_refl _) (.cells (anL a).toArray 62)
 have AB := hide (IsB.new w (anL a).toArray 62)
 have X1 := hide (X.below b1)
 have HR := hide (hR.below b1)
 have KZ : Hid (Kp [b, m] w (w.alloc (.cells (anL a).toArray 62))) := Kp.of_below b1
 have y0 := cl_ak AB.out
 have HX0 : Hid (b < w.heap.size ∧ m < w.heap.size) := ⟨X.blk.lt, X.map.lt⟩
 replace ho := hide ho
 replace ha := hide ha
 clear b1 X hR
 rw [hk] at y0
 clear hk
 have HL := hide hL
 clear hL
 go_enter Tryz.func146, Tryz.ntmps146
 go_wp2_with fail
 generalize (w.alloc (.cells (anL a).toArray 62)) = W1 at *
 generalize w.heap.size = H at *
 have XD := hide (X1.out.below ((Below.refl _ _).drew))
 have AD := hide (AB.out.below ((Below.refl _ _).drew))
 have HRD := hide (HR.out.below ((Below.refl _ _).drew))
 have KD := hide (KZ.out.bel ((Below.refl _ _).drew))
 clear y0 X1 AB HR KZ
 refine regionL 10 (fun w' => IsB w' b (skL S (.map (some m))).toArray 171 ∧ IsB w' H (anL a).toArray 62) mixed ⟨XD.out.blk, AD.out⟩ (fun hHeld => ?_)
 generalize W1.drew = WD at *
 refine pkA (v := ?_) 0 (some 10) rfl rfl ?_ (by assumption) ?_
 rotate_left
 · intro w'
   go_simp
   try with_reducible rfl
 try simp only [Act.put, zqa, zqb, zqc]
 refine pkA (v := ?_) 1 (some 11) rfl rfl ?_ (by assumption) ?_
 rotate_left
 · intro w'
   go_simp
   try with_reducible rfl
 try simp only [Act.put, zqa, zqb, zqc]
 refine pkA (v := ?_) 2 (some 12) rfl rfl ?_ (by assumption) ?_
 rotate_left
 · intro w'
   go_simp
   try with_reducible rfl
 try simp only [Act.put, zqa, zqb, zqc]
 refine pkA (v := ?_) 3 (some 13) rfl rfl ?_ (by assumption) ?_
 rotate_left
 · intro w'
   go_simp
   try with_reducible rfl
 try simp only [Act.put, zqa, zqb, zqc]
 refine pkL (v := .agg #[.int .i64 S.pt.rk, .int .u64 S.pt.kn]) 4 (some 14) rfl rfl ?_ (by assumption) ?_
 · intro w' hSw
   obtain ⟨q0, q1⟩ := hSw
   exact exec_load rfl rfl (ld_herekey q0)
 try simp only [Act.put, zqa, zqb, zqc]
 refine pkA (v := ?_) 5 (some 15) rfl rfl ?_ (by assumption) ?_
 rotate_left
 · intro w'
   go_simp
   try with_reducible rfl
 try simp only [Act.put, zqa, zqb, zqc]
 refine pkA (v := ?_) 6 (some 16) rfl rfl ?_ (by assumption) ?_
 rotate_left
 · intro w'
   go_simp
   try with_reducible rfl
 try simp only [Act.put, zqa, zqb, zqc]
 refine pkA (v := ?_) 7 (some 17) rfl rfl ?_ (by assumption) ?_
 rotate_left
 · intro w'
   go_simp
   try with_reducible rfl
 try simp only [Act.put, zqa, zqb, zqc]
 refine pkL (v := .agg #[.int .i64 S.tr, .int .u64 S.tn]) 8 (some 18) rfl rfl ?_ (by assumption) ?_
 · intro w' hSw
   obtain ⟨q0, q1⟩ := hSw
   exact exec_load rfl rfl (ld_target q0)
 try simp only [Act.put, zqa, zqb, zqc]
 refine oneL (i := 9) (by kernel_rfl) rfl (fun K hK => ?_)
 go_simp
 refine (kLess_any S.pt.rk S.pt.kn S.tr S.tn WD).mono ?_
 rintro e w4 ⟨rfl, hg⟩
 rw [HL.out]
 have X4 := hide (XD.out.below hg.below)
 have A4 := hide (AD.out.below hg.below)
 have HR4 := hide (HRD.out.below hg.below)
 have K4 := hide (KD.out.bel hg.below)
 clear hg
 refine hK.out _ _ ?_ ?_
 · exact ⟨X4.out.blk, A4.out⟩
 clear hK K
 try simp only [Act.put, zqa, zqb, zqc]
 clear hHeld
 have hHeld : (fun w' => IsB w' b (skL S (.map (some m))).toArray 171 ∧ IsB w' H (anL a).toArray 62) w4 := ⟨X4.out.blk, A4.out⟩
 refine doneL (by kernel_rfl) ?_ _
 clear hHeld
 have LA := hide (ld_al A4.out)
 have CT := hide (goLeft_any b m S ws a.l ho.out.n0 ho.out.n1 w4 HR4.out X4.out)
 go_wp2_with (first | (focus ((with_reducible refine wpList_load_w ?_ 29 (.tmp 25) ?_ ?_ LA.out ?_); rotate_left; rfl; rfl; rotate_left; rfl)))
 refine CT.out.mono ?_
 rintro e w6 ⟨rfl, X6, K6⟩
 have F6 := hide X6
 have K7 := hide (K4.out.tr K6)
 clear CT X6 K6 LA
 go_wp2
 refine bodyPost_end (results_none rfl _ _ _) rfl ?_
 exact ⟨rfl, F6.out, K7.out⟩

set_option maxHeartbeats 2000000 in
set_option maxRecDepth 100000 in
theorem hearH_dead (b m : Nat) (S : Sk) (ws : List (Pl × Rf)) (a : An) (ho : SOk S ws) (ha : AOk a) (hk : a.k = 3) (w : World) (hR : Ranks w) (X : SkAt w b m S ws) : Calls Tryz.prog 146 #[.pointer (some ⟨b, 0, none⟩), .agg (anL a).toArray] w fun e w' => e = .returned (.tuple #[]) ∧ SkAt w' b m S.begin (putW ws (S.plc S.pt) a.r) ∧ Kp [b, m] w w' := by
 have mixed : Tryz.prog.follows .mixedOrders = true := by kernel_rfl
 have b1 := (Below.refl w.heap.size w).alloc (Nat.le_refl _) (.cells (anL a).toArray 62)
 have AB := hide (IsB.new w (anL a).toArray 62)
 have X1 := hide (X.below b1)
 have HR := hide (hR.below b1)
 have KZ : Hid (Kp [b, m] w (w.alloc (.cells (anL a).toArray 62))) := Kp.of_below b1
 have y0 := cl_ak AB.out
 have HX0 : Hid (b < w.heap.size ∧ m < w.heap.size) := ⟨X.blk.lt, X.map.lt⟩
 replace ho := hide ho
 replace ha := hide ha
 clear b1 X hR
 rw [hk] at y0
 clear hk
 go_enter Tryz.func146, Tryz.ntmps146
 go_wp2_with fail
 generalize (w.alloc (.cells (anL a).toArray 62)) = W1 at *
 generalize w.heap.size = H at *
 have XD := hide (X1.out.below ((Below.refl _ _).drew))
 have AD := hide (AB.out.below ((Below.refl _ _).drew))
 have HRD := hide (HR.out.below ((Below.refl _ _).drew))
 have KD := hide (KZ.out.bel ((Below.refl _ _).drew))
 clear y0 X1 AB HR KZ
 refine regionL 7 (fun w' => IsB w' b (skL S (.map (some m))).toArray 171 ∧ IsB w' H (anL a).toArray 62) mixed ⟨XD.out.blk, AD.out⟩ (fun hHeld => ?_)
 generalize W1.drew = WD at *
 refine pkA (v := ?_) 0 (some 28) rfl rfl ?_ (by assumption) ?_
 rotate_left
 · intro w'
   go_simp
   try with_reducible rfl
 try simp only [Act.put, zqa, zqb, zqc]
 refine pkA (v := ?_) 1 (some 29) rfl rfl ?_ (by assumption) ?_
 rotate_left
 · intro w'
   go_simp
   try with_reducible rfl
 try simp only [Act.put, zqa, zqb, zqc]
 refine pkA (v := ?_) 2 (some 30) rfl rfl ?_ (by assumption) ?_
 rotate_left
 · intro w'
   go_simp
   try with_reducible rfl
 try simp only [Act.put, zqa, zqb, zqc]
 refine pkA (v := ?_) 3 (some 31) rfl rfl ?_ (by assumption) ?_
 rotate_left
 · intro w'
   go_simp
   try with_reducible rfl
 try simp only [Act.put, zqa, zqb, zqc]
 refine pkL (v := .agg S.pt.cells) 4 (some 32) rfl rfl ?_ (by assumption) ?_
 · intro w' hSw
   obtain ⟨q0, q1⟩ := hSw
   exact exec_load rfl rfl (ld_here q0)
 try simp only [Act.put, zqa, zqb, zqc]
 refine pkL (v := .agg (anL a).toArray) 5 (some 33) rfl rfl ?_ (by assumption) ?_
 · intro w' hSw
   obtain ⟨q0, q1⟩ := hSw
   exact exec_load rfl rfl (ld_ans q1)
 try simp only [Act.put, zqa, zqb, zqc]
 refine oneL (i := 6) (by kernel_rfl) rfl (fun K hK => ?_)
 go_simp
 refine (keep_any b m S ws S.pt a (ho.out.okc ho.out.pi) WD XD.out).mono ?_
 rintro e w4 ⟨rfl, X4', K4'⟩
 have A4 := hide (AD.out.kp K4' (by have := HX0.out; simp; omega))
 have X4 := hide X4'
 have K4 := hide (KD.out.tr K4')
 clear X4' K4'
 refine hK.out _ _ ?_ ?_
 · exact ⟨X4.out.blk, A4.out⟩
 clear hK K
 try simp only [Act.put, zqa, zqb, zqc]
 clear hHeld
 have hHeld : (fun w' => IsB w' b (skL S (.map (some m))).toArray 171 ∧ IsB w' H (anL a).toArray 62) w4 := ⟨X4.out.blk, A4.out⟩
 refine doneL (by kernel_rfl) ?_ _
 clear hHeld
 have CT := hide (begin_any b m S _ ho.out.n0 ho.out.n1 w4 X4.out)
 go_wp2_with fail
 refine CT.out.mono ?_
 rintro e w6 ⟨rfl, X6, K6⟩
 have F6 := hide X6
 have K7 := hide (K4.out.tr K6)
 clear CT X6 K6
 go_wp2
 refine bodyPost_end (results_none rfl _ _ _) rfl ?_
 exact ⟨rfl, F6.out, K7.out⟩

set_option maxHeartbeats 2000000 in
set_option maxRecDepth 100000 in
theorem hearH_else (b m : Nat) (S : Sk) (ws : List (Pl × Rf)) (a : An) (ho : SOk S ws) (ha : AOk a) (hk1 : ¬a.k = 1) (hk3 : ¬a.k = 3) (w : World) (hR : Ranks w) (X : SkAt w b m S ws) : Calls Tryz.prog 146 #[.pointer (some ⟨b, 0, none⟩), .agg (anL a).toArray] w fun e w' => e = .returned (.tuple #[]) ∧ SkAt w' b m S.begin ws ∧ Kp [b, m] w w' := by
 have mixed : Tryz.prog.follows .mixedOrders = true := by kernel_rfl
 have b1 := (Below.refl w.heap.size w).alloc (Nat.le_refl _) (.cells (anL a).toArray 62)
 have AB := hide (IsB.new w (anL a).toArray 62)
 have X1 := hide (X.below b1)
 have HR := hide (hR.below b1)
 have KZ : Hid (Kp [b, m] w (w.alloc (.cells (anL a).toArray 62))) := Kp.of_below b1
 have y0 := cl_ak AB.out
 have HX0 : Hid (b < w.heap.size ∧ m < w.heap.size) := ⟨X.blk.lt, X.map.lt⟩
 replace ho := hide ho
 replace ha := hide ha
 clear b1 X hR
 have e1 : (a.k == 1) = false := by simpa using hk1
 have e3 : (a.k == 3) = false := by simpa using hk3
 have CT := hide (begin_any b m S ws ho.out.n0 ho.out.n1 _ X1.out)
 generalize a.k = ak at *
 go_enter Tryz.func146, Tryz.ntmps146
 go_wp2_with fail
 refine CT.out.mono ?_
 rintro e w6 ⟨rfl, X6, K6⟩
 have F6 := hide X6
 have K7 := hide (KZ.out.tr K6)
 clear CT X6 K6
 go_wp2
 refine bodyPost_end (results_none rfl _ _ _) rfl ?_
 exact ⟨rfl, F6.out, K7.out⟩

theorem hearH_any (b m : Nat) (S : Sk) (ws : List (Pl × Rf)) (a : An) (ho : SOk S ws) (ha : AOk a) (w : World) (hR : Ranks w) (X : SkAt w b m S ws) : Calls Tryz.prog 146 #[.pointer (some ⟨b, 0, none⟩), .agg (anL a).toArray] w fun e w' => e = .returned (.tuple #[]) ∧ SkAt w' b m (S.hearH ws a).1 (S.hearH ws a).2 ∧ Kp [b, m] w w' := by
 unfold Sk.hearH
 by_cases hk : a.k = 1
 · rw [if_pos hk]
   by_cases hL : klt (S.pt.rk, S.pt.kn) (S.tr, S.tn) = true
   · rw [if_pos hL]
     exact hearH_right b m S ws a ho ha hk hL w hR X
   · rw [if_neg hL]
     exact hearH_left b m S ws a ho ha hk (by simpa using hL) w hR X
 · rw [if_neg hk]
   by_cases hk3 : a.k = 3
   · rw [if_pos hk3]
     exact hearH_dead b m S ws a ho ha hk3 w hR X
   · rw [if_neg hk3]
     exact hearH_else b m S ws a ho ha hk hk3 w hR X

set_option maxHeartbeats 2000000 in
set_option maxRecDepth 100000 in
theorem hearA_ok (b m : Nat) (S : Sk) (ws : List (Pl × Rf)) (a : An) (ho : SOk S ws) (ha : AOk a) (hk : a.k = 1) (w : World) (hR : Ranks w) (X : SkAt w b m S ws) : Calls Tryz.prog 145 #[.pointer (some ⟨b, 0, none⟩), .agg (anL a).toArray] w fun e w' => e = .returned (.tuple #[]) ∧ SkAt w' b m ((S.stand S.ah).right ws a.r) ws ∧ Kp [b, m] w w' := by
 have mixed : Tryz.prog.follows .mixedOrders = true := by kernel_rfl
 have b1 := (Below.refl w.heap.size w).alloc (Nat.le_refl _) (.cells (anL a).toArray 62)
 have AB := hide (IsB.new w (anL a).toArray 62)
 have X1 := hide (X.below b1)
 have HR := hide (hR.below b1)
 have KZ : Hid (Kp [b, m] w (w.alloc (.cells (anL a).toArray 62))) := Kp.of_below b1
 have y0 := cl_ak AB.out
 have HX0 : Hid (b < w.heap.size ∧ m < w.heap.size) := ⟨X.blk.lt, X.map.lt⟩
 replace ho := hide ho
 replace ha := hide ha
 clear b1 X hR
 rw [hk] at y0
 clear hk
 have LH := hide (ld_ahead X1.out.blk)
 have CT := hide (stand_any b m S ws S.ah _ X1.out)
 go_enter Tryz.func145, Tryz.ntmps145
 go_wp2_with (first | (focus ((with_reducible refine wpList_load_w ?_ 29 (.tmp 13) ?_ ?_ LH.out ?_); rotate_left; rfl; rfl; rotate_left; rfl)))
 refine CT.out.mono ?_
 rintro e w4 ⟨rfl, X4, K4⟩
 have A4 := hide (AB.out.kp K4 (by have := HX0.out; simp; omega))
 have K5 := hide (KZ.out.tr K4)
 have HR4 := hide (HR.out.kp K4 X1.out)
 have LA := hide (ld_ar A4.out)
 have CT2 := hide (goRight_any b m (S.stand S.ah) ws a.r ha.out.ri (ho.out.stand ho.out.ai).wi (ho.out.stand ho.out.ai).wr (ho.out.stand ho.out.ai).w0 (ho.out.stand ho.out.ai).n0 (ho.out.stand ho.out.ai).n1 w4 HR4.out X4)
 clear CT X4 K4 LH y0
 go_wp2_with (first | (focus ((with_reducible refine wpList_load_w ?_ 29 (.tmp 17) ?_ ?_ LA.out ?_); rotate_left; rfl; rfl; rotate_left; rfl)))
 refine CT2.out.mono ?_
 rintro e w6 ⟨rfl, X6, K6⟩
 have F6 := hide X6
 have K7 := hide (K5.out.tr K6)
 clear CT2 X6 K6 LA
 go_wp2
 refine bodyPost_end (results_none rfl _ _ _) rfl ?_
 exact ⟨rfl, F6.out, K7.out⟩

set_option maxHeartbeats 2000000 in
set_option maxRecDepth 100000 in
theorem hearA_dead (b m : Nat) (S : Sk) (ws : List (Pl × Rf)) (a : An) (ho : SOk S ws) (ha : AOk a) (hk : a.k = 3) (w : World) (hR : Ranks w) (X : SkAt w b m S ws) : Calls Tryz.prog 145 #[.pointer (some ⟨b, 0, none⟩), .agg (anL a).toArray] w fun e w' => e = .returned (.tuple #[]) ∧ SkAt w' b m S.passed (putW ws (S.plc S.ah) a.r) ∧ Kp [b, m] w w' := by
 have mixed : Tryz.prog.follows .mixedOrders = true := by kernel_rfl
 have b1 := (Below.refl w.heap.size w).alloc (Nat.le_refl _) (.cells (anL a).toArray 62)
 have AB := hide (IsB.new w (anL a).toArray 62)
 have X1 := hide (X.below b1)
 have HR := hide (hR.below b1)
 have KZ : Hid (Kp [b, m] w (w.alloc (.cells (anL a).toArray 62))) := Kp.of_below b1
 have y0 := cl_ak AB.out
 have HX0 : Hid (b < w.heap.size ∧ m < w.heap.size) := ⟨X.blk.lt, X.map.lt⟩
 replace ho := hide ho
 replace ha := hide ha
 clear b1 X hR
 rw [hk] at y0
 clear hk
 go_enter Tryz.func145, Tryz.ntmps145
 go_wp2_with fail
 generalize (w.alloc (.cells (anL a).toArray 62)) = W1 at *
 generalize w.heap.size = H at *
 have XD := hide (X1.out.below ((Below.refl _ _).drew))
 have AD := hide (AB.out.below ((Below.refl _ _).drew))
 have HRD := hide (HR.out.below ((Below.refl _ _).drew))
 have KD := hide (KZ.out.bel ((Below.refl _ _).drew))
 clear y0 X1 AB HR KZ
 refine regionL 6 (fun w' => IsB w' b (skL S (.map (some m))).toArray 171 ∧ IsB w' H (anL a).toArray 62) mixed ⟨XD.out.blk, AD.out⟩ (fun hHeld => ?_)
 generalize W1.drew = WD at *
 refine pkA (v := ?_) 0 (some 22) rfl rfl ?_ (by assumption) ?_
 rotate_left
 · intro w'
   go_simp
   try with_reducible rfl
 try simp only [Act.put, zqa, zqb, zqc]
 refine pkA (v := ?_) 1 (some 23) rfl rfl ?_ (by assumption) ?_
 rotate_left
 · intro w'
   go_simp
   try with_reducible rfl
 try simp only [Act.put, zqa, zqb, zqc]
 refine pkA (v := ?_) 2 (some 24) rfl rfl ?_ (by assumption) ?_
 rotate_left
 · intro w'
   go_simp
   try with_reducible rfl
 try simp only [Act.put, zqa, zqb, zqc]
 refine pkA (v := ?_) 3 (some 25) rfl rfl ?_ (by assumption) ?_
 rotate_left
 · intro w'
   go_simp
   try with_reducible rfl
 try simp only [Act.put, zqa, zqb, zqc]
 refine pkT (v := .agg S.ah.cells) 4 (some 26) rfl rfl ?_ (by assumption) ?_
 · intro w' hSw
   obtain ⟨q0, q1⟩ := hSw
   exact exec_load rfl rfl (ld_ahead q0)
 try simp only [Act.put, zqa, zqb, zqc]
 refine pkT (v := .agg (anL a).toArray) 5 (some 27) rfl rfl ?_ (by assumption) ?_
 · intro w' hSw
   obtain ⟨q0, q1⟩ := hSw
   exact exec_load rfl rfl (ld_ans q1)
 try simp only [Act.put, zqa, zqb, zqc]
 refine lateL (i := 6) (by kernel_rfl) rfl (by decide) (by kernel_rfl) (fun K hK => ?_)
 go_simp
 refine (pass_any b m S ws S.ah a (ho.out.okc ho.out.ai) ho.out.n0 ho.out.n1 WD XD.out).mono ?_
 rintro e w4 ⟨rfl, X4', K4'⟩
 have X4 := hide X4'
 have K4 := hide (KD.out.tr K4')
 clear X4' K4'
 refine hK.out _ _ ?_
 clear hK K
 try simp only [Act.put, zqa, zqb, zqc]
 refine doneL (by kernel_rfl) ?_ _
 clear hHeld
 go_wp2
 refine bodyPost_end (results_none rfl _ _ _) rfl ?_
 exact ⟨rfl, X4.out, K4.out⟩

set_option maxHeartbeats 2000000 in
set_option maxRecDepth 100000 in
theorem hearA_else (b m : Nat) (S : Sk) (ws : List (Pl × Rf)) (a : An) (ho : SOk S ws) (ha : AOk a) (hk1 : ¬a.k = 1) (hk3 : ¬a.k = 3) (w : World) (hR : Ranks w) (X : SkAt w b m S ws) : Calls Tryz.prog 145 #[.pointer (some ⟨b, 0, none⟩), .agg (anL a).toArray] w fun e w' => e = .returned (.tuple #[]) ∧ SkAt w' b m S.begin ws ∧ Kp [b, m] w w' := by
 have mixed : Tryz.prog.follows .mixedOrders = true := by kernel_rfl
 have b1 := (Below.refl w.heap.size w).alloc (Nat.le_refl _) (.cells (anL a).toArray 62)
 have AB := hide (IsB.new w (anL a).toArray 62)
 have X1 := hide (X.below b1)
 have HR := hide (hR.below b1)
 have KZ : Hid (Kp [b, m] w (w.alloc (.cells (anL a).toArray 62))) := Kp.of_below b1
 have y0 := cl_ak AB.out
 have HX0 : Hid (b < w.heap.size ∧ m < w.heap.size) := ⟨X.blk.lt, X.map.lt⟩
 replace ho := hide ho
 replace ha := hide ha
 clear b1 X hR
 have e1 : (a.k == 1) = false := by simpa using hk1
 have e3 : (a.k == 3) = false := by simpa using hk3
 have CT := hide (begin_any b m S ws ho.out.n0 ho.out.n1 _ X1.out)
 generalize a.k = ak at *
 go_enter Tryz.func145, Tryz.ntmps145
 go_wp2_with fail
 refine CT.out.mono ?_
 rintro e w6 ⟨rfl, X6, K6⟩
 have F6 := hide X6
 have K7 := hide (KZ.out.tr K6)
 clear CT X6 K6
 go_wp2
 refine bodyPost_end (results_none rfl _ _ _) rfl ?_
 exact ⟨rfl, F6.out, K7.out⟩

theorem hearA_any (b m : Nat) (S : Sk) (ws : List (Pl × Rf)) (a : An) (ho : SOk S ws) (ha : AOk a) (w : World) (hR : Ranks w) (X : SkAt w b m S ws) : Calls Tryz.prog 145 #[.pointer (some ⟨b, 0, none⟩), .agg (anL a).toArray] w fun e w' => e = .returned (.tuple #[]) ∧ SkAt w' b m (S.hearA ws a).1 (S.hearA ws a).2 ∧ Kp [b, m] w w' := by
 unfold Sk.hearA
 by_cases hk : a.k = 1
 · rw [if_pos hk]
   exact hearA_ok b m S ws a ho ha hk w hR X
 · rw [if_neg hk]
   by_cases hk3 : a.k = 3
   · rw [if_pos hk3]
     exact hearA_dead b m S ws a ho ha hk3 w hR X
   · rw [if_neg hk3]
     exact hearA_else b m S ws a ho ha hk hk3 w hR X

end Go.Proofs.YtokehogcenjefaaGreatDoor
