/- The document's keep. -/
import Derived.Test.YtokehogcenjefaaGreatDoorDB
namespace Go.Proofs.YtokehogcenjefaaGreatDoor
open Go.RowKit Go.Maps Go.ChangeMaps

theorem addnW (g o j : Nat) : (⟨g, o, none⟩ : Addr).add j = ⟨g, o + j, none⟩ := by unfold Addr.add; split <;> simp_all
theorem wl_info : (Tryz.prog.info? 179).map (·.size) = some 13 := by kernel_rfl
theorem infoWl : (Tryz.prog.info? 179).map (fun i => (i.zero, i.size, i.bytes)) = some (some (.agg #[.int .i64 0, .int .i64 0, .int .u64 0, .int .i64 0, .int .i64 0, .int .u64 0, .int .i64 0, .int .u64 0, .int .i64 0, .int .i64 0, .int .u64 0, .int .i64 0, .int .u64 0]), 13, 104) := by kernel_rfl
theorem store_wil (w : World) (cs : Array Value) (hs : cs.size = 13) (h1 : cs.all (·.oneCell') = true) : (Instr.storeAt 179 (.pointer (some ⟨w.heap.size, 0, none⟩)) (.agg cs)).run Tryz.prog (w.alloc (.cells #[.int .i64 0, .int .i64 0, .int .u64 0, .int .i64 0, .int .i64 0, .int .u64 0, .int .i64 0, .int .u64 0, .int .i64 0, .int .i64 0, .int .u64 0, .int .i64 0, .int .u64 0] 179)) = .ok () (w.alloc (.cells cs 179)) := run_storeAt_new w 179 _ cs (by rw [hs]; exact wl_info) (by rw [hs]; rfl) h1
/-- A will stored into a row of one's own. -/
theorem wl_store {w : World} {L : List Wl} {g n cap : Nat} (h : Rw w 179 13 (.slice (some ⟨g, 0, none⟩) n cap) n (wls L)) (hn : L.length = n) (i : Nat) (hi : i < n) (A : Wl) : ∃ w', (Instr.storeAt 179 (.pointer (some ⟨g, i * 13, none⟩)) (.agg (wlL A).toArray)).run Tryz.prog w = .ok () w' ∧ Rw w' 179 13 (.slice (some ⟨g, 0, none⟩) n cap) n (wls (L.set i A)) ∧ Kp [g] w w' := by
 obtain ⟨h1, h2⟩ := h
 rcases h2 with ⟨e, -⟩ | ⟨g', cap', cur, e, hg, hc1, hc2, hc3, hc4⟩
 · cases e
 · injection e with e1 e2 e3
   injection e1 with e1
   injection e1 with e4 _ _
   subst e4 e3
   have I : IsB w g cur.toList.toArray 179 := by rw [Array.toArray_toList]; exact hg
   have hsz : n * 13 ≤ cur.toList.length := by
     have := Nat.mul_le_mul_right 13 hc1
     simp at hc3 ⊢
     omega
   have hi13 : i * 13 + 13 ≤ n * 13 := by omega
   obtain ⟨w', s1, s2, s3⟩ := store_mid I (i * 13) 179 (wlL A) (by show _ + 13 ≤ _; omega) (by kernel_rfl) (fun v hv => by have := wls_one [A] v (by simpa [wls] using hv); exact this)
   refine ⟨w', s1, ⟨by rw [wls_len, List.length_set, hn], Or.inr ⟨g, cap, _, rfl, s2, hc1, hc2, ?_, ?_⟩⟩, s3⟩
   · simp only [List.size_toArray, List.length_append, List.length_take, List.length_drop]
     have : (wlL A).length = 13 := rfl
     have := hc3
     simp only [← Array.length_toList] at this
     omega
   · have hr : cur.toList = wls L ++ cur.toList.drop (n * 13) := by rw [← hc4, List.take_append_drop]
     have hl : (wls L).length = n * 13 := h1
     generalize cur.toList.drop (n * 13) = rest at hr
     rw [hr]
     show ((wls L ++ rest).take (i * 13) ++ wlL A ++ (wls L ++ rest).drop (i * 13 + 13)).take (n * 13) = _
     have e1 : (wls L ++ rest).take (i * 13) = (wls L).take (i * 13) := List.take_append_of_le_length (by omega)
     have e2 : (wls L ++ rest).drop (i * 13 + 13) = (wls L).drop (i * 13 + 13) ++ rest := List.drop_append_of_le_length (by omega)
     rw [e1, e2, ← List.append_assoc, wls_set L i (by omega) A, List.take_left' (by rw [wls_len, List.length_set, hn])]
theorem wl_push {base : Nat} {w : World} {v : Value} {L : List Wl} (h : Rw w 179 13 v L.length (wls L)) (hnew : ∀ k, v.ownBlock = some k → base ≤ k) (hb : base ≤ w.heap.size) (A : Wl) (hlen : L.length ≤ 1000000) (ty : TypeId) (W : World) (N : Nat) (hbel : Below w.heap.size w W) (hN : IsB W N (wlL A).toArray 179) :
   ∃ qa qc w', (Builtin.append_ #[103, 103] ty #[v, .slice (some ⟨N, 0, none⟩) 1 1]).run Tryz.prog W = .ok (.slice qa (L.length + 1) qc) w' ∧ Rw w' 179 13 (.slice qa (L.length + 1) qc) (L ++ [A]).length (wls (L ++ [A])) ∧ (∀ k, (Value.slice qa (L.length + 1) qc).ownBlock = some k → base ≤ k) ∧ Kp v.ownBlock.toList W w' := by
 have h' := h.below hbel
 obtain ⟨i0, hi0, hz0, hz1, hz2⟩ := info_parts infoWl
 have hcells : ∀ j u, (wls [A])[j]? = some u → W.cell? ((⟨N, 0, none⟩ : Addr).add j) = some u := fun j u hu => by
   rw [addnW, Nat.zero_add, hN.cell j]
   simpa [wls] using hu
 obtain ⟨v', w', hrun, hrw, hgr, hat, -⟩ := run_append_rw (P := Tryz.prog) W 103 ty 179 i0 _ 13 104 Tryz.underlying103 hi0 hz0 hz1 hz2 rfl v L.length (wls L) h' (.slice (some ⟨N, 0, none⟩) 1 1) 1 (wls [A]) rfl (Or.inl ⟨⟨N, 0, none⟩, 1, rfl, hcells⟩) (wls_one [A]) (by unfold maxLen; omega) (by omega)
 obtain ⟨qa, qc, rfl, -, -⟩ := hrw.shape
 have hl : (L ++ [A]).length = L.length + 1 := by simp
 refine ⟨qa, qc, w', hrun, ?_, fun k hk => ?_, Kp.of_grown (S := v.ownBlock.toList) hgr (fun k hk => Or.inl (by rw [hk]; simp))⟩
 · rw [wls_app, hl]
   exact hrw
 · rcases hat with e | e
   · exact hnew k (by rw [← e]; exact hk)
   · rw [e] at hk
     injection hk with hk
     have := hbel.size
     omega

set_option maxHeartbeats 2000000 in
set_option maxRecDepth 100000 in
theorem keep_in (d base : Nat) (S : Sk) (s : Rf) (L : List Wl) (to : Rf) (v : Value) (hto : S.lk = true → to = S.ah) (hL : L.length ≤ 1000000) (r : Rf) (a : An) (i : Nat) (hi : i < L.length) (hk : knV L (r.id, S.wl, S.wb) = (i : Int)) (hkl : keepL L ⟨r.id, S.wl, S.wb, a.l, a.r⟩ = L.set i ⟨r.id, S.wl, S.wb, a.l, a.r⟩) (w : World) (X : DkAt w d base S s to L v) : Calls Tryz.prog 65 #[.pointer (some ⟨d, 0, none⟩), .agg r.cells, .agg (anL a).toArray] w fun e' w' => e' = .returned (.tuple #[]) ∧ Dk w' d base S s (keepL L ⟨r.id, S.wl, S.wb, a.l, a.r⟩) ∧ Kd base w w' := by
 rw [hkl]
 clear hkl
 have mixed : Tryz.prog.follows .mixedOrders = true := by kernel_rfl
 have R0 : IsB ((w.alloc (.cells r.cells 29)).alloc (.cells (anL a).toArray 62)) w.heap.size r.cells 29 := (IsB.new w r.cells 29).below ((Below.refl _ _).alloc (Nat.le_refl _) _)
 have A0 : IsB ((w.alloc (.cells r.cells 29)).alloc (.cells (anL a).toArray 62)) (w.heap.size + 1) (anL a).toArray 62 := by
   have := IsB.new (w.alloc (.cells r.cells 29)) (anL a).toArray 62
   rwa [World.size_alloc] at this
 have b2 := ((Below.refl w.heap.size w).alloc (Nat.le_refl _) (.cells r.cells 29)).alloc (by simp) (.cells (anL a).toArray 62)
 have hlt := X.blk.lt
 have X2 := X.below b2
 have KN := hide (known_any d base S s to L v hL r ((w.alloc (.cells r.cells 29)).alloc (.cells (anL a).toArray 62)) X2)
 have LR := hide (load_ref R0 rfl)
 have hK := hide hk
 obtain ⟨va, vc, hsh, -, -⟩ := X.row.shape
 subst hsh
 have B := hide b2
 have XX := hide X2
 have RR := hide R0
 have AA := hide A0
 clear X X2 b2 R0 A0 hk
 go_enter Tryz.func65, Tryz.ntmps65
 go_wp2_with (first | (focus ((with_reducible refine wpList_load_w ?_ 29 (.tmp 4) ?_ ?_ LR.out ?_); rotate_left; rfl; rfl; rotate_left; rfl)))
 refine KN.out.mono ?_
 rintro e' w3 ⟨rfl, hb⟩
 rw [hK.out]
 have XD := hide ((XX.out.below hb).below ((Below.refl _ _).drew))
 have ID := hide XD.out.blk
 have RD := hide ((RR.out.below hb).below ((Below.refl _ _).drew))
 have AD := hide ((AA.out.below hb).below ((Below.refl _ _).drew))
 have BD := hide ((B.out.trans (hb.mono B.out.size)).drew)
 clear hb KN LR XX RR AA B
 go_wp2_with fail
 refine regionL 12 (fun w' => IsB w' d (dkL S s to (.slice va L.length vc)).toArray 105 ∧ IsB w' w.heap.size r.cells 29 ∧ IsB w' (w.heap.size + 1) (anL a).toArray 62) mixed ⟨ID.out, RD.out, AD.out⟩ (fun hHeld => ?_)
 generalize w3.drew = WD at *
 have bA := (Below.refl WD.heap.size WD).alloc (Nat.le_refl _) (.cells #[.int .i64 0, .int .i64 0, .int .u64 0, .int .i64 0, .int .i64 0, .int .u64 0, .int .i64 0, .int .u64 0, .int .i64 0, .int .i64 0, .int .u64 0, .int .i64 0, .int .u64 0] 179)
 have IA : Hid (IsB (WD.alloc (.cells #[.int .i64 0, .int .i64 0, .int .u64 0, .int .i64 0, .int .i64 0, .int .u64 0, .int .i64 0, .int .u64 0, .int .i64 0, .int .i64 0, .int .u64 0, .int .i64 0, .int .u64 0] 179)) d (dkL S s to (.slice va L.length vc)).toArray 105 ∧ IsB (WD.alloc (.cells #[.int .i64 0, .int .i64 0, .int .u64 0, .int .i64 0, .int .i64 0, .int .u64 0, .int .i64 0, .int .u64 0, .int .i64 0, .int .i64 0, .int .u64 0, .int .i64 0, .int .u64 0] 179)) w.heap.size r.cells 29 ∧ IsB (WD.alloc (.cells #[.int .i64 0, .int .i64 0, .int .u64 0, .int .i64 0, .int .i64 0, .int .u64 0, .int .i64 0, .int .u64 0, .int .i64 0, .int .i64 0, .int .u64 0, .int .i64 0, .int .u64 0] 179)) (w.heap.size + 1) (anL a).toArray 62) := ⟨ID.out.below bA, RD.out.below bA, AD.out.below bA⟩
 have SA := hide (store_wil WD (wlL ⟨r.id, S.wl, S.wb, a.l, a.r⟩).toArray rfl (by kernel_rfl))
 clear bA
 refine pkA (v := ?_) 0 (some 11) rfl rfl ?_ (by assumption) ?_
 rotate_left
 · intro w'
   go_simp
   try with_reducible rfl
 try simp only [Act.put, zqa, zqb, zqc]
 refine pkL (v := ?_) 1 (some 12) rfl rfl ?_ (by assumption) ?_
 rotate_left
 · intro w' hSw
   obtain ⟨q0, q1, q2⟩ := hSw; have z0 := ld_id q1
   go_simp
   try with_reducible rfl
 try simp only [Act.put, zqa, zqb, zqc]
 refine pkA (v := ?_) 2 (some 13) rfl rfl ?_ (by assumption) ?_
 rotate_left
 · intro w'
   go_simp
   try with_reducible rfl
 try simp only [Act.put, zqa, zqb, zqc]
 refine pkA (v := ?_) 3 (some 14) rfl rfl ?_ (by assumption) ?_
 rotate_left
 · intro w'
   go_simp
   try with_reducible rfl
 try simp only [Act.put, zqa, zqb, zqc]
 refine pkA (v := ?_) 4 (some 15) rfl rfl ?_ (by assumption) ?_
 rotate_left
 · intro w'
   go_simp
   try with_reducible rfl
 try simp only [Act.put, zqa, zqb, zqc]
 refine pkL (v := (.agg #[.int .i64 (S.wl), .int .u64 (S.wb)])) 5 (some 16) rfl rfl ?_ (by assumption) ?_
 · intro w' hSw
   obtain ⟨q0, q1, q2⟩ := hSw; have z0 := ld_id q1
   exact exec_load rfl rfl (q_w q0)
 try simp only [Act.put, zqa, zqb, zqc]
 refine pkA (v := ?_) 6 (some 17) rfl rfl ?_ (by assumption) ?_
 rotate_left
 · intro w'
   go_simp
   try with_reducible rfl
 try simp only [Act.put, zqa, zqb, zqc]
 refine pkL (v := .agg a.l.cells) 7 (some 18) rfl rfl ?_ (by assumption) ?_
 · intro w' hSw
   obtain ⟨q0, q1, q2⟩ := hSw; have z0 := ld_id q1
   exact exec_load rfl rfl (ld_al q2)
 try simp only [Act.put, zqa, zqb, zqc]
 refine pkA (v := ?_) 8 (some 19) rfl rfl ?_ (by assumption) ?_
 rotate_left
 · intro w'
   go_simp
   try with_reducible rfl
 try simp only [Act.put, zqa, zqb, zqc]
 refine pkL (v := .agg a.r.cells) 9 (some 20) rfl rfl ?_ (by assumption) ?_
 · intro w' hSw
   obtain ⟨q0, q1, q2⟩ := hSw; have z0 := ld_id q1
   exact exec_load rfl rfl (ld_ar q2)
 try simp only [Act.put, zqa, zqb, zqc]
 refine pkA (v := .agg (wlL ⟨r.id, S.wl, S.wb, a.l, a.r⟩).toArray) 10 (some 21) rfl rfl ?_ (by assumption) ?_
 · intro w'
   kernel_rfl
 try simp only [Act.put, zqa, zqb, zqc]
 refine oneL (i := 11) (by kernel_rfl) rfl (fun K hK => ?_)
 go_simp
 refine hK.out _ _ ?_ ?_
 · exact IA.out
 clear hK K
 try simp only [Act.put, zqa, zqb, zqc]
 clear hHeld
 have hHeld : (fun w' => IsB w' d (dkL S s to (.slice va L.length vc)).toArray 105 ∧ IsB w' w.heap.size r.cells 29 ∧ IsB w' (w.heap.size + 1) (anL a).toArray 62) (WD.alloc (.cells #[.int .i64 0, .int .i64 0, .int .u64 0, .int .i64 0, .int .i64 0, .int .u64 0, .int .i64 0, .int .u64 0, .int .i64 0, .int .i64 0, .int .u64 0, .int .i64 0, .int .u64 0] 179)) := IA.out
 refine lateL (i := 12) (by kernel_rfl) rfl (by decide) (by kernel_rfl) (fun K hK => ?_)
 refine step_store_w rfl 179 (.tmp 7) (.tmp 21) rfl rfl rfl SA.out ?_
 refine hK.out _ _ ?_
 clear hK K
 try simp only [Act.put, List.setIfInBounds_toArray]
 refine doneL (by kernel_rfl) ?_ _
 clear hHeld
 clear IA SA RD AD ID
 have b4 := (Below.refl WD.heap.size WD).alloc (Nat.le_refl _) (.cells (wlL ⟨r.id, S.wl, S.wb, a.l, a.r⟩).toArray 179)
 have TB := hide (IsB.new WD (wlL ⟨r.id, S.wl, S.wb, a.l, a.r⟩).toArray 179)
 have hgt := hide (fun k (hk : (Value.slice va L.length vc).ownBlock = some k) => (XD.out.row.lt k hk).1)
 replace XD := hide (XD.out.below b4)
 replace BD := hide (BD.out.trans (b4.mono BD.out.size))
 clear b4
 generalize hW4 : (WD.alloc (.cells (wlL ⟨r.id, S.wl, S.wb, a.l, a.r⟩).toArray 179)) = W4 at *
 clear hW4
 obtain ⟨T, hT⟩ : ∃ T, WD.heap.size = T := ⟨_, rfl⟩
 rw [hT] at TB hgt ⊢
 clear hT
 have d1 : decide ((i : Int) ≥ 0) = true := decide_eq_true (by omega)
 have d2 : decide (0 ≤ (i : Int)) = true := decide_eq_true (by omega)
 have hiI : (i : Int) < (L.length : Int) := by omega
 have IE := hide (XD.out.blk.below ((Below.refl _ _).drew))
 have TE := hide (TB.out.below ((Below.refl _ _).drew))
 have rowE := XD.out.row.below ((Below.refl _ _).drew)
 obtain ⟨g, cap, ev, -, -, -⟩ := rowE.form (by omega)
 injection ev with ev el ec
 clear el
 subst ev ec
 obtain ⟨w9, hs9, row9, k9⟩ := wl_store rowE rfl i hi ⟨r.id, S.wl, S.wb, a.l, a.r⟩
 have HS := hide hs9
 have hng : ∀ k ∈ [g], base ≤ k ∧ ∃ cs, IsB W4.drew k cs 105 ∨ IsB W4.drew k cs 179 := by
   intro k hk
   simp only [List.mem_singleton] at hk
   subst hk
   obtain ⟨-, cur, hc⟩ := rowE.lt k rfl
   exact ⟨XD.out.new k rfl, cur, Or.inr hc⟩
 have K9 := hide ((Kd.of_below (base := base) (BD.out.drew)).tr (Kd.of_kp k9 hng))
 have hdg : d ∉ [g] := by
   obtain ⟨-, cur, hc⟩ := rowE.lt g rfl
   simp only [List.mem_singleton]
   exact ne_ty IE.out (show IsB W4.drew g cur 179 from hc) (by decide)
 have F9 : Hid (Dk w9 d base S s (L.set i ⟨r.id, S.wl, S.wb, a.l, a.r⟩)) := ⟨to, _, hto, XD.out.le, IE.out.kp k9 hdg, by rw [List.length_set]; exact row9, XD.out.new⟩
 clear hs9 row9 k9 hng hdg rowE
 go_wp2_with fail
 refine regionL 7 (fun w' => IsB w' d (dkL S s to (.slice (some ⟨g, 0, none⟩) L.length vc)).toArray 105 ∧ IsB w' T (wlL ⟨r.id, S.wl, S.wb, a.l, a.r⟩).toArray 179) mixed ⟨IE.out, TE.out⟩ (fun hHeld => ?_)
 generalize W4.drew = WE at *
 refine pkA (v := ?_) 0 (some 24) rfl rfl ?_ (by assumption) ?_
 rotate_left
 · intro w'
   go_simp
   try with_reducible rfl
 try simp only [Act.put, zqa, zqb, zqc]
 refine pkA (v := ?_) 1 (some 25) rfl rfl ?_ (by assumption) ?_
 rotate_left
 · intro w'
   go_simp
   try with_reducible rfl
 try simp only [Act.put, zqa, zqb, zqc]
 refine pkA (v := ?_) 2 (some 26) rfl rfl ?_ (by assumption) ?_
 rotate_left
 · intro w'
   go_simp
   try with_reducible rfl
 try simp only [Act.put, zqa, zqb, zqc]
 refine pkL (v := ?_) 3 (some 27) rfl rfl ?_ (by assumption) ?_
 rotate_left
 · intro w' hSw
   obtain ⟨q0, q1⟩ := hSw; have z21 := c_v q0
   go_simp
   try with_reducible rfl
 try simp only [Act.put, zqa, zqb, zqc]
 refine pkA (v := ?_) 4 (some 28) rfl rfl ?_ (by assumption) ?_
 rotate_left
 · intro w'
   go_simp
   try with_reducible rfl
 try simp only [Act.put, zqa, zqb, zqc]
 refine pkL (v := .agg (wlL ⟨r.id, S.wl, S.wb, a.l, a.r⟩).toArray) 5 (some 29) rfl rfl ?_ (by assumption) ?_
 · intro w' hSw
   obtain ⟨q0, q1⟩ := hSw; have z21 := c_v q0
   exact exec_load rfl rfl (load_mid (cs := wlL ⟨r.id, S.wl, S.wb, a.l, a.r⟩) q1 0 _ (wlL ⟨r.id, S.wl, S.wb, a.l, a.r⟩) _ rfl Tryz.underlying179 rfl (by kernel_rfl))
 try simp only [Act.put, zqa, zqb, zqc]
 refine pkA (v := ?_) 6 (some 30) rfl rfl ?_ (by assumption) ?_
 rotate_left
 · intro w'
   go_simp
   try with_reducible rfl
 try simp only [Act.put, zqa, zqb, zqc]
 refine lateL (i := 7) (by kernel_rfl) rfl (by decide) (by kernel_rfl) (fun K hK => ?_)
 refine step_store_w rfl 179 (.tmp 30) (.tmp 29) rfl rfl rfl HS.out ?_
 refine hK.out _ _ ?_
 clear hK K
 try simp only [Act.put, List.setIfInBounds_toArray]
 refine doneL (by kernel_rfl) ?_ _
 clear hHeld
 try go_wp2
 refine bodyPost_ret (results_none rfl _ _ _) rfl ?_
 exact ⟨rfl, F9.out, K9.out⟩

set_option maxHeartbeats 2000000 in
set_option maxRecDepth 100000 in
theorem keep_out (d base : Nat) (S : Sk) (s : Rf) (L : List Wl) (to : Rf) (v : Value) (hto : S.lk = true → to = S.ah) (hL : L.length ≤ 1000000) (r : Rf) (a : An) (hk : knV L (r.id, S.wl, S.wb) = -1) (hkl : keepL L ⟨r.id, S.wl, S.wb, a.l, a.r⟩ = L ++ [⟨r.id, S.wl, S.wb, a.l, a.r⟩]) (w : World) (X : DkAt w d base S s to L v) : Calls Tryz.prog 65 #[.pointer (some ⟨d, 0, none⟩), .agg r.cells, .agg (anL a).toArray] w fun e' w' => e' = .returned (.tuple #[]) ∧ Dk w' d base S s (keepL L ⟨r.id, S.wl, S.wb, a.l, a.r⟩) ∧ Kd base w w' := by
 rw [hkl]
 clear hkl
 have mixed : Tryz.prog.follows .mixedOrders = true := by kernel_rfl
 have R0 : IsB ((w.alloc (.cells r.cells 29)).alloc (.cells (anL a).toArray 62)) w.heap.size r.cells 29 := (IsB.new w r.cells 29).below ((Below.refl _ _).alloc (Nat.le_refl _) _)
 have A0 : IsB ((w.alloc (.cells r.cells 29)).alloc (.cells (anL a).toArray 62)) (w.heap.size + 1) (anL a).toArray 62 := by
   have := IsB.new (w.alloc (.cells r.cells 29)) (anL a).toArray 62
   rwa [World.size_alloc] at this
 have b2 := ((Below.refl w.heap.size w).alloc (Nat.le_refl _) (.cells r.cells 29)).alloc (by simp) (.cells (anL a).toArray 62)
 have hlt := X.blk.lt
 have X2 := X.below b2
 have KN := hide (known_any d base S s to L v hL r ((w.alloc (.cells r.cells 29)).alloc (.cells (anL a).toArray 62)) X2)
 have LR := hide (load_ref R0 rfl)
 have hK := hide hk
 obtain ⟨va, vc, hsh, -, -⟩ := X.row.shape
 subst hsh
 have B := hide b2
 have XX := hide X2
 have RR := hide R0
 have AA := hide A0
 clear X X2 b2 R0 A0 hk
 go_enter Tryz.func65, Tryz.ntmps65
 go_wp2_with (first | (focus ((with_reducible refine wpList_load_w ?_ 29 (.tmp 4) ?_ ?_ LR.out ?_); rotate_left; rfl; rfl; rotate_left; rfl)))
 refine KN.out.mono ?_
 rintro e' w3 ⟨rfl, hb⟩
 rw [hK.out]
 have XD := hide ((XX.out.below hb).below ((Below.refl _ _).drew))
 have ID := hide XD.out.blk
 have RD := hide ((RR.out.below hb).below ((Below.refl _ _).drew))
 have AD := hide ((AA.out.below hb).below ((Below.refl _ _).drew))
 have BD := hide ((B.out.trans (hb.mono B.out.size)).drew)
 clear hb KN LR XX RR AA B
 go_wp2_with fail
 refine regionL 12 (fun w' => IsB w' d (dkL S s to (.slice va L.length vc)).toArray 105 ∧ IsB w' w.heap.size r.cells 29 ∧ IsB w' (w.heap.size + 1) (anL a).toArray 62) mixed ⟨ID.out, RD.out, AD.out⟩ (fun hHeld => ?_)
 generalize w3.drew = WD at *
 have bA := (Below.refl WD.heap.size WD).alloc (Nat.le_refl _) (.cells #[.int .i64 0, .int .i64 0, .int .u64 0, .int .i64 0, .int .i64 0, .int .u64 0, .int .i64 0, .int .u64 0, .int .i64 0, .int .i64 0, .int .u64 0, .int .i64 0, .int .u64 0] 179)
 have IA : Hid (IsB (WD.alloc (.cells #[.int .i64 0, .int .i64 0, .int .u64 0, .int .i64 0, .int .i64 0, .int .u64 0, .int .i64 0, .int .u64 0, .int .i64 0, .int .i64 0, .int .u64 0, .int .i64 0, .int .u64 0] 179)) d (dkL S s to (.slice va L.length vc)).toArray 105 ∧ IsB (WD.alloc (.cells #[.int .i64 0, .int .i64 0, .int .u64 0, .int .i64 0, .int .i64 0, .int .u64 0, .int .i64 0, .int .u64 0, .int .i64 0, .int .i64 0, .int .u64 0, .int .i64 0, .int .u64 0] 179)) w.heap.size r.cells 29 ∧ IsB (WD.alloc (.cells #[.int .i64 0, .int .i64 0, .int .u64 0, .int .i64 0, .int .i64 0, .int .u64 0, .int .i64 0, .int .u64 0, .int .i64 0, .int .i64 0, .int .u64 0, .int .i64 0, .int .u64 0] 179)) (w.heap.size + 1) (anL a).toArray 62) := ⟨ID.out.below bA, RD.out.below bA, AD.out.below bA⟩
 have SA := hide (store_wil WD (wlL ⟨r.id, S.wl, S.wb, a.l, a.r⟩).toArray rfl (by kernel_rfl))
 clear bA
 refine pkA (v := ?_) 0 (some 11) rfl rfl ?_ (by assumption) ?_
 rotate_left
 · intro w'
   go_simp
   try with_reducible rfl
 try simp only [Act.put, zqa, zqb, zqc]
 refine pkL (v := ?_) 1 (some 12) rfl rfl ?_ (by assumption) ?_
 rotate_left
 · intro w' hSw
   obtain ⟨q0, q1, q2⟩ := hSw; have z0 := ld_id q1
   go_simp
   try with_reducible rfl
 try simp only [Act.put, zqa, zqb, zqc]
 refine pkA (v := ?_) 2 (some 13) rfl rfl ?_ (by assumption) ?_
 rotate_left
 · intro w'
   go_simp
   try with_reducible rfl
 try simp only [Act.put, zqa, zqb, zqc]
 refine pkA (v := ?_) 3 (some 14) rfl rfl ?_ (by assumption) ?_
 rotate_left
 · intro w'
   go_simp
   try with_reducible rfl
 try simp only [Act.put, zqa, zqb, zqc]
 refine pkA (v := ?_) 4 (some 15) rfl rfl ?_ (by assumption) ?_
 rotate_left
 · intro w'
   go_simp
   try with_reducible rfl
 try simp only [Act.put, zqa, zqb, zqc]
 refine pkL (v := (.agg #[.int .i64 (S.wl), .int .u64 (S.wb)])) 5 (some 16) rfl rfl ?_ (by assumption) ?_
 · intro w' hSw
   obtain ⟨q0, q1, q2⟩ := hSw; have z0 := ld_id q1
   exact exec_load rfl rfl (q_w q0)
 try simp only [Act.put, zqa, zqb, zqc]
 refine pkA (v := ?_) 6 (some 17) rfl rfl ?_ (by assumption) ?_
 rotate_left
 · intro w'
   go_simp
   try with_reducible rfl
 try simp only [Act.put, zqa, zqb, zqc]
 refine pkL (v := .agg a.l.cells) 7 (some 18) rfl rfl ?_ (by assumption) ?_
 · intro w' hSw
   obtain ⟨q0, q1, q2⟩ := hSw; have z0 := ld_id q1
   exact exec_load rfl rfl (ld_al q2)
 try simp only [Act.put, zqa, zqb, zqc]
 refine pkA (v := ?_) 8 (some 19) rfl rfl ?_ (by assumption) ?_
 rotate_left
 · intro w'
   go_simp
   try with_reducible rfl
 try simp only [Act.put, zqa, zqb, zqc]
 refine pkL (v := .agg a.r.cells) 9 (some 20) rfl rfl ?_ (by assumption) ?_
 · intro w' hSw
   obtain ⟨q0, q1, q2⟩ := hSw; have z0 := ld_id q1
   exact exec_load rfl rfl (ld_ar q2)
 try simp only [Act.put, zqa, zqb, zqc]
 refine pkA (v := .agg (wlL ⟨r.id, S.wl, S.wb, a.l, a.r⟩).toArray) 10 (some 21) rfl rfl ?_ (by assumption) ?_
 · intro w'
   kernel_rfl
 try simp only [Act.put, zqa, zqb, zqc]
 refine oneL (i := 11) (by kernel_rfl) rfl (fun K hK => ?_)
 go_simp
 refine hK.out _ _ ?_ ?_
 · exact IA.out
 clear hK K
 try simp only [Act.put, zqa, zqb, zqc]
 clear hHeld
 have hHeld : (fun w' => IsB w' d (dkL S s to (.slice va L.length vc)).toArray 105 ∧ IsB w' w.heap.size r.cells 29 ∧ IsB w' (w.heap.size + 1) (anL a).toArray 62) (WD.alloc (.cells #[.int .i64 0, .int .i64 0, .int .u64 0, .int .i64 0, .int .i64 0, .int .u64 0, .int .i64 0, .int .u64 0, .int .i64 0, .int .i64 0, .int .u64 0, .int .i64 0, .int .u64 0] 179)) := IA.out
 refine lateL (i := 12) (by kernel_rfl) rfl (by decide) (by kernel_rfl) (fun K hK => ?_)
 refine step_store_w rfl 179 (.tmp 7) (.tmp 21) rfl rfl rfl SA.out ?_
 refine hK.out _ _ ?_
 clear hK K
 try simp only [Act.put, List.setIfInBounds_toArray]
 refine doneL (by kernel_rfl) ?_ _
 clear hHeld
 clear IA SA RD AD ID
 have b4 := (Below.refl WD.heap.size WD).alloc (Nat.le_refl _) (.cells (wlL ⟨r.id, S.wl, S.wb, a.l, a.r⟩).toArray 179)
 have TB := hide (IsB.new WD (wlL ⟨r.id, S.wl, S.wb, a.l, a.r⟩).toArray 179)
 have hgt := hide (fun k (hk : (Value.slice va L.length vc).ownBlock = some k) => (XD.out.row.lt k hk).1)
 replace XD := hide (XD.out.below b4)
 replace BD := hide (BD.out.trans (b4.mono BD.out.size))
 clear b4
 generalize hW4 : (WD.alloc (.cells (wlL ⟨r.id, S.wl, S.wb, a.l, a.r⟩).toArray 179)) = W4 at *
 clear hW4
 obtain ⟨T, hT⟩ : ∃ T, WD.heap.size = T := ⟨_, rfl⟩
 rw [hT] at TB hgt ⊢
 clear hT
 have IE := hide (XD.out.blk.below ((Below.refl _ _).drew))
 have TE := hide (TB.out.below ((Below.refl _ _).drew))
 have rowE := XD.out.row.below ((Below.refl _ _).drew)
 have BE := hide BD.out.drew
 have hbT : base ≤ W4.drew.heap.size := by have := IE.out.lt; have := XD.out.le; omega
 go_wp2_with fail
 refine regionL 10 (fun w' => IsB w' d (dkL S s to (.slice va L.length vc)).toArray 105 ∧ IsB w' T (wlL ⟨r.id, S.wl, S.wb, a.l, a.r⟩).toArray 179) mixed ⟨IE.out, TE.out⟩ (fun hHeld => ?_)
 generalize W4.drew = WE at *
 have bN := (Below.refl WE.heap.size WE).alloc (Nat.le_refl _) (.cells #[.int .i64 r.id, .int .i64 S.wl, .int .u64 S.wb, .int .i64 a.l.id, .int .i64 a.l.rk, .int .u64 a.l.kn, .int .i64 a.l.ln, .int .u64 a.l.bt, .int .i64 a.r.id, .int .i64 a.r.rk, .int .u64 a.r.kn, .int .i64 a.r.ln, .int .u64 a.r.bt] 179)
 have NB : IsB (WE.alloc (.cells #[.int .i64 r.id, .int .i64 S.wl, .int .u64 S.wb, .int .i64 a.l.id, .int .i64 a.l.rk, .int .u64 a.l.kn, .int .i64 a.l.ln, .int .u64 a.l.bt, .int .i64 a.r.id, .int .i64 a.r.rk, .int .u64 a.r.kn, .int .i64 a.r.ln, .int .u64 a.r.bt] 179)) WE.heap.size (wlL ⟨r.id, S.wl, S.wb, a.l, a.r⟩).toArray 179 := IsB.new WE _ _
 have IN : Hid (IsB (WE.alloc (.cells #[.int .i64 r.id, .int .i64 S.wl, .int .u64 S.wb, .int .i64 a.l.id, .int .i64 a.l.rk, .int .u64 a.l.kn, .int .i64 a.l.ln, .int .u64 a.l.bt, .int .i64 a.r.id, .int .i64 a.r.rk, .int .u64 a.r.kn, .int .i64 a.r.ln, .int .u64 a.r.bt] 179)) d (dkL S s to (.slice va L.length vc)).toArray 105 ∧ IsB (WE.alloc (.cells #[.int .i64 r.id, .int .i64 S.wl, .int .u64 S.wb, .int .i64 a.l.id, .int .i64 a.l.rk, .int .u64 a.l.kn, .int .i64 a.l.ln, .int .u64 a.l.bt, .int .i64 a.r.id, .int .i64 a.r.rk, .int .u64 a.r.kn, .int .i64 a.r.ln, .int .u64 a.r.bt] 179)) T (wlL ⟨r.id, S.wl, S.wb, a.l, a.r⟩).toArray 179) := ⟨IE.out.below bN, TE.out.below bN⟩
 obtain ⟨qa, qc, wA, hap, hRo, hnw, hKp⟩ := wl_push rowE XD.out.new hbT ⟨r.id, S.wl, S.wb, a.l, a.r⟩ hL 103 (WE.alloc (.cells #[.int .i64 r.id, .int .i64 S.wl, .int .u64 S.wb, .int .i64 a.l.id, .int .i64 a.l.rk, .int .u64 a.l.kn, .int .i64 a.l.ln, .int .u64 a.l.bt, .int .i64 a.r.id, .int .i64 a.r.rk, .int .u64 a.r.kn, .int .i64 a.r.ln, .int .u64 a.r.bt] 179)) WE.heap.size bN NB
 have HAP := hide hap
 have hnd : d ∉ (Value.slice va L.length vc).ownBlock.toList := by
   intro hm
   obtain ⟨-, cur, hc⟩ := (rowE.below bN).lt d (by simpa using hm)
   exact ne_ty IN.out.1 (show IsB (WE.alloc (.cells #[.int .i64 r.id, .int .i64 S.wl, .int .u64 S.wb, .int .i64 a.l.id, .int .i64 a.l.rk, .int .u64 a.l.kn, .int .i64 a.l.ln, .int .u64 a.l.bt, .int .i64 a.r.id, .int .i64 a.r.rk, .int .u64 a.r.kn, .int .i64 a.r.ln, .int .u64 a.r.bt] 179)) d cur 179 from hc) (by decide) rfl
 have hnT : T ∉ (Value.slice va L.length vc).ownBlock.toList := by
   intro hm
   exact absurd (hgt.out T (by simpa using hm)) (by omega)
 have IP : Hid (IsB wA d (dkL S s to (.slice va L.length vc)).toArray 105 ∧ IsB wA T (wlL ⟨r.id, S.wl, S.wb, a.l, a.r⟩).toArray 179) := ⟨IN.out.1.kp hKp hnd, IN.out.2.kp hKp hnT⟩
 obtain ⟨w9, hs9, I9, k9⟩ := u_v IP.out.1 qa (L.length + 1) qc
 have HS := hide hs9
 have hTy : ∀ k ∈ (Value.slice va L.length vc).ownBlock.toList, base ≤ k ∧ ∃ cs, IsB (WE.alloc (.cells #[.int .i64 r.id, .int .i64 S.wl, .int .u64 S.wb, .int .i64 a.l.id, .int .i64 a.l.rk, .int .u64 a.l.kn, .int .i64 a.l.ln, .int .u64 a.l.bt, .int .i64 a.r.id, .int .i64 a.r.rk, .int .u64 a.r.kn, .int .i64 a.r.ln, .int .u64 a.r.bt] 179)) k cs 105 ∨ IsB (WE.alloc (.cells #[.int .i64 r.id, .int .i64 S.wl, .int .u64 S.wb, .int .i64 a.l.id, .int .i64 a.l.rk, .int .u64 a.l.kn, .int .i64 a.l.ln, .int .u64 a.l.bt, .int .i64 a.r.id, .int .i64 a.r.rk, .int .u64 a.r.kn, .int .i64 a.r.ln, .int .u64 a.r.bt] 179)) k cs 179 := by
   intro k hk
   have hk2 : (Value.slice va L.length vc).ownBlock = some k := by simpa using hk
   obtain ⟨-, cur, hc⟩ := (rowE.below bN).lt k hk2
   exact ⟨XD.out.new k hk2, cur, Or.inr hc⟩
 have K9 := hide ((((Kd.of_below (base := base) BE.out).bel bN).tr (Kd.of_kp hKp hTy)).tr (Kd.of_kp k9 (fun k hk => by simp only [List.mem_singleton] at hk; subst hk; exact ⟨XD.out.le, _, Or.inl IP.out.1⟩)))
 have F9 : Hid (Dk w9 d base S s (L ++ [⟨r.id, S.wl, S.wb, a.l, a.r⟩])) := ⟨to, _, hto, XD.out.le, I9, hRo.kp k9 (fun k hk hm => by
   simp only [List.mem_singleton] at hm
   subst hm
   obtain ⟨-, cur, hc⟩ := hRo.lt k hk
   exact ne_ty IP.out.1 (show IsB wA k cur 179 from hc) (by decide) rfl), hnw⟩
 clear hap hRo hnw hKp hs9 I9 k9 hTy NB bN hnd hnT rowE
 refine pkA (v := ?_) 0 (some 31) rfl rfl ?_ (by assumption) ?_
 rotate_left
 · intro w'
   go_simp
   try with_reducible rfl
 try simp only [Act.put, zqa, zqb, zqc]
 refine pkA (v := ?_) 1 (some 32) rfl rfl ?_ (by assumption) ?_
 rotate_left
 · intro w'
   go_simp
   try with_reducible rfl
 try simp only [Act.put, zqa, zqb, zqc]
 refine pkA (v := ?_) 2 (some 33) rfl rfl ?_ (by assumption) ?_
 rotate_left
 · intro w'
   go_simp
   try with_reducible rfl
 try simp only [Act.put, zqa, zqb, zqc]
 refine pkA (v := ?_) 3 (some 34) rfl rfl ?_ (by assumption) ?_
 rotate_left
 · intro w'
   go_simp
   try with_reducible rfl
 try simp only [Act.put, zqa, zqb, zqc]
 refine pkL (v := ?_) 4 (some 35) rfl rfl ?_ (by assumption) ?_
 rotate_left
 · intro w' hSw
   obtain ⟨q0, q1⟩ := hSw; have z21 := c_v q0
   go_simp
   try with_reducible rfl
 try simp only [Act.put, zqa, zqb, zqc]
 refine pkL (v := .agg #[.int .i64 r.id, .int .i64 S.wl, .int .u64 S.wb, .int .i64 a.l.id, .int .i64 a.l.rk, .int .u64 a.l.kn, .int .i64 a.l.ln, .int .u64 a.l.bt, .int .i64 a.r.id, .int .i64 a.r.rk, .int .u64 a.r.kn, .int .i64 a.r.ln, .int .u64 a.r.bt]) 5 (some 36) rfl rfl ?_ (by assumption) ?_
 · intro w' hSw
   obtain ⟨q0, q1⟩ := hSw; have z21 := c_v q0
   exact exec_load rfl rfl (load_mid (cs := wlL ⟨r.id, S.wl, S.wb, a.l, a.r⟩) q1 0 _ (wlL ⟨r.id, S.wl, S.wb, a.l, a.r⟩) _ rfl Tryz.underlying179 rfl (by kernel_rfl))
 try simp only [Act.put, zqa, zqb, zqc]
 refine oneL (i := 6) (by kernel_rfl) rfl (fun K hK => ?_)
 go_simp
 refine hK.out _ _ ?_ ?_
 · exact IN.out
 clear hK K
 try simp only [Act.put, zqa, zqb, zqc]
 clear hHeld
 have hHeld : (fun w' => IsB w' d (dkL S s to (.slice va L.length vc)).toArray 105 ∧ IsB w' T (wlL ⟨r.id, S.wl, S.wb, a.l, a.r⟩).toArray 179) (WE.alloc (.cells #[.int .i64 r.id, .int .i64 S.wl, .int .u64 S.wb, .int .i64 a.l.id, .int .i64 a.l.rk, .int .u64 a.l.kn, .int .i64 a.l.ln, .int .u64 a.l.bt, .int .i64 a.r.id, .int .i64 a.r.rk, .int .u64 a.r.kn, .int .i64 a.r.ln, .int .u64 a.r.bt] 179)) := IN.out
 refine oneL (i := 7) (by kernel_rfl) rfl (fun K hK => ?_)
 refine step_append_eq rfl (.tmp 35) (.tmp 37) 103 rfl _ _ (.slice qa (L.length + 1) qc) wA rfl rfl HAP.out ?_
 refine hK.out _ _ ?_ ?_
 · exact IP.out
 clear hK K
 try simp only [Act.put, List.setIfInBounds_toArray]
 clear hHeld
 have hHeld : (fun w' => IsB w' d (dkL S s to (.slice va L.length vc)).toArray 105 ∧ IsB w' T (wlL ⟨r.id, S.wl, S.wb, a.l, a.r⟩).toArray 179) wA := IP.out
 refine pkA (v := ?_) 8 (some 39) rfl rfl ?_ (by assumption) ?_
 rotate_left
 · intro w'
   go_simp
   try with_reducible rfl
 try simp only [Act.put]
 refine pkA (v := ?_) 9 (some 40) rfl rfl ?_ (by assumption) ?_
 rotate_left
 · intro w'
   go_simp
   try with_reducible rfl
 try simp only [Act.put]
 refine lateL (i := 10) (by kernel_rfl) rfl (by decide) (by kernel_rfl) (fun K hK => ?_)
 refine step_store_w rfl 103 (.tmp 40) (.tmp 38) rfl rfl rfl HS.out ?_
 refine hK.out _ _ ?_
 clear hK K
 try simp only [Act.put]
 refine doneL (by kernel_rfl) ?_ _
 clear hHeld
 try go_wp2
 refine bodyPost_end (results_none rfl _ _ _) rfl ?_
 exact ⟨rfl, F9.out, K9.out⟩

theorem keep_any2 (d base : Nat) (S : Sk) (s : Rf) (L : List Wl) (hL : L.length ≤ 1000000) (r : Rf) (a : An) (w : World) (X : Dk w d base S s L) : Calls Tryz.prog 65 #[.pointer (some ⟨d, 0, none⟩), .agg r.cells, .agg (anL a).toArray] w fun e' w' => e' = .returned (.tuple #[]) ∧ Dk w' d base S s (keepL L ⟨r.id, S.wl, S.wb, a.l, a.r⟩) ∧ Kd base w w' := by
 obtain ⟨to, v, hto, X⟩ := X
 cases hk : knI L (r.id, S.wl, S.wb) with
 | none => exact keep_out d base S s L to v hto hL r a (by unfold knV; rw [hk]) (by unfold keepL; rw [show (Wl.pr ⟨r.id, S.wl, S.wb, a.l, a.r⟩).1 = (r.id, S.wl, S.wb) from rfl, hk]) w X
 | some i => exact keep_in d base S s L to v hto hL r a i (knI_some hk).1 (by unfold knV; rw [hk]) (by unfold keepL; rw [show (Wl.pr ⟨r.id, S.wl, S.wb, a.l, a.r⟩).1 = (r.id, S.wl, S.wb) from rfl, hk]) w X

end Go.Proofs.YtokehogcenjefaaGreatDoor
