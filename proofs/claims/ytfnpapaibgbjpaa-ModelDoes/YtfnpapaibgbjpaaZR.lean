/- Package model: may, Do. -/
import Derived.Test.YtfnpapaibgbjpaaZP
namespace Go.Proofs.Ytfnpapaibgbjpaa
open Go.RowKit Go.Maps

open Classical in
noncomputable def mayE (l : List It) (kd high : Int) (n : Nat) : Int := if okM l then clE kd high n else 103
set_option maxHeartbeats 1000000 in
set_option maxRecDepth 100000 in
theorem may_any (v : Value) (l : List It) (hl : l.length ≤ 100000) (kd key high : Int) (ca : Option Addr) (cn cc : Nat) (w : World) (h : Sl w v l) :
    Calls Try.prog 36 #[v, .agg #[.int .i64 kd, .int .u64 key, .int .u64 high, .slice ca cn cc]] w fun e w' => e = .returned (.int .i64 (mayE l kd high cn)) ∧ Below w.heap.size w w' := by
  have b1 := (Below.refl w.heap.size w).alloc (Nat.le_refl _) (.cells #[.int .i64 kd, .int .u64 key, .int .u64 high, .slice ca cn cc] 27)
  have Vb := hide (IsB.new w #[.int .i64 kd, .int .u64 key, .int .u64 high, .slice ca cn cc] 27)
  have CK := hide (check_any v l hl _ (h.below b1))
  have B1 := hide b1
  clear b1 h
  by_cases ho : okM l
  · rw [ckE_yes ho] at CK
    have HE : Hid (mayE l kd high cn = clE kd high cn) := if_pos ho
    clear ho
    go_enter Try.func36, Try.ntmps36
    go_wp2_with fail
    generalize w.alloc (.cells #[.int .i64 kd, .int .u64 key, .int .u64 high, .slice ca cn cc] 27) = W1 at *
    generalize hH : w.heap.size = H at Vb ⊢
    replace hH := hide hH
    refine CK.out.mono ?_
    rintro e w2 ⟨rfl, hb⟩
    have z0 := (Vb.out.below hb).cell 0
    have z1 := (Vb.out.below hb).cell 1
    have z2 := (Vb.out.below hb).cell 2
    have z3 := (Vb.out.below hb).cell 3
    simp at z0 z1 z2 z3
    have B2 := hide (B1.out.trans (hb.mono B1.out.size))
    clear hb CK
    go_wp2_with fail
    refine (call_any kd key high ca cn cc w2).mono ?_
    rintro e w3 ⟨rfl, hb⟩
    have B3 := hide (B2.out.trans (hb.mono B2.out.size))
    clear hb z0 z1 z2 z3
    generalize clE kd high cn = E at *
    go_wp2
    go_ret
    exact ⟨by rw [HE.out]; rfl, B3.out⟩
  · rw [ckE_no ho] at CK
    have HE : Hid (mayE l kd high cn = 103) := if_neg ho
    clear ho
    go_enter Try.func36, Try.ntmps36
    go_wp2_with fail
    refine CK.out.mono ?_
    rintro e w2 ⟨rfl, hb⟩
    have B2 := hide (B1.out.trans (hb.mono B1.out.size))
    clear hb CK
    go_wp2
    go_ret
    exact ⟨by rw [HE.out]; rfl, B2.out⟩

theorem results_tct {fn : Func} {t p u : Tmp} {ty : TypeId} (h : fn.results = #[.tmp t, .cell p ty, .tmp u]) (tmps : Array Value) (P : Program) (w : World) :
    (results fn tmps).run P w =
      ((asAddr (tmps.getD p undef)).run P w).andThen fun a w₁ => ((loadVar ty a).run P w₁).andThen fun v w₂ => .ok (.tuple #[tmps.getD t undef, v, tmps.getD u undef]) w₂ := by
  simp only [results, h]
  simp [Sem.run_bind, Result.andThen]
theorem ret_do {fn : Func} {t p u : Tmp} (hf : fn.results = #[.tmp t, .cell p 46, .tmp u]) {Q : Ending → World → Prop} {tmps : Array Value} {w : World} {b : Nat} {cs : Array Value} {v x : Value} (hs : cs.size = 15)
    (ht : tmps.getD t undef = v) (hp : tmps.getD p undef = .pointer (some ⟨b, 0, none⟩)) (hu : tmps.getD u undef = x) (I : IsB w b cs 46) (hQ : Q (.returned (.tuple #[v, .agg cs, x])) w) :
    bodyPost Try.prog fn Q .ret ⟨tmps, []⟩ w := by
  refine bodyPost_ret ?_ rfl hQ
  rw [results_tct hf, ht, hp, hu]
  have h := run_loadVar_row (P := Try.prog) w b 46 46 cs (0, 0) _ I Try.underlying46 rfl (by rw [hs]; exact res_info)
  simp [asAddr, h, Result.andThen]

def zRV : RV := (0, 0, [], [], false)
open Classical in
/-- What Do makes of items and a call. -/
noncomputable def doE (l : List It) (c : Ca) : List Kv × RV × Int := if okM l then (if c.ok then (c.wrote l, c.told l, 0) else ([], zRV, 104)) else ([], zRV, 103)
theorem doE_no {l : List It} {c : Ca} (h : mayE l c.kd c.high c.bs.length ≠ 0) : doE l c = ([], zRV, mayE l c.kd c.high c.bs.length) := by
  unfold doE mayE at *
  by_cases ho : okM l
  · rw [if_pos ho] at h ⊢
    rw [if_pos ho]
    cases hc : okC c.kd c.high c.bs.length with
    | true => rw [clE_yes hc] at h; exact absurd rfl h
    | false =>
      rw [clE_no hc]
      have : c.ok = false := hc
      rw [this]
      rfl
  · rw [if_neg ho, if_neg ho]
theorem mayE_ok {l : List It} {kd high : Int} {n : Nat} (h : mayE l kd high n = 0) : okM l ∧ okC kd high n = true := by
  unfold mayE at h
  by_cases ho : okM l
  · rw [if_pos ho] at h
    refine ⟨ho, ?_⟩
    cases hc : okC kd high n with
    | true => rfl
    | false => rw [clE_no hc] at h; cases h
  · rw [if_neg ho] at h; cases h
theorem doE_yes {l : List It} {c : Ca} (ho : okM l) (hc : c.ok = true) : doE l c = (c.wrote l, c.told l, 0) := by
  unfold doE
  rw [if_pos ho, hc]
  rfl

set_option maxHeartbeats 1000000 in
set_option maxRecDepth 100000 in
theorem do_any (v : Value) (l : List It) (hl : l.length ≤ 1000) (kd key high : Int) (ca : Option Addr) (cc : Nat) (cb : List UInt8) (w : World) (h : Sl w v l) (hrd : RdC w (⟨kd, key, high, ca, cc, cb⟩ : Ca)) :
    Calls Try.prog 21 #[v, .agg #[.int .i64 kd, .int .u64 key, .int .u64 high, .slice ca cb.length cc]] w fun e w' => ∃ v' m r E, e = .returned (.tuple #[v', .agg (Rs.cells r), .int .i64 E]) ∧ Ow w' v' m ∧ RsOk w' w.heap.size r ∧ (m.map It.val, Rs.val r, E) = doE l (⟨kd, key, high, ca, cc, cb⟩ : Ca) ∧ (∀ k, v'.ownBlock = some k → w.heap.size ≤ k) ∧ Below w.heap.size w w' := by
  have mixed : Try.prog.follows .mixedOrders = true := by kernel_rfl
  obtain ⟨cn, hcn⟩ : ∃ z, cb.length = z := ⟨_, rfl⟩
  rw [hcn]
  replace hcn := hide hcn
  have b2 := ((Below.refl w.heap.size w).alloc (Nat.le_refl _) (.cells #[.int .i64 kd, .int .u64 key, .int .u64 high, .slice ca cn cc] 27)).alloc (by simp) (.cells #[.int .i64 0, .int .u64 0, .slice none 0 0, .slice none 0 0, .int .i64 0, .int .i64 0, .int .u64 0, .int .i64 0, .int .u64 0, .int .i64 0, .int .i64 0, .int .u64 0, .int .i64 0, .int .u64 0, .bool false] 46)
  have Vb : Hid (IsB ((w.alloc (.cells #[.int .i64 kd, .int .u64 key, .int .u64 high, .slice ca cn cc] 27)).alloc (.cells #[.int .i64 0, .int .u64 0, .slice none 0 0, .slice none 0 0, .int .i64 0, .int .i64 0, .int .u64 0, .int .i64 0, .int .u64 0, .int .i64 0, .int .i64 0, .int .u64 0, .int .i64 0, .int .u64 0, .bool false] 46)) w.heap.size #[.int .i64 kd, .int .u64 key, .int .u64 high, .slice ca cn cc] 27) := (IsB.new w #[.int .i64 kd, .int .u64 key, .int .u64 high, .slice ca cn cc] _).below ((Below.refl _ _).alloc (Nat.le_refl _) _)
  have Zb : Hid (IsB ((w.alloc (.cells #[.int .i64 kd, .int .u64 key, .int .u64 high, .slice ca cn cc] 27)).alloc (.cells #[.int .i64 0, .int .u64 0, .slice none 0 0, .slice none 0 0, .int .i64 0, .int .i64 0, .int .u64 0, .int .i64 0, .int .u64 0, .int .i64 0, .int .i64 0, .int .u64 0, .int .i64 0, .int .u64 0, .bool false] 46)) (w.heap.size + 1) #[.int .i64 0, .int .u64 0, .slice none 0 0, .slice none 0 0, .int .i64 0, .int .i64 0, .int .u64 0, .int .i64 0, .int .u64 0, .int .i64 0, .int .i64 0, .int .u64 0, .int .i64 0, .int .u64 0, .bool false] 46) := by
    have := IsB.new (w.alloc (.cells #[.int .i64 kd, .int .u64 key, .int .u64 high, .slice ca cn cc] 27)) #[.int .i64 0, .int .u64 0, .slice none 0 0, .slice none 0 0, .int .i64 0, .int .i64 0, .int .u64 0, .int .i64 0, .int .u64 0, .int .i64 0, .int .i64 0, .int .u64 0, .int .i64 0, .int .u64 0, .bool false] 46
    rwa [World.size_alloc] at this
  have SL := hide (h.below b2)
  have HRd := hide (hrd.below b2)
  have B2 := hide b2
  have MY := hide (may_any v l (by omega) kd key high ca cn cc _ (h.below b2))
  have LC := hide (load_call Vb.out rfl)
  have hsz : Hid (w.heap.size + 1 < ((w.alloc (.cells #[.int .i64 kd, .int .u64 key, .int .u64 high, .slice ca cn cc] 27)).alloc (.cells #[.int .i64 0, .int .u64 0, .slice none 0 0, .slice none 0 0, .int .i64 0, .int .i64 0, .int .u64 0, .int .i64 0, .int .u64 0, .int .i64 0, .int .i64 0, .int .u64 0, .int .i64 0, .int .u64 0, .bool false] 46)).heap.size) := by show _ < _; simp
  clear h hrd b2
  go_enter Try.func21, Try.ntmps21
  go_wp2_with ((with_reducible refine wpList_load_w ?hw 27 (.tmp 3) ?ho ?hx LC.out ?h); (case ho => rfl); (case hw => rfl); (case hx => rfl))
  generalize ((w.alloc (.cells #[.int .i64 kd, .int .u64 key, .int .u64 high, .slice ca cn cc] 27)).alloc (.cells #[.int .i64 0, .int .u64 0, .slice none 0 0, .slice none 0 0, .int .i64 0, .int .i64 0, .int .u64 0, .int .i64 0, .int .u64 0, .int .i64 0, .int .i64 0, .int .u64 0, .int .i64 0, .int .u64 0, .bool false] 46)) = W2 at *
  generalize hH : w.heap.size = H at Vb Zb LC hsz ⊢
  replace hH := hide hH
  refine MY.out.mono ?_
  rintro e w3 ⟨rfl, hb⟩
  replace Vb := hide (Vb.out.below hb)
  replace Zb := hide (Zb.out.below hb)
  replace SL := hide (SL.out.below hb)
  replace HRd := hide (HRd.out.below hb)
  replace B2 := hide (B2.out.trans (hb.mono B2.out.size))
  have hs3 : Hid (H + 1 < w3.heap.size) := Nat.lt_of_lt_of_le hsz.out hb.size
  clear hb MY LC hsz
  by_cases hE : mayE l kd high cn = 0
  rotate_left
  · have HD : Hid (doE l (⟨kd, key, high, ca, cc, cb⟩ : Ca) = ([], zRV, mayE l kd high cn)) := by
      have := doE_no (l := l) (c := (⟨kd, key, high, ca, cc, cb⟩ : Ca)) (by show mayE l kd high cb.length ≠ 0; rw [hcn.out]; exact hE)
      show _ = _
      rw [this]
      show _ = ([], zRV, mayE l kd high cn)
      rw [← hcn.out]
    have hEb : (mayE l kd high cn == 0) = false := by simpa using hE
    generalize mayE l kd high cn = E at *
    obtain ⟨w4, hst, Z4, k4⟩ := store_res Zb.out (cs := #[.int .i64 0, .int .u64 0, .slice none 0 0, .slice none 0 0, .int .i64 0, .int .i64 0, .int .u64 0, .int .i64 0, .int .u64 0, .int .i64 0, .int .i64 0, .int .u64 0, .int .i64 0, .int .u64 0, .bool false]) rfl rfl (by kernel_rfl)
    have HST := hide hst
    have S4 := hide Z4
    have B4 : Hid (Below w.heap.size w w4) := B2.out.trans (k4.to_below (by have := hs3.out; have := hH.out; omega) (by simp; have := hH.out; omega))
    clear hst Z4 k4 hE
    go_wp2_with ((with_reducible refine wpList_store_w ?hw 46 (.tmp 5) (.tmp 14) ?ho ?hx ?hy HST.out ?h); (case ho => rfl); (case hw => rfl); (case hx => rfl); (case hy => rfl))
    refine ret_do (t := 4) (p := 5) (u := 6) (b := H + 1) Try.results21 rfl rfl rfl rfl S4.out ?_
    exact ⟨_, [], ⟨0, 0, none, 0, [], none, 0, [], false⟩, E, rfl, Ow.nil _, RsOk.plain _ _ _, by rw [HD.out]; rfl, fun k hk => (by cases hk), B4.out⟩
  · have HOK := hide (mayE_ok hE).1
    have HCK : Hid (Ca.ok (⟨kd, key, high, ca, cc, cb⟩ : Ca) = true) := by
      show okC kd high cb.length = true
      rw [hcn.out]; exact (mayE_ok hE).2
    rw [hE]
    clear hE
    have TD : Hid (Calls Try.prog 37 #[v, .agg #[.int .i64 kd, .int .u64 key, .int .u64 high, .slice ca cn cc]] w3 fun e w' => ∃ r : Rs, e = .returned (.agg r.cells) ∧ r.val = Ca.told (⟨kd, key, high, ca, cc, cb⟩ : Ca) l ∧ RsOk w' w3.heap.size r ∧ Below w3.heap.size w3 w') := by
      have t := told_any v l (by omega) HOK.out (⟨kd, key, high, ca, cc, cb⟩ : Ca) HCK.out w3 SL.out
      unfold Ca.cells at t
      simp only [] at t
      rw [hcn.out] at t
      exact t
    have LC := hide (load_call Vb.out rfl)
    go_wp2_with ((with_reducible refine wpList_load_w ?hw 27 (.tmp 3) ?ho ?hx LC.out ?h); (case ho => rfl); (case hw => rfl); (case hx => rfl))
    refine TD.out.mono ?_
    rintro e w4 ⟨r, rfl, hrv, hro, hb⟩
    have RO4 : Hid (RsOk w4 w.heap.size r) := ⟨hro.by_, hro.vn, hro.it, fun k hk => by have := hro.new k hk; have := hs3.out; have := hH.out; omega⟩
    have hlow0 : Hid (∀ k, (Value.slice r.ia r.il.length r.ic).ownBlock = some k → k < w4.heap.size) := fun k hk => (hro.it.row.lt k hk).1
    replace Vb := hide (Vb.out.below hb)
    replace Zb := hide (Zb.out.below hb)
    replace SL := hide (SL.out.below hb)
    replace HRd := hide (HRd.out.below hb)
    replace B2 := hide (B2.out.trans (hb.mono B2.out.size))
    have hs4 : Hid (H + 1 < w4.heap.size) := Nat.lt_of_lt_of_le hs3.out hb.size
    have HRV := hide hrv
    have hre : r.e = (Ca.told (⟨kd, key, high, ca, cc, cb⟩ : Ca) l).1 := by rw [← hrv]; rfl
    clear hb hro hrv TD LC
    obtain ⟨re, rk, rva, rvc, rvb, ria, ric, ril, rf⟩ := r
    simp only [] at hre
    replace hre := hide hre
    simp only [Rs.cells]
    generalize hrvn : rvb.length = rvn
    generalize hrin : ril.length = rin
    replace hrvn := hide hrvn
    replace hrin := hide hrin
    have b7 := (Below.refl w4.heap.size w4).alloc (Nat.le_refl _) (.cells #[.int .i64 re, .int .u64 rk, .slice rva rvn rvc, .slice ria rin ric, .int .i64 0, .int .i64 0, .int .u64 0, .int .i64 0, .int .u64 0, .int .i64 0, .int .i64 0, .int .u64 0, .int .i64 0, .int .u64 0, .bool rf] 46)
    have Rb := hide (IsB.new w4 #[.int .i64 re, .int .u64 rk, .slice rva rvn rvc, .slice ria rin ric, .int .i64 0, .int .i64 0, .int .u64 0, .int .i64 0, .int .u64 0, .int .i64 0, .int .i64 0, .int .u64 0, .int .i64 0, .int .u64 0, .bool rf] 46)
    replace Vb := hide (Vb.out.below b7)
    replace Zb := hide (Zb.out.below b7)
    replace SL := hide (SL.out.below b7)
    replace HRd := hide (HRd.out.below b7)
    replace RO4 := hide (RO4.out.below b7)
    have B4 := hide (B2.out.trans (b7.mono B2.out.size))
    have hws : Hid (w.heap.size ≤ (w4.alloc (.cells #[.int .i64 re, .int .u64 rk, .slice rva rvn rvc, .slice ria rin ric, .int .i64 0, .int .i64 0, .int .u64 0, .int .i64 0, .int .u64 0, .int .i64 0, .int .i64 0, .int .u64 0, .int .i64 0, .int .u64 0, .bool rf] 46)).heap.size) := B4.out.size
    have hlow : Hid (∀ k, (Value.slice ria ril.length ric).ownBlock = some k → k < (w4.alloc (.cells #[.int .i64 re, .int .u64 rk, .slice rva rvn rvc, .slice ria rin ric, .int .i64 0, .int .i64 0, .int .u64 0, .int .i64 0, .int .u64 0, .int .i64 0, .int .i64 0, .int .u64 0, .int .i64 0, .int .u64 0, .bool rf] 46)).heap.size) := fun k hk => Nat.lt_of_lt_of_le (hlow0.out k hk) b7.size
    clear b7 hlow0
    go_wp2_with fail
    generalize w4.alloc (.cells #[.int .i64 re, .int .u64 rk, .slice rva rvn rvc, .slice ria rin ric, .int .i64 0, .int .i64 0, .int .u64 0, .int .i64 0, .int .u64 0, .int .i64 0, .int .i64 0, .int .u64 0, .int .i64 0, .int .u64 0, .bool rf] 46) = W4 at *
    have hRH : Hid (H + 1 < w4.heap.size) := hs4.out
    generalize w4.heap.size = R at Rb hRH ⊢
    have hHw : Hid (w.heap.size = H) := hH.out
    refine regionL 10 (fun w' => IsB w' H #[.int .i64 kd, .int .u64 key, .int .u64 high, .slice ca cn cc] 27 ∧ IsB w' R #[.int .i64 re, .int .u64 rk, .slice rva rvn rvc, .slice ria rin ric, .int .i64 0, .int .i64 0, .int .u64 0, .int .i64 0, .int .u64 0, .int .i64 0, .int .i64 0, .int .u64 0, .int .i64 0, .int .u64 0, .bool rf] 46) mixed ⟨Vb.out.below ((Below.refl _ _).drew), Rb.out.below ((Below.refl _ _).drew)⟩ (fun hHeld => ?_)
    refine pickA (v := ?_) 0 (some 19) rfl rfl (by kernel_rfl) (by kernel_rfl) (by kernel_rfl) (by decide) (fun _ _ _ h => h) (by rfl) ?_ (by assumption) ?_
    rotate_left
    · intro w'
      go_simp
      try with_reducible rfl
    try simp only [Act.put, List.setIfInBounds_toArray, List.set_cons_zero, List.set_cons_succ]
    refine pickL (v := .agg #[.int .i64 kd, .int .u64 key, .int .u64 high, .slice ca cn cc]) 2 (some 21) rfl rfl (by kernel_rfl) (by kernel_rfl) (by kernel_rfl) (by decide) (by kernel_rfl) (by kernel_rfl) (fun _ _ _ h => h) (by rfl) ?_ (by assumption) ?_
    · intro w' hSw
      obtain ⟨q0, q1⟩ := hSw
      exact exec_load rfl rfl (load_call q0 rfl)
    try simp only [Act.put, List.setIfInBounds_toArray, List.set_cons_zero, List.set_cons_succ]
    refine pickA (v := ?_) 3 (some 22) rfl rfl (by kernel_rfl) (by kernel_rfl) (by kernel_rfl) (by decide) (fun _ _ _ h => h) (by rfl) ?_ (by assumption) ?_
    rotate_left
    · intro w'
      go_simp
      try with_reducible rfl
    try simp only [Act.put, List.setIfInBounds_toArray, List.set_cons_zero, List.set_cons_succ]
    refine pickL (v := .int .i64 re) 4 (some 23) rfl rfl (by kernel_rfl) (by kernel_rfl) (by kernel_rfl) (by decide) (by kernel_rfl) (by kernel_rfl) (fun _ _ _ h => h) (by rfl) ?_ (by assumption) ?_
    · intro w' hSw
      obtain ⟨q0, q1⟩ := hSw
      have y0 := q1.cell 0
      simp at y0
      go_simp
    try simp only [Act.put, List.setIfInBounds_toArray, List.set_cons_zero, List.set_cons_succ]
    refine pickL (v := .agg #[.int .i64 re, .int .u64 rk, .slice rva rvn rvc, .slice ria rin ric, .int .i64 0, .int .i64 0, .int .u64 0, .int .i64 0, .int .u64 0, .int .i64 0, .int .i64 0, .int .u64 0, .int .i64 0, .int .u64 0, .bool rf]) 6 (some 25) rfl rfl (by kernel_rfl) (by kernel_rfl) (by kernel_rfl) (by decide) (by kernel_rfl) (by kernel_rfl) (fun _ _ _ h => h) (by rfl) ?_ (by assumption) ?_
    · intro w' hSw
      obtain ⟨q0, q1⟩ := hSw
      exact exec_load rfl rfl (load_res q1 rfl)
    try simp only [Act.put, List.setIfInBounds_toArray, List.set_cons_zero, List.set_cons_succ]
    refine oneL (i := 1) (by kernel_rfl) rfl (fun K hK => ?_)
    go_simp
    refine (copied_any v l (by omega) (okM_bs HOK.out) _ (SL.out.below ((Below.refl _ _).drew))).mono ?_; rintro e w5 ⟨v5, m0, rfl, hO, hm, hnw, b5⟩
    have b6 : Below W4.heap.size W4 w5 := ((Below.refl W4.heap.size W4).drew).trans (b5.mono (Nat.le_refl _))
    have O5 := hide hO
    have M5 := hide hm
    have N5 : Hid (∀ k, v5.ownBlock = some k → W4.heap.size ≤ k) := hnw
    replace Vb := hide (Vb.out.below b6)
    replace Zb := hide (Zb.out.below b6)
    replace Rb := hide (Rb.out.below b6)
    replace RO4 := hide (RO4.out.below b6)
    replace HRd := hide (HRd.out.below b6)
    replace B4 := hide (B4.out.trans (b6.mono hws.out))
    have hws5 : Hid (W4.heap.size ≤ w5.heap.size) := b6.size
    clear hO hm hnw b5 b6
    refine hK.out _ _ ?_ ?_
    · exact ⟨Vb.out, Rb.out⟩
    clear hK K
    try simp only [Act.put, List.setIfInBounds_toArray, List.set_cons_zero, List.set_cons_succ]
    clear hHeld
    have hHeld : (fun w' => IsB w' H #[.int .i64 kd, .int .u64 key, .int .u64 high, .slice ca cn cc] 27 ∧ IsB w' R #[.int .i64 re, .int .u64 rk, .slice rva rvn rvc, .slice ria rin ric, .int .i64 0, .int .i64 0, .int .u64 0, .int .i64 0, .int .u64 0, .int .i64 0, .int .i64 0, .int .u64 0, .int .i64 0, .int .u64 0, .bool rf] 46) w5 := ⟨Vb.out, Rb.out⟩
    refine oneL (i := 5) (by kernel_rfl) rfl (fun K hK => ?_)
    have WD : Hid (Calls Try.prog 38 #[v5, .agg #[.int .i64 kd, .int .u64 key, .int .u64 high, .slice ca cn cc], .int .i64 re] w5 fun e w' => ∃ v' m', e = .returned v' ∧ Ow w' v' m' ∧ m'.map It.val = Ca.wrote (⟨kd, key, high, ca, cc, cb⟩ : Ca) l ∧ (v'.ownBlock = v5.ownBlock ∨ ∃ q, v'.ownBlock = some q ∧ w5.heap.size ≤ q) ∧ Kp v5.ownBlock.toList w5 w') := by
      have ho5 : okM m0 := by rw [okM_iff, M5.out, ← okM_iff]; exact HOK.out
      have hl5 : m0.length ≤ 100000 := by have := congrArg List.length M5.out; simp at this; omega
      have t := write_any v5 m0 hl5 ho5 (⟨kd, key, high, ca, cc, cb⟩ : Ca) HCK.out w5 HRd.out O5.out
      unfold Ca.cells at t
      simp only [] at t
      rw [hcn.out, told_congr M5.out, ← hre.out, wrote_congr M5.out] at t
      exact t
    go_simp
    refine WD.out.mono ?_; rintro e w8 ⟨v8, m8, rfl, hO, hm8, hat, hk⟩
    have hS : ∀ k ∈ v5.ownBlock.toList, ∃ cur, w5.heap[k]? = some (.cells cur 61 (0, 0)) := O5.out.row.kinds
    have off : ∀ {b cs t}, IsB w5 b cs t → t ≠ 61 → b ∉ v5.ownBlock.toList := fun hB ht hm => by
      obtain ⟨cur, hc⟩ := hS _ hm
      exact ht (cells_inj hB hc)
    replace Vb := hide (Vb.out.kp hk (off Vb.out (by decide)))
    replace Zb := hide (Zb.out.kp hk (off Zb.out (by decide)))
    replace Rb := hide (Rb.out.kp hk (off Rb.out (by decide)))
    have RO8 : Hid (RsOk w8 w.heap.size (⟨re, rk, rva, rvc, rvb, ria, ric, ril, rf⟩ : Rs)) := RO4.out.keep hk (fun k hm => by obtain ⟨cur, hc⟩ := hS k hm; exact ⟨cur, _, hc, by decide⟩) (fun k hm e => by have h1 := N5.out k (by simpa using hm); have h2 := hlow.out k e; omega)
    have O8 := hide hO
    have M8 := hide hm8
    have B8 : Hid (Below w.heap.size w w8) := B4.out.trans (hk.to_below (by have := hws5.out; have := hws.out; omega) (fun k hm => by have := N5.out k (by simpa using hm); have := hws.out; omega))
    have N8 : Hid (∀ k, v8.ownBlock = some k → w.heap.size ≤ k) := fun k hk' => by
      rcases hat with e | ⟨q, e, hq⟩
      · have := N5.out k (by rw [← e]; exact hk'); have := hws.out; omega
      · rw [e] at hk'; injection hk' with hk'; have := hws5.out; have := hws.out; omega
    have hws8 : Hid (w5.heap.size ≤ w8.heap.size) := hk.size
    clear hO hm8 hat hk hS off WD
    refine hK.out _ _ ?_ ?_
    · exact ⟨Vb.out, Rb.out⟩
    clear hK K
    try simp only [Act.put, List.setIfInBounds_toArray, List.set_cons_zero, List.set_cons_succ]
    clear hHeld
    have hHeld : (fun w' => IsB w' H #[.int .i64 kd, .int .u64 key, .int .u64 high, .slice ca cn cc] 27 ∧ IsB w' R #[.int .i64 re, .int .u64 rk, .slice rva rvn rvc, .slice ria rin ric, .int .i64 0, .int .i64 0, .int .u64 0, .int .i64 0, .int .u64 0, .int .i64 0, .int .i64 0, .int .u64 0, .int .i64 0, .int .u64 0, .bool rf] 46) w8 := ⟨Vb.out, Rb.out⟩
    refine pickA (v := ?_) 7 (some 4) rfl rfl (by kernel_rfl) (by kernel_rfl) (by kernel_rfl) (by decide) (fun _ _ _ h => h) (by rfl) ?_ (by assumption) ?_
    rotate_left
    · intro w'
      go_simp
      try with_reducible rfl
    try simp only [Act.put, List.setIfInBounds_toArray, List.set_cons_zero, List.set_cons_succ]
    refine oneL (i := 8) (by kernel_rfl) rfl (fun K hK => ?_)
    obtain ⟨w9, hst, Z9, k9⟩ := store_res Zb.out (cs := #[.int .i64 re, .int .u64 rk, .slice rva rvn rvc, .slice ria rin ric, .int .i64 0, .int .i64 0, .int .u64 0, .int .i64 0, .int .u64 0, .int .i64 0, .int .i64 0, .int .u64 0, .int .i64 0, .int .u64 0, .bool rf]) rfl rfl (by kernel_rfl)
    have HST := hide hst
    have V9 := hide (Vb.out.kp k9 (by simp))
    have R9 := hide (Rb.out.kp k9 (by simp; have := hRH.out; omega))
    have S9 := hide Z9
    have B9 : Hid (Below w.heap.size w w9) := B8.out.trans (k9.to_below (by have := B8.out.size; omega) (by simp; have := hHw.out; omega))
    have O9 : Hid (Ow w9 v8 m8) := ⟨O8.out.row.kp k9 (fun k hv hm => by simp at hm; subst hm; obtain ⟨-, cur2, hc2⟩ := O8.out.row.lt _ hv; exact absurd (cells_inj hc2 Zb.out) (by decide)), fun it hi => ⟨(O8.out.byt it hi).1.kp k9 (fun k hm cur h0 => by simp at hm; subst hm; exact absurd (cells_inj h0 Zb.out) (by decide)), (O8.out.byt it hi).2⟩⟩
    have RO9 : Hid (RsOk w9 w.heap.size (⟨re, rk, rva, rvc, rvb, ria, ric, ril, rf⟩ : Rs)) := RO8.out.keep k9 (fun k hm => by simp at hm; subst hm; exact ⟨_, _, Zb.out, by decide⟩) (fun k hm e => by simp at hm; subst hm; obtain ⟨-, cur2, hc2⟩ := RO8.out.it.row.lt _ e; exact absurd (cells_inj hc2 Zb.out) (by decide))
    clear hst Z9 k9
    refine step_store_w rfl 46 (.tmp 5) (.tmp 25) rfl rfl rfl HST.out ?_
    refine hK.out _ _ ?_ ?_
    · exact ⟨V9.out, R9.out⟩
    clear hK K
    try simp only [Act.put, List.setIfInBounds_toArray]
    clear hHeld
    have hHeld : (fun w' => IsB w' H #[.int .i64 kd, .int .u64 key, .int .u64 high, .slice ca cn cc] 27 ∧ IsB w' R #[.int .i64 re, .int .u64 rk, .slice rva rvn rvc, .slice ria rin ric, .int .i64 0, .int .i64 0, .int .u64 0, .int .i64 0, .int .u64 0, .int .i64 0, .int .i64 0, .int .u64 0, .int .i64 0, .int .u64 0, .bool rf] 46) w9 := ⟨V9.out, R9.out⟩
    refine pickA (v := ?_) 9 (some 6) rfl rfl (by kernel_rfl) (by kernel_rfl) (by kernel_rfl) (by decide) (fun _ _ _ h => h) (by rfl) ?_ (by assumption) ?_
    rotate_left
    · intro w'
      go_simp
      try with_reducible rfl
    try simp only [Act.put]
    refine doneL (by kernel_rfl) ?_ _
    clear hHeld
    go_wp2
    refine ret_do (t := 4) (p := 5) (u := 6) (b := H + 1) Try.results21 rfl rfl rfl rfl S9.out ?_
    refine ⟨v8, m8, (⟨re, rk, rva, rvc, rvb, ria, ric, ril, rf⟩ : Rs), 0, ?_, O9.out, RO9.out, ?_, N8.out, B9.out⟩
    · rw [← hrvn.out, ← hrin.out]; rfl
    · rw [doE_yes HOK.out HCK.out, M8.out, HRV.out]

end Go.Proofs.Ytfnpapaibgbjpaa
