/- Tells: by the program, by the document. -/
import Derived.Test.YtfnpapaibgbjpaaYM
import Derived.Test.YtfnpapaibgbjpaaYJ
namespace Go.Proofs.Ytfnpapaibgbjpaa
open Go.RowKit Go.Maps

/-- Is what is told the same as a result that came in? -/
def srR (rv : RV) (e2 k2 : Int) (f2 : Bool) (vb2 : List UInt8) (il2 : List It) (l r : Rf) : Bool := (rv.1 == e2) && ((rv.2.1 == k2) && ((rv.2.2.2.2 == f2) && (zR l && (zR r && ((rv.2.2.1 == vb2) && (rv.2.2.2.1 == il2.map It.val))))))
theorem srE_val (x : Rs) (e2 k2 : Int) (f2 : Bool) (vb2 : List UInt8) (il2 : List It) (l r : Rf) : srE x.e x.key e2 k2 x.f f2 x.vb vb2 x.il il2 l r = srR x.val e2 k2 f2 vb2 il2 l r := rfl
theorem srR_self (x : Rs) : srR x.val x.e x.key x.f x.vb x.il (0, 0, 0, 0, 0) (0, 0, 0, 0, 0) = true := by
  unfold srR Rs.val zR
  simp
/-- Would a call tell it? -/
noncomputable def tlE (l : List It) (c : Ca) (e2 k2 : Int) (f2 : Bool) (vb2 : List UInt8) (il2 : List It) (lf rf : Rf) : Bool := ((doE l c).2.2 == 0) && srR (doE l c).2.1 e2 k2 f2 vb2 il2 lf rf
theorem doE_len (l : List It) (c : Ca) : (doE l c).2.1.2.2.2.1.length ≤ l.length := by
  unfold doE
  split
  · split
    · exact told_len c l
    · simp [zRV]
  · simp [zRV]
theorem doE_E {l : List It} {c : Ca} : (doE l c).2.2 = mayE l c.kd c.high c.bs.length := by
  by_cases h : mayE l c.kd c.high c.bs.length = 0
  · have h1 := mayE_ok h
    rw [doE_yes h1.1 h1.2, h]
  · rw [doE_no h]

set_option maxHeartbeats 2000000 in
set_option maxRecDepth 100000 in
theorem tells_any (v : Value) (l : List It) (hl : l.length ≤ 1000) (kd key high : Int) (ca : Option Addr) (cc : Nat) (cb : List UInt8) (e2 k2 : Int) (f2 : Bool) (va2 : Option Addr) (vc2 : Nat) (vb2 : List UInt8) (ia2 : Option Addr) (ic2 : Nat) (il2 : List It) (l0 l1 l2 l3 l4 r0 r1 r2 r3 r4 : Int) (w : World) (h : Sl w v l) (hrd : RdC w (⟨kd, key, high, ca, cc, cb⟩ : Ca)) (h2 : Rd8 w va2 vb2) (n2 : va2 = none → vc2 = 0) (s2 : SlX w ia2 ic2 il2) :
    Calls Try.prog 24 #[v, .agg #[.int .i64 kd, .int .u64 key, .int .u64 high, .slice ca cb.length cc], .agg #[.int .i64 e2, .int .u64 k2, .slice va2 vb2.length vc2, .slice ia2 il2.length ic2, .int .i64 l0, .int .i64 l1, .int .u64 l2, .int .i64 l3, .int .u64 l4, .int .i64 r0, .int .i64 r1, .int .u64 r2, .int .i64 r3, .int .u64 r4, .bool f2]] w fun E w' => E = .returned (.bool (tlE l (⟨kd, key, high, ca, cc, cb⟩ : Ca) e2 k2 f2 vb2 il2 (l0, l1, l2, l3, l4) (r0, r1, r2, r3, r4))) ∧ Below w.heap.size w w' := by
  have mixed : Try.prog.follows .mixedOrders = true := by kernel_rfl
  obtain ⟨cn, hcn⟩ : ∃ z, cb.length = z := ⟨_, rfl⟩
  obtain ⟨vn2, hvn2⟩ : ∃ z, vb2.length = z := ⟨_, rfl⟩
  obtain ⟨inn2, hin2⟩ : ∃ z, il2.length = z := ⟨_, rfl⟩
  rw [hcn, hvn2, hin2]
  replace hcn := hide hcn
  replace hvn2 := hide hvn2
  replace hin2 := hide hin2
  have b2 := ((Below.refl w.heap.size w).alloc (Nat.le_refl _) (.cells #[.int .i64 kd, .int .u64 key, .int .u64 high, .slice ca cn cc] 27)).alloc (by simp) (.cells #[.int .i64 e2, .int .u64 k2, .slice va2 vn2 vc2, .slice ia2 inn2 ic2, .int .i64 l0, .int .i64 l1, .int .u64 l2, .int .i64 l3, .int .u64 l4, .int .i64 r0, .int .i64 r1, .int .u64 r2, .int .i64 r3, .int .u64 r4, .bool f2] 46)
  have Vb : Hid (IsB ((w.alloc (.cells #[.int .i64 kd, .int .u64 key, .int .u64 high, .slice ca cn cc] 27)).alloc (.cells #[.int .i64 e2, .int .u64 k2, .slice va2 vn2 vc2, .slice ia2 inn2 ic2, .int .i64 l0, .int .i64 l1, .int .u64 l2, .int .i64 l3, .int .u64 l4, .int .i64 r0, .int .i64 r1, .int .u64 r2, .int .i64 r3, .int .u64 r4, .bool f2] 46)) w.heap.size #[.int .i64 kd, .int .u64 key, .int .u64 high, .slice ca cn cc] 27) := (IsB.new w #[.int .i64 kd, .int .u64 key, .int .u64 high, .slice ca cn cc] _).below ((Below.refl _ _).alloc (Nat.le_refl _) _)
  have Wb : Hid (IsB ((w.alloc (.cells #[.int .i64 kd, .int .u64 key, .int .u64 high, .slice ca cn cc] 27)).alloc (.cells #[.int .i64 e2, .int .u64 k2, .slice va2 vn2 vc2, .slice ia2 inn2 ic2, .int .i64 l0, .int .i64 l1, .int .u64 l2, .int .i64 l3, .int .u64 l4, .int .i64 r0, .int .i64 r1, .int .u64 r2, .int .i64 r3, .int .u64 r4, .bool f2] 46)) (w.heap.size + 1) #[.int .i64 e2, .int .u64 k2, .slice va2 vn2 vc2, .slice ia2 inn2 ic2, .int .i64 l0, .int .i64 l1, .int .u64 l2, .int .i64 l3, .int .u64 l4, .int .i64 r0, .int .i64 r1, .int .u64 r2, .int .i64 r3, .int .u64 r4, .bool f2] 46) := by
    have := IsB.new (w.alloc (.cells #[.int .i64 kd, .int .u64 key, .int .u64 high, .slice ca cn cc] 27)) #[.int .i64 e2, .int .u64 k2, .slice va2 vn2 vc2, .slice ia2 inn2 ic2, .int .i64 l0, .int .i64 l1, .int .u64 l2, .int .i64 l3, .int .u64 l4, .int .i64 r0, .int .i64 r1, .int .u64 r2, .int .i64 r3, .int .u64 r4, .bool f2] 46
    rwa [World.size_alloc] at this
  have SL := hide (h.below b2)
  have HRd := hide (hrd.below b2)
  have RD2 := hide (h2.below b2)
  have SX2 := hide (s2.below b2)
  have N2 := hide n2
  have B2 := hide b2
  clear h hrd h2 n2 s2 b2
  have DE : Hid ((doE l (⟨kd, key, high, ca, cc, cb⟩ : Ca)).2.2 = mayE l kd high cn) := by
    show _ = _
    rw [doE_E]
    show mayE l kd high cb.length = _
    rw [hcn.out]
  go_enter Try.func24, Try.ntmps24
  go_wp2_with fail
  generalize ((w.alloc (.cells #[.int .i64 kd, .int .u64 key, .int .u64 high, .slice ca cn cc] 27)).alloc (.cells #[.int .i64 e2, .int .u64 k2, .slice va2 vn2 vc2, .slice ia2 inn2 ic2, .int .i64 l0, .int .i64 l1, .int .u64 l2, .int .i64 l3, .int .u64 l4, .int .i64 r0, .int .i64 r1, .int .u64 r2, .int .i64 r3, .int .u64 r4, .bool f2] 46)) = W2 at *
  generalize hH : w.heap.size = H at Vb Wb ⊢
  replace hH := hide hH
  by_cases hE : mayE l kd high cn = 0
  rotate_left
  · have HE : Hid (tlE l (⟨kd, key, high, ca, cc, cb⟩ : Ca) e2 k2 f2 vb2 il2 (l0, l1, l2, l3, l4) (r0, r1, r2, r3, r4) = false) := by
      show _ = _
      unfold tlE
      rw [DE.out, show (mayE l kd high cn == 0) = false by simpa using hE]
      rfl
    have hEb : (mayE l kd high cn == 0) = false := by simpa using hE
    have MY : Hid (∀ W, Sl W v l → Calls Try.prog 36 #[v, .agg #[.int .i64 kd, .int .u64 key, .int .u64 high, .slice ca cn cc]] W fun e w' => e = .returned (.int .i64 (mayE l kd high cn)) ∧ Below W.heap.size W w') := fun W hs => may_any v l (by omega) kd key high ca cn cc W hs
    generalize mayE l kd high cn = EE at *
    refine regionL 12 (fun w' => IsB w' H #[.int .i64 kd, .int .u64 key, .int .u64 high, .slice ca cn cc] 27 ∧ IsB w' (H + 1) #[.int .i64 e2, .int .u64 k2, .slice va2 vn2 vc2, .slice ia2 inn2 ic2, .int .i64 l0, .int .i64 l1, .int .u64 l2, .int .i64 l3, .int .u64 l4, .int .i64 r0, .int .i64 r1, .int .u64 r2, .int .i64 r3, .int .u64 r4, .bool f2] 46) mixed ⟨Vb.out.below ((Below.refl _ _).drew), Wb.out.below ((Below.refl _ _).drew)⟩ (fun hHeld => ?_)
    refine pickA (v := ?_) 0 (some 7) rfl rfl (by kernel_rfl) (by kernel_rfl) (by kernel_rfl) (by decide) (fun _ _ _ h => h) (by rfl) ?_ (by assumption) ?_
    rotate_left
    · intro w'
      go_simp
      try with_reducible rfl
    try simp only [Act.put, List.setIfInBounds_toArray, List.set_cons_zero, List.set_cons_succ]
    refine pickL (v := .agg #[.int .i64 kd, .int .u64 key, .int .u64 high, .slice ca cn cc]) 1 (some 8) rfl rfl (by kernel_rfl) (by kernel_rfl) (by kernel_rfl) (by decide) (by kernel_rfl) (by kernel_rfl) (fun _ _ _ h => h) (by rfl) ?_ (by assumption) ?_
    · intro w' hSw
      obtain ⟨q0, q1⟩ := hSw
      exact exec_load rfl rfl (load_call q0 rfl)
    try simp only [Act.put, List.setIfInBounds_toArray, List.set_cons_zero, List.set_cons_succ]
    refine oneL (i := 2) (by kernel_rfl) rfl (fun K hK => ?_)
    go_simp
    have bD := (Below.refl W2.heap.size W2).drew
    replace Vb := hide (Vb.out.below bD)
    replace Wb := hide (Wb.out.below bD)
    replace SL := hide (SL.out.below bD)
    replace HRd := hide (HRd.out.below bD)
    replace RD2 := hide (RD2.out.below bD)
    replace SX2 := hide (SX2.out.below bD)
    replace B2 := hide (B2.out.trans (bD.mono B2.out.size))
    clear bD
    refine (MY.out _ SL.out).mono ?_
    rintro e w3 ⟨rfl, hb⟩
    replace Vb := hide (Vb.out.below hb)
    replace Wb := hide (Wb.out.below hb)
    replace SL := hide (SL.out.below hb)
    replace HRd := hide (HRd.out.below hb)
    replace RD2 := hide (RD2.out.below hb)
    replace SX2 := hide (SX2.out.below hb)
    replace B2 := hide (B2.out.trans (hb.mono B2.out.size))
    clear hb
    refine hK.out _ _ ?_ ?_
    · exact ⟨Vb.out, Wb.out⟩
    clear hK K
    try simp only [Act.put, List.setIfInBounds_toArray, List.set_cons_zero, List.set_cons_succ]
    clear hHeld
    have hHeld : (fun w' => IsB w' H #[.int .i64 kd, .int .u64 key, .int .u64 high, .slice ca cn cc] 27 ∧ IsB w' (H + 1) #[.int .i64 e2, .int .u64 k2, .slice va2 vn2 vc2, .slice ia2 inn2 ic2, .int .i64 l0, .int .i64 l1, .int .u64 l2, .int .i64 l3, .int .u64 l4, .int .i64 r0, .int .i64 r1, .int .u64 r2, .int .i64 r3, .int .u64 r4, .bool f2] 46) w3 := ⟨Vb.out, Wb.out⟩
    refine pickA (v := ?_) 3 (some 10) rfl rfl (by kernel_rfl) (by kernel_rfl) (by kernel_rfl) (by decide) (fun _ _ _ h => h) (by rfl) ?_ (by assumption) ?_
    rotate_left
    · intro w'
      go_simp
      try with_reducible rfl
    try simp only [Act.put, List.setIfInBounds_toArray, List.set_cons_zero, List.set_cons_succ]
    refine pickA (v := ?_) 4 (some 11) rfl rfl (by kernel_rfl) (by kernel_rfl) (by kernel_rfl) (by decide) (fun _ _ _ h => h) (by rfl) ?_ (by assumption) ?_
    rotate_left
    · intro w'
      go_simp
      try with_reducible rfl
    try simp only [Act.put, List.setIfInBounds_toArray, List.set_cons_zero, List.set_cons_succ]
    refine pickN 5 (some 12) rfl rfl (by kernel_rfl) (by kernel_rfl) (by kernel_rfl) (by decide) (fun _ _ _ h => h) (by rfl) (by assumption) ?_
    try simp only [Act.put, List.setIfInBounds_toArray, List.set_cons_zero, List.set_cons_succ]
    refine pickN 6 (some 13) rfl rfl (by kernel_rfl) (by kernel_rfl) (by kernel_rfl) (by decide) (fun _ _ _ h => h) (by rfl) (by assumption) ?_
    try simp only [Act.put, List.setIfInBounds_toArray, List.set_cons_zero, List.set_cons_succ]
    refine pickN 7 (some 14) rfl rfl (by kernel_rfl) (by kernel_rfl) (by kernel_rfl) (by decide) (fun _ _ _ h => h) (by rfl) (by assumption) ?_
    try simp only [Act.put, List.setIfInBounds_toArray, List.set_cons_zero, List.set_cons_succ]
    refine pickN 8 (some 15) rfl rfl (by kernel_rfl) (by kernel_rfl) (by kernel_rfl) (by decide) (fun _ _ _ h => h) (by rfl) (by assumption) ?_
    try simp only [Act.put, List.setIfInBounds_toArray, List.set_cons_zero, List.set_cons_succ]
    refine pickN 9 (some 16) rfl rfl (by kernel_rfl) (by kernel_rfl) (by kernel_rfl) (by decide) (fun _ _ _ h => h) (by rfl) (by assumption) ?_
    try simp only [Act.put, List.setIfInBounds_toArray, List.set_cons_zero, List.set_cons_succ]
    refine pickA (v := ?_) 10 (some 17) rfl rfl (by kernel_rfl) (by kernel_rfl) (by kernel_rfl) (by decide) (fun _ _ _ h => h) (by rfl) ?_ (by assumption) ?_
    rotate_left
    · intro w'
      go_simp
      try with_reducible rfl
    try simp only [Act.put, List.setIfInBounds_toArray, List.set_cons_zero, List.set_cons_succ]
    refine pickA (v := ?_) 11 (some 6) rfl rfl (by kernel_rfl) (by kernel_rfl) (by kernel_rfl) (by decide) (fun _ _ _ h => h) (by rfl) ?_ (by assumption) ?_
    rotate_left
    · intro w'
      go_simp
      try with_reducible rfl
    try simp only [Act.put, List.setIfInBounds_toArray, List.set_cons_zero, List.set_cons_succ]
    refine doneL (by kernel_rfl) ?_ _
    clear hHeld
    go_wp2
    go_ret
    exact ⟨by rw [HE.out]; rfl, B2.out⟩
  have hok := mayE_ok hE
  have HCK : Hid (Ca.ok (⟨kd, key, high, ca, cc, cb⟩ : Ca) = true) := by
    show okC kd high cb.length = true
    rw [hcn.out]; exact hok.2
  have HD : Hid (doE l (⟨kd, key, high, ca, cc, cb⟩ : Ca) = (Ca.wrote (⟨kd, key, high, ca, cc, cb⟩ : Ca) l, Ca.told (⟨kd, key, high, ca, cc, cb⟩ : Ca) l, 0)) := doE_yes hok.1 HCK.out
  have MY : Hid (∀ W, Sl W v l → Calls Try.prog 36 #[v, .agg #[.int .i64 kd, .int .u64 key, .int .u64 high, .slice ca cn cc]] W fun e w' => e = .returned (.int .i64 0) ∧ Below W.heap.size W w') := fun W hs => by
    have := may_any v l (by omega) kd key high ca cn cc W hs
    rw [hE] at this
    exact this
  have TD : Hid (∀ W, Sl W v l → Calls Try.prog 37 #[v, .agg #[.int .i64 kd, .int .u64 key, .int .u64 high, .slice ca cn cc]] W fun e w' => ∃ r : Rs, e = .returned (.agg r.cells) ∧ r.val = Ca.told (⟨kd, key, high, ca, cc, cb⟩ : Ca) l ∧ RsOk w' W.heap.size r ∧ Below W.heap.size W w') := fun W hs => by
    have t := told_any v l (by omega) hok.1 (⟨kd, key, high, ca, cc, cb⟩ : Ca) HCK.out W hs
    unfold Ca.cells at t
    simp only [] at t
    rw [hcn.out] at t
    exact t
  have HT : Hid (tlE l (⟨kd, key, high, ca, cc, cb⟩ : Ca) e2 k2 f2 vb2 il2 (l0, l1, l2, l3, l4) (r0, r1, r2, r3, r4) = srR (Ca.told (⟨kd, key, high, ca, cc, cb⟩ : Ca) l) e2 k2 f2 vb2 il2 (l0, l1, l2, l3, l4) (r0, r1, r2, r3, r4)) := by
    show _ = _
    unfold tlE
    rw [HD.out]
    rfl
  clear hok hE
  refine regionL 12 (fun w' => IsB w' H #[.int .i64 kd, .int .u64 key, .int .u64 high, .slice ca cn cc] 27 ∧ IsB w' (H + 1) #[.int .i64 e2, .int .u64 k2, .slice va2 vn2 vc2, .slice ia2 inn2 ic2, .int .i64 l0, .int .i64 l1, .int .u64 l2, .int .i64 l3, .int .u64 l4, .int .i64 r0, .int .i64 r1, .int .u64 r2, .int .i64 r3, .int .u64 r4, .bool f2] 46) mixed ⟨Vb.out.below ((Below.refl _ _).drew), Wb.out.below ((Below.refl _ _).drew)⟩ (fun hHeld => ?_)
  refine pickA (v := ?_) 0 (some 7) rfl rfl (by kernel_rfl) (by kernel_rfl) (by kernel_rfl) (by decide) (fun _ _ _ h => h) (by rfl) ?_ (by assumption) ?_
  rotate_left
  · intro w'
    go_simp
    try with_reducible rfl
  try simp only [Act.put, List.setIfInBounds_toArray, List.set_cons_zero, List.set_cons_succ]
  refine pickL (v := .agg #[.int .i64 kd, .int .u64 key, .int .u64 high, .slice ca cn cc]) 1 (some 8) rfl rfl (by kernel_rfl) (by kernel_rfl) (by kernel_rfl) (by decide) (by kernel_rfl) (by kernel_rfl) (fun _ _ _ h => h) (by rfl) ?_ (by assumption) ?_
  · intro w' hSw
    obtain ⟨q0, q1⟩ := hSw
    exact exec_load rfl rfl (load_call q0 rfl)
  try simp only [Act.put, List.setIfInBounds_toArray, List.set_cons_zero, List.set_cons_succ]
  refine oneL (i := 2) (by kernel_rfl) rfl (fun K hK => ?_)
  go_simp
  have bD := (Below.refl W2.heap.size W2).drew
  replace Vb := hide (Vb.out.below bD)
  replace Wb := hide (Wb.out.below bD)
  replace SL := hide (SL.out.below bD)
  replace HRd := hide (HRd.out.below bD)
  replace RD2 := hide (RD2.out.below bD)
  replace SX2 := hide (SX2.out.below bD)
  replace B2 := hide (B2.out.trans (bD.mono B2.out.size))
  clear bD
  refine (MY.out _ SL.out).mono ?_
  rintro e w3 ⟨rfl, hb⟩
  replace Vb := hide (Vb.out.below hb)
  replace Wb := hide (Wb.out.below hb)
  replace SL := hide (SL.out.below hb)
  replace HRd := hide (HRd.out.below hb)
  replace RD2 := hide (RD2.out.below hb)
  replace SX2 := hide (SX2.out.below hb)
  replace B2 := hide (B2.out.trans (hb.mono B2.out.size))
  clear hb
  refine hK.out _ _ ?_ ?_
  · exact ⟨Vb.out, Wb.out⟩
  clear hK K
  try simp only [Act.put, List.setIfInBounds_toArray, List.set_cons_zero, List.set_cons_succ]
  clear hHeld
  have hHeld : (fun w' => IsB w' H #[.int .i64 kd, .int .u64 key, .int .u64 high, .slice ca cn cc] 27 ∧ IsB w' (H + 1) #[.int .i64 e2, .int .u64 k2, .slice va2 vn2 vc2, .slice ia2 inn2 ic2, .int .i64 l0, .int .i64 l1, .int .u64 l2, .int .i64 l3, .int .u64 l4, .int .i64 r0, .int .i64 r1, .int .u64 r2, .int .i64 r3, .int .u64 r4, .bool f2] 46) w3 := ⟨Vb.out, Wb.out⟩
  refine pickA (v := ?_) 3 (some 10) rfl rfl (by kernel_rfl) (by kernel_rfl) (by kernel_rfl) (by decide) (fun _ _ _ h => h) (by rfl) ?_ (by assumption) ?_
  rotate_left
  · intro w'
    go_simp
    try with_reducible rfl
  try simp only [Act.put, List.setIfInBounds_toArray, List.set_cons_zero, List.set_cons_succ]
  refine pickA (v := ?_) 4 (some 11) rfl rfl (by kernel_rfl) (by kernel_rfl) (by kernel_rfl) (by decide) (fun _ _ _ h => h) (by rfl) ?_ (by assumption) ?_
  rotate_left
  · intro w'
    go_simp
    try with_reducible rfl
  try simp only [Act.put, List.setIfInBounds_toArray, List.set_cons_zero, List.set_cons_succ]
  refine pickA (v := ?_) 5 (some 12) rfl rfl (by kernel_rfl) (by kernel_rfl) (by kernel_rfl) (by decide) (fun _ _ _ h => h) (by rfl) ?_ (by assumption) ?_
  rotate_left
  · intro w'
    go_simp
    try with_reducible rfl
  try simp only [Act.put, List.setIfInBounds_toArray, List.set_cons_zero, List.set_cons_succ]
  refine pickL (v := .agg #[.int .i64 kd, .int .u64 key, .int .u64 high, .slice ca cn cc]) 6 (some 13) rfl rfl (by kernel_rfl) (by kernel_rfl) (by kernel_rfl) (by decide) (by kernel_rfl) (by kernel_rfl) (fun _ _ _ h => h) (by rfl) ?_ (by assumption) ?_
  · intro w' hSw
    obtain ⟨q0, q1⟩ := hSw
    exact exec_load rfl rfl (load_call q0 rfl)
  try simp only [Act.put, List.setIfInBounds_toArray, List.set_cons_zero, List.set_cons_succ]
  refine pickL (v := .agg #[.int .i64 e2, .int .u64 k2, .slice va2 vn2 vc2, .slice ia2 inn2 ic2, .int .i64 l0, .int .i64 l1, .int .u64 l2, .int .i64 l3, .int .u64 l4, .int .i64 r0, .int .i64 r1, .int .u64 r2, .int .i64 r3, .int .u64 r4, .bool f2]) 8 (some 15) rfl rfl (by kernel_rfl) (by kernel_rfl) (by kernel_rfl) (by decide) (by kernel_rfl) (by kernel_rfl) (fun _ _ _ h => h) (by rfl) ?_ (by assumption) ?_
  · intro w' hSw
    obtain ⟨q0, q1⟩ := hSw
    exact exec_load rfl rfl (load_res q1 rfl)
  try simp only [Act.put, List.setIfInBounds_toArray, List.set_cons_zero, List.set_cons_succ]
  refine oneL (i := 7) (by kernel_rfl) rfl (fun K hK => ?_)
  go_simp
  refine (TD.out _ SL.out).mono ?_
  rintro e w4 ⟨r, rfl, hrv, hro, hb⟩
  replace Vb := hide (Vb.out.below hb)
  replace Wb := hide (Wb.out.below hb)
  replace SL := hide (SL.out.below hb)
  replace HRd := hide (HRd.out.below hb)
  replace RD2 := hide (RD2.out.below hb)
  replace SX2 := hide (SX2.out.below hb)
  replace B2 := hide (B2.out.trans (hb.mono B2.out.size))
  have RO := hide hro.rd
  have HRV := hide hrv
  clear hb hro hrv
  refine hK.out _ _ ?_ ?_
  · exact ⟨Vb.out, Wb.out⟩
  clear hK K
  try simp only [Act.put, List.setIfInBounds_toArray, List.set_cons_zero, List.set_cons_succ]
  clear hHeld
  have hHeld : (fun w' => IsB w' H #[.int .i64 kd, .int .u64 key, .int .u64 high, .slice ca cn cc] 27 ∧ IsB w' (H + 1) #[.int .i64 e2, .int .u64 k2, .slice va2 vn2 vc2, .slice ia2 inn2 ic2, .int .i64 l0, .int .i64 l1, .int .u64 l2, .int .i64 l3, .int .u64 l4, .int .i64 r0, .int .i64 r1, .int .u64 r2, .int .i64 r3, .int .u64 r4, .bool f2] 46) w4 := ⟨Vb.out, Wb.out⟩
  obtain ⟨re, rk, rva, rvc, rvb, ria, ric, ril, rf⟩ := r
  simp only [Rs.cells]
  have hrl : ril.length ≤ 1000 := by
    have h9 := doE_len l (⟨kd, key, high, ca, cc, cb⟩ : Ca)
    rw [HD.out] at h9
    have h8 : (Rs.val (⟨re, rk, rva, rvc, rvb, ria, ric, ril, rf⟩ : Rs)).2.2.2.1.length = ril.length := by simp [Rs.val]
    rw [HRV.out] at h8
    simp only [] at h9
    omega
  have MS := msr_any re rk e2 k2 rf f2 rva va2 rvc vc2 rvb vb2 ria ia2 ric ic2 ril il2 l0 l1 l2 l3 l4 r0 r1 r2 r3 r4 w4 RO.out.rd RO.out.vn RD2.out N2.out RO.out.it SX2.out (by omega)
  rw [hvn2.out, hin2.out] at MS
  generalize rvb.length = rvn at MS ⊢
  generalize ril.length = rin at MS ⊢
  replace MS := hide MS
  clear hrl
  refine oneL (i := 9) (by kernel_rfl) rfl (fun K hK => ?_)
  go_simp
  refine MS.out.mono ?_
  rintro e w5 ⟨rfl, hb⟩
  replace Vb := hide (Vb.out.below hb)
  replace Wb := hide (Wb.out.below hb)
  replace SL := hide (SL.out.below hb)
  replace HRd := hide (HRd.out.below hb)
  replace RD2 := hide (RD2.out.below hb)
  replace SX2 := hide (SX2.out.below hb)
  replace B2 := hide (B2.out.trans (hb.mono B2.out.size))
  clear hb MS
  refine hK.out _ _ ?_ ?_
  · exact ⟨Vb.out, Wb.out⟩
  clear hK K
  try simp only [Act.put, List.setIfInBounds_toArray, List.set_cons_zero, List.set_cons_succ]
  clear hHeld
  have hHeld : (fun w' => IsB w' H #[.int .i64 kd, .int .u64 key, .int .u64 high, .slice ca cn cc] 27 ∧ IsB w' (H + 1) #[.int .i64 e2, .int .u64 k2, .slice va2 vn2 vc2, .slice ia2 inn2 ic2, .int .i64 l0, .int .i64 l1, .int .u64 l2, .int .i64 l3, .int .u64 l4, .int .i64 r0, .int .i64 r1, .int .u64 r2, .int .i64 r3, .int .u64 r4, .bool f2] 46) w5 := ⟨Vb.out, Wb.out⟩
  refine pickA (v := ?_) 10 (some 17) rfl rfl (by kernel_rfl) (by kernel_rfl) (by kernel_rfl) (by decide) (fun _ _ _ h => h) (by rfl) ?_ (by assumption) ?_
  rotate_left
  · intro w'
    go_simp
    try with_reducible rfl
  try simp only [Act.put, List.setIfInBounds_toArray, List.set_cons_zero, List.set_cons_succ]
  refine pickA (v := ?_) 11 (some 6) rfl rfl (by kernel_rfl) (by kernel_rfl) (by kernel_rfl) (by decide) (fun _ _ _ h => h) (by rfl) ?_ (by assumption) ?_
  rotate_left
  · intro w'
    go_simp
    try with_reducible rfl
  try simp only [Act.put, List.setIfInBounds_toArray, List.set_cons_zero, List.set_cons_succ]
  refine doneL (by kernel_rfl) ?_ _
  clear hHeld
  go_wp2
  go_ret
  refine ⟨?_, B2.out⟩
  rw [HT.out, ← HRV.out]
  rfl

end Go.Proofs.Ytfnpapaibgbjpaa
