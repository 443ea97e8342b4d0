/- The document's Next. -/
import Derived.Test.YtofmommoeligoaaDoorUC
import Derived.Test.YtofmommoeligoaaDoorTJ
namespace Go.Proofs.YtofmommoeligoaaDoor
open Go.RowKit Go.Maps Go.ChangeMaps

/-- What the document's splice wants. -/
def Ds.step (D : Ds) : List Value :=
  if D.st = 10 then stL 2 zr 0 0 0 zr zr 0 0 0 zr zr
  else if D.st = 11 then stL 3 zr 0 0 0 zr zr 0 0 D.e D.rl D.rr
  else if D.st = 1 then stL 1 D.p 3 D.wl D.wb zr zr D.oa D.oo 0 zr zr
  else if D.st = 3 then stL 1 D.r 1 D.wl D.wb zr zr 0 0 0 zr zr
  else if D.st = 4 then stL 1 D.me 7 D.wl D.wb D.p D.r D.oa D.oo 0 zr zr
  else if D.st = 5 then stL 1 D.p 5 D.wl D.wb D.me zr D.oa D.oo 0 zr zr
  else if D.st = 6 then stL 1 D.r 6 D.wl D.wb D.me zr 0 0 0 zr zr
  else if D.st = 7 then stL 1 D.me 4 D.wl D.wb zr zr D.oa D.oo 0 zr zr
  else if D.st = 8 then stL 1 D.me 8 D.wl D.wb zr zr D.oa D.oo 0 zr zr
  else stL 1 D.p 4 D.wl D.wb zr zr D.oa D.oo 0 zr zr
theorem ask_info : (Tryd.prog.info? 47).map (·.size) = some 15 := by kernel_rfl
set_option maxRecDepth 100000 in
theorem store_ask (w : World) (cs : Array Value) (hs : cs.size = 15) (h1 : cs.all (·.oneCell') = true) : (Instr.storeAt 47 (.pointer (some ⟨w.heap.size, 0, none⟩)) (.agg cs)).run Tryd.prog (w.alloc (.cells #[.int .i64 0, .int .i64 0, .int .u64 0, .int .i64 0, .int .i64 0, .int .u64 0, .int .i64 0, .int .u64 0, .int .i64 0, .int .i64 0, .int .u64 0, .int .i64 0, .int .u64 0, .int .i64 0, .int .i64 0] 47)) = .ok () (w.alloc (.cells cs 47)) := run_storeAt_new w 47 _ cs (by rw [hs]; exact ask_info) (by rw [hs]; rfl) h1
section
variable {w : World} {b : Nat} {q x y : Int} {r1 r2 : Rf} {oa oo : Int} (I : IsB w b (akL q x y r1 r2 oa oo).toArray 47)
include I
theorem sa_kind (k : Int) : ∃ w', (Instr.storeAt 45 (.pointer (some ⟨b, 0, none⟩)) (.int .i64 k)).run Tryd.prog w = .ok () w' ∧ IsB w' b (akL k x y r1 r2 oa oo).toArray 47 ∧ Kp [b] w w' :=
  store_one I 0 _ (.int .i64 k) (by simp [akL]) (by kernel_rfl) rfl rfl
theorem sa_r1 (r : Rf) : ∃ w', (Instr.storeAt 29 (.pointer (some ⟨b, 3, none⟩)) (.agg r.cells)).run Tryd.prog w = .ok () w' ∧ IsB w' b (akL q x y r r2 oa oo).toArray 47 ∧ Kp [b] w w' :=
  store_mid I 3 _ r.cs (by simp [akL, Rf.cs]) (by kernel_rfl) (by simp [Rf.cs, Value.oneCell'])
theorem sa_r2 (r : Rf) : ∃ w', (Instr.storeAt 29 (.pointer (some ⟨b, 8, none⟩)) (.agg r.cells)).run Tryd.prog w = .ok () w' ∧ IsB w' b (akL q x y r1 r oa oo).toArray 47 ∧ Kp [b] w w' :=
  store_mid I 8 _ r.cs (by simp [akL, Rf.cs]) (by kernel_rfl) (by simp [Rf.cs, Value.oneCell'])
theorem sa_own (a2 o2 : Int) : ∃ w', (Instr.storeAt 31 (.pointer (some ⟨b, 13, none⟩)) (.agg #[.int .i64 a2, .int .i64 o2])).run Tryd.prog w = .ok () w' ∧ IsB w' b (akL q x y r1 r2 a2 o2).toArray 47 ∧ Kp [b] w w' := st_asko I a2 o2
end

set_option maxHeartbeats 2000000 in
set_option maxRecDepth 100000 in
theorem st_ref {w : World} {b : Nat} {r : Rf} (I : IsB w b r.cells 29) (r2 : Rf) : ∃ w', (Instr.storeAt 29 (.pointer (some ⟨b, 0, none⟩)) (.agg r2.cells)).run Tryd.prog w = .ok () w' ∧ IsB w' b r2.cells 29 ∧ Kp [b] w w' := store_ref I rfl rfl (by kernel_rfl)

set_option maxHeartbeats 2000000 in
set_option maxRecDepth 100000 in
theorem dn_1 (d : Nat) (D : Ds) (hp : D.st = 1) (w : World) (I : IsB w d (dsL D).toArray 94) : Calls Tryd.prog 13 #[.pointer (some ⟨d, 0, none⟩)] w fun e' w' => e' = .returned (.agg (stL 1 D.p 3 D.wl D.wb zr zr D.oa D.oo 0 zr zr).toArray) ∧ Below w.heap.size w w' := by
  have mixed : Tryd.prog.follows .mixedOrders = true := by kernel_rfl
  have b1 := ((Below.refl w.heap.size w).alloc (Nat.le_refl _) (.cells #[.int .i64 0, .int .i64 0, .int .i64 0, .int .u64 0, .int .i64 0, .int .u64 0, .int .i64 0, .int .i64 0, .int .u64 0, .int .i64 0, .int .i64 0, .int .u64 0, .int .i64 0, .int .u64 0, .int .i64 0, .int .i64 0, .int .u64 0, .int .i64 0, .int .u64 0, .int .i64 0, .int .i64 0, .int .i64 0, .int .u64 0, .slice none 0 0, .slice none 0 0, .int .i64 0, .int .i64 0, .int .u64 0, .int .i64 0, .int .u64 0, .int .i64 0, .int .i64 0, .int .u64 0, .int .i64 0, .int .u64 0, .bool false] 53)).drew
  have P0 := (IsB.new w #[.int .i64 0, .int .i64 0, .int .i64 0, .int .u64 0, .int .i64 0, .int .u64 0, .int .i64 0, .int .i64 0, .int .u64 0, .int .i64 0, .int .i64 0, .int .u64 0, .int .i64 0, .int .u64 0, .int .i64 0, .int .i64 0, .int .u64 0, .int .i64 0, .int .u64 0, .int .i64 0, .int .i64 0, .int .i64 0, .int .u64 0, .slice none 0 0, .slice none 0 0, .int .i64 0, .int .i64 0, .int .u64 0, .int .i64 0, .int .u64 0, .int .i64 0, .int .i64 0, .int .u64 0, .int .i64 0, .int .u64 0, .bool false] 53).below ((Below.refl _ _).drew)
  have P : Hid (IsB (w.alloc (.cells #[.int .i64 0, .int .i64 0, .int .i64 0, .int .u64 0, .int .i64 0, .int .u64 0, .int .i64 0, .int .i64 0, .int .u64 0, .int .i64 0, .int .i64 0, .int .u64 0, .int .i64 0, .int .u64 0, .int .i64 0, .int .i64 0, .int .u64 0, .int .i64 0, .int .u64 0, .int .i64 0, .int .i64 0, .int .i64 0, .int .u64 0, .slice none 0 0, .slice none 0 0, .int .i64 0, .int .i64 0, .int .u64 0, .int .i64 0, .int .u64 0, .int .i64 0, .int .i64 0, .int .u64 0, .int .i64 0, .int .u64 0, .bool false] 53)).drew w.heap.size (stL 0 zr 0 0 0 zr zr 0 0 0 zr zr).toArray 53) := P0
  clear P0
  have ID := hide (I.below b1)
  have B := hide b1
  clear b1 I
  go_enter Tryd.func13, Tryd.ntmps13
  go_wp2_with fail
  refine regionL 12 (fun w' => IsB w' d (dsL D).toArray 94) mixed ID.out (fun hHeld => ?_)
  generalize (w.alloc (.cells #[.int .i64 0, .int .i64 0, .int .i64 0, .int .u64 0, .int .i64 0, .int .u64 0, .int .i64 0, .int .i64 0, .int .u64 0, .int .i64 0, .int .i64 0, .int .u64 0, .int .i64 0, .int .u64 0, .int .i64 0, .int .i64 0, .int .u64 0, .int .i64 0, .int .u64 0, .int .i64 0, .int .i64 0, .int .i64 0, .int .u64 0, .slice none 0 0, .slice none 0 0, .int .i64 0, .int .i64 0, .int .u64 0, .int .i64 0, .int .u64 0, .int .i64 0, .int .i64 0, .int .u64 0, .int .i64 0, .int .u64 0, .bool false] 53)).drew = WD at *
  have IA := hide (ID.out.below ((Below.refl _ _).alloc (Nat.le_refl _) (.cells #[.int .i64 0, .int .i64 0, .int .u64 0, .int .i64 0, .int .i64 0, .int .u64 0, .int .i64 0, .int .u64 0, .int .i64 0, .int .i64 0, .int .u64 0, .int .i64 0, .int .u64 0, .int .i64 0, .int .i64 0] 47)))
  have SA := hide (store_ask WD (akL 0 D.wl D.wb zr zr D.oa D.oo).toArray rfl (by kernel_rfl))
  refine pickA (v := ?_) 0 (some 5) rfl rfl (by kernel_rfl) (by kernel_rfl) (by kernel_rfl) (by decide) (fun _ _ _ h => h) (by rfl) ?_ (by assumption) ?_
  rotate_left
  · intro w'
    go_simp
    try with_reducible rfl
  try simp only [Act.put, List.setIfInBounds_toArray, List.set_cons_zero, List.set_cons_succ]
  refine pickA (v := ?_) 1 (some 6) rfl rfl (by kernel_rfl) (by kernel_rfl) (by kernel_rfl) (by decide) (fun _ _ _ h => h) (by rfl) ?_ (by assumption) ?_
  rotate_left
  · intro w'
    go_simp
    try with_reducible rfl
  try simp only [Act.put, List.setIfInBounds_toArray, List.set_cons_zero, List.set_cons_succ]
  refine pickA (v := ?_) 2 (some 7) rfl rfl (by kernel_rfl) (by kernel_rfl) (by kernel_rfl) (by decide) (fun _ _ _ h => h) (by rfl) ?_ (by assumption) ?_
  rotate_left
  · intro w'
    go_simp
    try with_reducible rfl
  try simp only [Act.put, List.setIfInBounds_toArray, List.set_cons_zero, List.set_cons_succ]
  refine pickA (v := ?_) 3 (some 8) rfl rfl (by kernel_rfl) (by kernel_rfl) (by kernel_rfl) (by decide) (fun _ _ _ h => h) (by rfl) ?_ (by assumption) ?_
  rotate_left
  · intro w'
    go_simp
    try with_reducible rfl
  try simp only [Act.put, List.setIfInBounds_toArray, List.set_cons_zero, List.set_cons_succ]
  refine pickL (v := .agg #[.int .i64 D.wl, .int .u64 D.wb]) 4 (some 9) rfl rfl (by kernel_rfl) (by kernel_rfl) (by kernel_rfl) (by decide) (by kernel_rfl) (by kernel_rfl) (fun _ _ _ h => h) (by rfl) ?_ (by assumption) ?_
  · intro w' hSw
    have q0 := hSw
    exact exec_load rfl rfl (dl_w q0)
  try simp only [Act.put, List.setIfInBounds_toArray, List.set_cons_zero, List.set_cons_succ]
  refine pickA (v := ?_) 5 (some 10) rfl rfl (by kernel_rfl) (by kernel_rfl) (by kernel_rfl) (by decide) (fun _ _ _ h => h) (by rfl) ?_ (by assumption) ?_
  rotate_left
  · intro w'
    go_simp
    try with_reducible rfl
  try simp only [Act.put, List.setIfInBounds_toArray, List.set_cons_zero, List.set_cons_succ]
  refine pickA (v := ?_) 6 (some 11) rfl rfl (by kernel_rfl) (by kernel_rfl) (by kernel_rfl) (by decide) (fun _ _ _ h => h) (by rfl) ?_ (by assumption) ?_
  rotate_left
  · intro w'
    go_simp
    try with_reducible rfl
  try simp only [Act.put, List.setIfInBounds_toArray, List.set_cons_zero, List.set_cons_succ]
  refine pickA (v := ?_) 7 (some 12) rfl rfl (by kernel_rfl) (by kernel_rfl) (by kernel_rfl) (by decide) (fun _ _ _ h => h) (by rfl) ?_ (by assumption) ?_
  rotate_left
  · intro w'
    go_simp
    try with_reducible rfl
  try simp only [Act.put, List.setIfInBounds_toArray, List.set_cons_zero, List.set_cons_succ]
  refine pickA (v := ?_) 8 (some 13) rfl rfl (by kernel_rfl) (by kernel_rfl) (by kernel_rfl) (by decide) (fun _ _ _ h => h) (by rfl) ?_ (by assumption) ?_
  rotate_left
  · intro w'
    go_simp
    try with_reducible rfl
  try simp only [Act.put, List.setIfInBounds_toArray, List.set_cons_zero, List.set_cons_succ]
  refine pickL (v := .agg #[.int .i64 D.oa, .int .i64 D.oo]) 9 (some 14) rfl rfl (by kernel_rfl) (by kernel_rfl) (by kernel_rfl) (by decide) (by kernel_rfl) (by kernel_rfl) (fun _ _ _ h => h) (by rfl) ?_ (by assumption) ?_
  · intro w' hSw
    have q0 := hSw
    exact exec_load rfl rfl (dl_owner q0)
  try simp only [Act.put, List.setIfInBounds_toArray, List.set_cons_zero, List.set_cons_succ]
  refine pickA (v := .agg (akL 0 D.wl D.wb zr zr D.oa D.oo).toArray) 10 (some 15) rfl rfl (by kernel_rfl) (by kernel_rfl) (by kernel_rfl) (by decide) (fun _ _ _ h => h) (by rfl) ?_ (by assumption) ?_
  · intro w'
    kernel_rfl
  try simp only [Act.put, List.setIfInBounds_toArray, List.set_cons_zero, List.set_cons_succ]
  refine oneL (i := 11) (by kernel_rfl) rfl (fun K hK => ?_)
  go_simp
  refine hK.out _ _ ?_ ?_
  · exact IA.out
  clear hK K
  try simp only [Act.put, List.setIfInBounds_toArray, List.set_cons_zero, List.set_cons_succ]
  clear hHeld
  have hHeld : (fun w' => IsB w' d (dsL D).toArray 94) (WD.alloc (.cells #[.int .i64 0, .int .i64 0, .int .u64 0, .int .i64 0, .int .i64 0, .int .u64 0, .int .i64 0, .int .u64 0, .int .i64 0, .int .i64 0, .int .u64 0, .int .i64 0, .int .u64 0, .int .i64 0, .int .i64 0] 47)) := IA.out
  refine lateL (i := 12) (by kernel_rfl) rfl (by decide) (by kernel_rfl) (fun K hK => ?_)
  refine step_store_w rfl 47 (.tmp 3) (.tmp 15) rfl rfl rfl SA.out ?_
  refine hK.out _ _ ?_
  clear hK K
  try simp only [Act.put, List.setIfInBounds_toArray]
  refine doneL (by kernel_rfl) ?_ _
  clear hHeld
  clear IA SA
  have b2 := (Below.refl WD.heap.size WD).alloc (Nat.le_refl _) (.cells (akL 0 D.wl D.wb zr zr D.oa D.oo).toArray 47)
  have A := hide (IsB.new WD (akL 0 D.wl D.wb zr zr D.oa D.oo).toArray 47)
  have hAB := hide B.out.size
  have J := hide (ID.out.below b2)
  replace P := hide (P.out.below b2)
  replace B := hide (B.out.trans (b2.mono B.out.size))
  clear b2 ID
  generalize hW2 : (WD.alloc (.cells (akL 0 D.wl D.wb zr zr D.oa D.oo).toArray 47)) = W2 at *
  clear hW2
  obtain ⟨AB, hABe⟩ : ∃ AB, WD.heap.size = AB := ⟨_, rfl⟩
  rw [hABe] at A hAB ⊢
  clear hABe
  have b3 := (Below.refl W2.heap.size W2).alloc (Nat.le_refl _) (.cells D.p.cells 29)
  have T := hide (IsB.new W2 D.p.cells 29)
  have hTB := hide B.out.size
  have LP := hide (dl_p J.out)
  have SN := hide (store_newr W2 D.p)
  replace J := hide (J.out.below b3)
  replace P := hide (P.out.below b3)
  replace A := hide (A.out.below b3)
  replace B := hide (B.out.trans (b3.mono B.out.size))
  clear b3
  have y14 := dc_st J.out
  rw [hp] at y14
  clear hp
  obtain ⟨w2, hs2, N2, k2⟩ := sa_kind A.out 3
  have HS2 := hide hs2
  replace J := hide (J.out.kp k2 (by simp only [List.mem_singleton]; exact fun e => IsB.ne_t J.out A.out (by decide) e))
  replace T := hide (T.out.kp k2 (by simp only [List.mem_singleton]; exact fun e => IsB.ne_t T.out A.out (by decide) e))
  replace P := hide (P.out.kp k2 (by simp only [List.mem_singleton]; exact fun e => IsB.ne_t P.out A.out (by decide) e))
  replace B := hide (B.out.trans (k2.to_below B.out.size (by simpa using hAB.out)))
  replace A := hide N2
  have J2 := J
  clear hs2 N2 k2
  have LT : Hid ((Instr.loadAt 29 (.pointer (some ⟨W2.heap.size, 0, none⟩))).run Tryd.prog w2 = .ok (.agg #[.int .i64 D.p.id, .int .i64 D.p.rk, .int .u64 D.p.kn, .int .i64 D.p.ln, .int .u64 D.p.bt]) w2) := load_ref T.out rfl
  have LK : Hid ((Instr.loadAt 47 (.pointer (some ⟨AB, 0, none⟩))).run Tryd.prog w2 = .ok (.agg #[.int .i64 3, .int .i64 D.wl, .int .u64 D.wb, .int .i64 0, .int .i64 0, .int .u64 0, .int .i64 0, .int .u64 0, .int .i64 0, .int .i64 0, .int .u64 0, .int .i64 0, .int .u64 0, .int .i64 D.oa, .int .i64 D.oo]) w2) := ld_ask A.out
  obtain ⟨w9, hs9, P9, k9⟩ := st_step P.out rfl 1 D.p 3 D.wl D.wb zr zr D.oa D.oo 0 zr zr
  have HS9 := hide hs9
  have P10 := hide P9
  have B9 : Hid (Below w.heap.size w w9) := B.out.trans (k9.to_below B.out.size (by simp))
  clear hs9 P9 k9
  go_wp2_with (first | (focus ((with_reducible refine wpList_load_w ?_ 29 (.tmp 18) ?_ ?_ LP.out ?_); rotate_left; rfl; rfl; rotate_left; rfl)) | (focus ((with_reducible refine wpList_store_w ?_ 29 (.tmp 4) (.tmp 19) ?_ ?_ ?_ SN.out ?_); rotate_left; rfl; rfl; rfl; rotate_left; rfl)) | (focus ((with_reducible refine wpList_store_w ?_ 45 (.tmp 37) (.const (.int .i64 3)) ?_ ?_ ?_ HS2.out ?_); rotate_left; rfl; rfl; rfl; rotate_left; rfl)) | (focus ((with_reducible refine wpList_load_w ?_ 29 (.tmp 4) ?_ ?_ LT.out ?_); rotate_left; rfl; rfl; rotate_left; rfl)) | (focus ((with_reducible refine wpList_load_w ?_ 47 (.tmp 3) ?_ ?_ LK.out ?_); rotate_left; rfl; rfl; rotate_left; rfl)) | (focus ((with_reducible refine wpList_store_w ?_ 53 (.tmp 2) (.tmp 107) ?_ ?_ ?_ HS9.out ?_); rotate_left; rfl; rfl; rfl; rotate_left; rfl)))
  try simp only [Act.put]
  try go_wp2
  refine ret_step (p := 2) (b := w.heap.size) Tryd.results13 rfl rfl P10.out ?_
  exact ⟨rfl, B9.out⟩

set_option maxHeartbeats 2000000 in
set_option maxRecDepth 100000 in
theorem dn_3 (d : Nat) (D : Ds) (hp : D.st = 3) (w : World) (I : IsB w d (dsL D).toArray 94) : Calls Tryd.prog 13 #[.pointer (some ⟨d, 0, none⟩)] w fun e' w' => e' = .returned (.agg (stL 1 D.r 1 D.wl D.wb zr zr 0 0 0 zr zr).toArray) ∧ Below w.heap.size w w' := by
  have mixed : Tryd.prog.follows .mixedOrders = true := by kernel_rfl
  have b1 := ((Below.refl w.heap.size w).alloc (Nat.le_refl _) (.cells #[.int .i64 0, .int .i64 0, .int .i64 0, .int .u64 0, .int .i64 0, .int .u64 0, .int .i64 0, .int .i64 0, .int .u64 0, .int .i64 0, .int .i64 0, .int .u64 0, .int .i64 0, .int .u64 0, .int .i64 0, .int .i64 0, .int .u64 0, .int .i64 0, .int .u64 0, .int .i64 0, .int .i64 0, .int .i64 0, .int .u64 0, .slice none 0 0, .slice none 0 0, .int .i64 0, .int .i64 0, .int .u64 0, .int .i64 0, .int .u64 0, .int .i64 0, .int .i64 0, .int .u64 0, .int .i64 0, .int .u64 0, .bool false] 53)).drew
  have P0 := (IsB.new w #[.int .i64 0, .int .i64 0, .int .i64 0, .int .u64 0, .int .i64 0, .int .u64 0, .int .i64 0, .int .i64 0, .int .u64 0, .int .i64 0, .int .i64 0, .int .u64 0, .int .i64 0, .int .u64 0, .int .i64 0, .int .i64 0, .int .u64 0, .int .i64 0, .int .u64 0, .int .i64 0, .int .i64 0, .int .i64 0, .int .u64 0, .slice none 0 0, .slice none 0 0, .int .i64 0, .int .i64 0, .int .u64 0, .int .i64 0, .int .u64 0, .int .i64 0, .int .i64 0, .int .u64 0, .int .i64 0, .int .u64 0, .bool false] 53).below ((Below.refl _ _).drew)
  have P : Hid (IsB (w.alloc (.cells #[.int .i64 0, .int .i64 0, .int .i64 0, .int .u64 0, .int .i64 0, .int .u64 0, .int .i64 0, .int .i64 0, .int .u64 0, .int .i64 0, .int .i64 0, .int .u64 0, .int .i64 0, .int .u64 0, .int .i64 0, .int .i64 0, .int .u64 0, .int .i64 0, .int .u64 0, .int .i64 0, .int .i64 0, .int .i64 0, .int .u64 0, .slice none 0 0, .slice none 0 0, .int .i64 0, .int .i64 0, .int .u64 0, .int .i64 0, .int .u64 0, .int .i64 0, .int .i64 0, .int .u64 0, .int .i64 0, .int .u64 0, .bool false] 53)).drew w.heap.size (stL 0 zr 0 0 0 zr zr 0 0 0 zr zr).toArray 53) := P0
  clear P0
  have ID := hide (I.below b1)
  have B := hide b1
  clear b1 I
  go_enter Tryd.func13, Tryd.ntmps13
  go_wp2_with fail
  refine regionL 12 (fun w' => IsB w' d (dsL D).toArray 94) mixed ID.out (fun hHeld => ?_)
  generalize (w.alloc (.cells #[.int .i64 0, .int .i64 0, .int .i64 0, .int .u64 0, .int .i64 0, .int .u64 0, .int .i64 0, .int .i64 0, .int .u64 0, .int .i64 0, .int .i64 0, .int .u64 0, .int .i64 0, .int .u64 0, .int .i64 0, .int .i64 0, .int .u64 0, .int .i64 0, .int .u64 0, .int .i64 0, .int .i64 0, .int .i64 0, .int .u64 0, .slice none 0 0, .slice none 0 0, .int .i64 0, .int .i64 0, .int .u64 0, .int .i64 0, .int .u64 0, .int .i64 0, .int .i64 0, .int .u64 0, .int .i64 0, .int .u64 0, .bool false] 53)).drew = WD at *
  have IA := hide (ID.out.below ((Below.refl _ _).alloc (Nat.le_refl _) (.cells #[.int .i64 0, .int .i64 0, .int .u64 0, .int .i64 0, .int .i64 0, .int .u64 0, .int .i64 0, .int .u64 0, .int .i64 0, .int .i64 0, .int .u64 0, .int .i64 0, .int .u64 0, .int .i64 0, .int .i64 0] 47)))
  have SA := hide (store_ask WD (akL 0 D.wl D.wb zr zr D.oa D.oo).toArray rfl (by kernel_rfl))
  refine pickA (v := ?_) 0 (some 5) rfl rfl (by kernel_rfl) (by kernel_rfl) (by kernel_rfl) (by decide) (fun _ _ _ h => h) (by rfl) ?_ (by assumption) ?_
  rotate_left
  · intro w'
    go_simp
    try with_reducible rfl
  try simp only [Act.put, List.setIfInBounds_toArray, List.set_cons_zero, List.set_cons_succ]
  refine pickA (v := ?_) 1 (some 6) rfl rfl (by kernel_rfl) (by kernel_rfl) (by kernel_rfl) (by decide) (fun _ _ _ h => h) (by rfl) ?_ (by assumption) ?_
  rotate_left
  · intro w'
    go_simp
    try with_reducible rfl
  try simp only [Act.put, List.setIfInBounds_toArray, List.set_cons_zero, List.set_cons_succ]
  refine pickA (v := ?_) 2 (some 7) rfl rfl (by kernel_rfl) (by kernel_rfl) (by kernel_rfl) (by decide) (fun _ _ _ h => h) (by rfl) ?_ (by assumption) ?_
  rotate_left
  · intro w'
    go_simp
    try with_reducible rfl
  try simp only [Act.put, List.setIfInBounds_toArray, List.set_cons_zero, List.set_cons_succ]
  refine pickA (v := ?_) 3 (some 8) rfl rfl (by kernel_rfl) (by kernel_rfl) (by kernel_rfl) (by decide) (fun _ _ _ h => h) (by rfl) ?_ (by assumption) ?_
  rotate_left
  · intro w'
    go_simp
    try with_reducible rfl
  try simp only [Act.put, List.setIfInBounds_toArray, List.set_cons_zero, List.set_cons_succ]
  refine pickL (v := .agg #[.int .i64 D.wl, .int .u64 D.wb]) 4 (some 9) rfl rfl (by kernel_rfl) (by kernel_rfl) (by kernel_rfl) (by decide) (by kernel_rfl) (by kernel_rfl) (fun _ _ _ h => h) (by rfl) ?_ (by assumption) ?_
  · intro w' hSw
    have q0 := hSw
    exact exec_load rfl rfl (dl_w q0)
  try simp only [Act.put, List.setIfInBounds_toArray, List.set_cons_zero, List.set_cons_succ]
  refine pickA (v := ?_) 5 (some 10) rfl rfl (by kernel_rfl) (by kernel_rfl) (by kernel_rfl) (by decide) (fun _ _ _ h => h) (by rfl) ?_ (by assumption) ?_
  rotate_left
  · intro w'
    go_simp
    try with_reducible rfl
  try simp only [Act.put, List.setIfInBounds_toArray, List.set_cons_zero, List.set_cons_succ]
  refine pickA (v := ?_) 6 (some 11) rfl rfl (by kernel_rfl) (by kernel_rfl) (by kernel_rfl) (by decide) (fun _ _ _ h => h) (by rfl) ?_ (by assumption) ?_
  rotate_left
  · intro w'
    go_simp
    try with_reducible rfl
  try simp only [Act.put, List.setIfInBounds_toArray, List.set_cons_zero, List.set_cons_succ]
  refine pickA (v := ?_) 7 (some 12) rfl rfl (by kernel_rfl) (by kernel_rfl) (by kernel_rfl) (by decide) (fun _ _ _ h => h) (by rfl) ?_ (by assumption) ?_
  rotate_left
  · intro w'
    go_simp
    try with_reducible rfl
  try simp only [Act.put, List.setIfInBounds_toArray, List.set_cons_zero, List.set_cons_succ]
  refine pickA (v := ?_) 8 (some 13) rfl rfl (by kernel_rfl) (by kernel_rfl) (by kernel_rfl) (by decide) (fun _ _ _ h => h) (by rfl) ?_ (by assumption) ?_
  rotate_left
  · intro w'
    go_simp
    try with_reducible rfl
  try simp only [Act.put, List.setIfInBounds_toArray, List.set_cons_zero, List.set_cons_succ]
  refine pickL (v := .agg #[.int .i64 D.oa, .int .i64 D.oo]) 9 (some 14) rfl rfl (by kernel_rfl) (by kernel_rfl) (by kernel_rfl) (by decide) (by kernel_rfl) (by kernel_rfl) (fun _ _ _ h => h) (by rfl) ?_ (by assumption) ?_
  · intro w' hSw
    have q0 := hSw
    exact exec_load rfl rfl (dl_owner q0)
  try simp only [Act.put, List.setIfInBounds_toArray, List.set_cons_zero, List.set_cons_succ]
  refine pickA (v := .agg (akL 0 D.wl D.wb zr zr D.oa D.oo).toArray) 10 (some 15) rfl rfl (by kernel_rfl) (by kernel_rfl) (by kernel_rfl) (by decide) (fun _ _ _ h => h) (by rfl) ?_ (by assumption) ?_
  · intro w'
    kernel_rfl
  try simp only [Act.put, List.setIfInBounds_toArray, List.set_cons_zero, List.set_cons_succ]
  refine oneL (i := 11) (by kernel_rfl) rfl (fun K hK => ?_)
  go_simp
  refine hK.out _ _ ?_ ?_
  · exact IA.out
  clear hK K
  try simp only [Act.put, List.setIfInBounds_toArray, List.set_cons_zero, List.set_cons_succ]
  clear hHeld
  have hHeld : (fun w' => IsB w' d (dsL D).toArray 94) (WD.alloc (.cells #[.int .i64 0, .int .i64 0, .int .u64 0, .int .i64 0, .int .i64 0, .int .u64 0, .int .i64 0, .int .u64 0, .int .i64 0, .int .i64 0, .int .u64 0, .int .i64 0, .int .u64 0, .int .i64 0, .int .i64 0] 47)) := IA.out
  refine lateL (i := 12) (by kernel_rfl) rfl (by decide) (by kernel_rfl) (fun K hK => ?_)
  refine step_store_w rfl 47 (.tmp 3) (.tmp 15) rfl rfl rfl SA.out ?_
  refine hK.out _ _ ?_
  clear hK K
  try simp only [Act.put, List.setIfInBounds_toArray]
  refine doneL (by kernel_rfl) ?_ _
  clear hHeld
  clear IA SA
  have b2 := (Below.refl WD.heap.size WD).alloc (Nat.le_refl _) (.cells (akL 0 D.wl D.wb zr zr D.oa D.oo).toArray 47)
  have A := hide (IsB.new WD (akL 0 D.wl D.wb zr zr D.oa D.oo).toArray 47)
  have hAB := hide B.out.size
  have J := hide (ID.out.below b2)
  replace P := hide (P.out.below b2)
  replace B := hide (B.out.trans (b2.mono B.out.size))
  clear b2 ID
  generalize hW2 : (WD.alloc (.cells (akL 0 D.wl D.wb zr zr D.oa D.oo).toArray 47)) = W2 at *
  clear hW2
  obtain ⟨AB, hABe⟩ : ∃ AB, WD.heap.size = AB := ⟨_, rfl⟩
  rw [hABe] at A hAB ⊢
  clear hABe
  have b3 := (Below.refl W2.heap.size W2).alloc (Nat.le_refl _) (.cells D.p.cells 29)
  have T := hide (IsB.new W2 D.p.cells 29)
  have hTB := hide B.out.size
  have LP := hide (dl_p J.out)
  have SN := hide (store_newr W2 D.p)
  replace J := hide (J.out.below b3)
  replace P := hide (P.out.below b3)
  replace A := hide (A.out.below b3)
  replace B := hide (B.out.trans (b3.mono B.out.size))
  clear b3
  have y14 := dc_st J.out
  rw [hp] at y14
  clear hp
  have LX := hide (dl_r J.out)
  obtain ⟨w2, hs2, N2, k2⟩ := st_ref T.out D.r
  have HS2 := hide hs2
  replace J := hide (J.out.kp k2 (by simp only [List.mem_singleton]; exact fun e => IsB.ne_t J.out T.out (by decide) e))
  replace A := hide (A.out.kp k2 (by simp only [List.mem_singleton]; exact fun e => IsB.ne_t A.out T.out (by decide) e))
  replace P := hide (P.out.kp k2 (by simp only [List.mem_singleton]; exact fun e => IsB.ne_t P.out T.out (by decide) e))
  replace B := hide (B.out.trans (k2.to_below B.out.size (by simpa using hTB.out)))
  replace T := hide N2
  have J2 := J
  clear hs2 N2 k2
  obtain ⟨w3, hs3, N3, k3⟩ := sa_kind A.out 1
  have HS3 := hide hs3
  replace J := hide (J.out.kp k3 (by simp only [List.mem_singleton]; exact fun e => IsB.ne_t J.out A.out (by decide) e))
  replace T := hide (T.out.kp k3 (by simp only [List.mem_singleton]; exact fun e => IsB.ne_t T.out A.out (by decide) e))
  replace P := hide (P.out.kp k3 (by simp only [List.mem_singleton]; exact fun e => IsB.ne_t P.out A.out (by decide) e))
  replace B := hide (B.out.trans (k3.to_below B.out.size (by simpa using hAB.out)))
  replace A := hide N3
  have J3 := J
  clear hs3 N3 k3
  obtain ⟨w4, hs4, N4, k4⟩ := sa_own A.out 0 0
  have HS4 := hide hs4
  replace J := hide (J.out.kp k4 (by simp only [List.mem_singleton]; exact fun e => IsB.ne_t J.out A.out (by decide) e))
  replace T := hide (T.out.kp k4 (by simp only [List.mem_singleton]; exact fun e => IsB.ne_t T.out A.out (by decide) e))
  replace P := hide (P.out.kp k4 (by simp only [List.mem_singleton]; exact fun e => IsB.ne_t P.out A.out (by decide) e))
  replace B := hide (B.out.trans (k4.to_below B.out.size (by simpa using hAB.out)))
  replace A := hide N4
  have J4 := J
  clear hs4 N4 k4
  have LT : Hid ((Instr.loadAt 29 (.pointer (some ⟨W2.heap.size, 0, none⟩))).run Tryd.prog w4 = .ok (.agg #[.int .i64 D.r.id, .int .i64 D.r.rk, .int .u64 D.r.kn, .int .i64 D.r.ln, .int .u64 D.r.bt]) w4) := load_ref T.out rfl
  have LK : Hid ((Instr.loadAt 47 (.pointer (some ⟨AB, 0, none⟩))).run Tryd.prog w4 = .ok (.agg #[.int .i64 1, .int .i64 D.wl, .int .u64 D.wb, .int .i64 0, .int .i64 0, .int .u64 0, .int .i64 0, .int .u64 0, .int .i64 0, .int .i64 0, .int .u64 0, .int .i64 0, .int .u64 0, .int .i64 0, .int .i64 0]) w4) := ld_ask A.out
  obtain ⟨w9, hs9, P9, k9⟩ := st_step P.out rfl 1 D.r 1 D.wl D.wb zr zr 0 0 0 zr zr
  have HS9 := hide hs9
  have P10 := hide P9
  have B9 : Hid (Below w.heap.size w w9) := B.out.trans (k9.to_below B.out.size (by simp))
  clear hs9 P9 k9
  go_wp2_with (first | (focus ((with_reducible refine wpList_load_w ?_ 29 (.tmp 18) ?_ ?_ LP.out ?_); rotate_left; rfl; rfl; rotate_left; rfl)) | (focus ((with_reducible refine wpList_store_w ?_ 29 (.tmp 4) (.tmp 19) ?_ ?_ ?_ SN.out ?_); rotate_left; rfl; rfl; rfl; rotate_left; rfl)) | (focus ((with_reducible refine wpList_load_w ?_ 29 (.tmp 42) ?_ ?_ LX.out ?_); rotate_left; rfl; rfl; rotate_left; rfl)) | (focus ((with_reducible refine wpList_store_w ?_ 29 (.tmp 4) (.tmp 43) ?_ ?_ ?_ HS2.out ?_); rotate_left; rfl; rfl; rfl; rotate_left; rfl)) | (focus ((with_reducible refine wpList_store_w ?_ 45 (.tmp 45) (.const (.int .i64 1)) ?_ ?_ ?_ HS3.out ?_); rotate_left; rfl; rfl; rfl; rotate_left; rfl)) | (focus ((with_reducible refine wpList_store_w ?_ 31 (.tmp 46) (.tmp 44) ?_ ?_ ?_ HS4.out ?_); rotate_left; rfl; rfl; rfl; rotate_left; rfl)) | (focus ((with_reducible refine wpList_load_w ?_ 29 (.tmp 4) ?_ ?_ LT.out ?_); rotate_left; rfl; rfl; rotate_left; rfl)) | (focus ((with_reducible refine wpList_load_w ?_ 47 (.tmp 3) ?_ ?_ LK.out ?_); rotate_left; rfl; rfl; rotate_left; rfl)) | (focus ((with_reducible refine wpList_store_w ?_ 53 (.tmp 2) (.tmp 107) ?_ ?_ ?_ HS9.out ?_); rotate_left; rfl; rfl; rfl; rotate_left; rfl)))
  try simp only [Act.put]
  try go_wp2
  refine ret_step (p := 2) (b := w.heap.size) Tryd.results13 rfl rfl P10.out ?_
  exact ⟨rfl, B9.out⟩

set_option maxHeartbeats 2000000 in
set_option maxRecDepth 100000 in
theorem dn_7 (d : Nat) (D : Ds) (hp : D.st = 7) (w : World) (I : IsB w d (dsL D).toArray 94) : Calls Tryd.prog 13 #[.pointer (some ⟨d, 0, none⟩)] w fun e' w' => e' = .returned (.agg (stL 1 D.me 4 D.wl D.wb zr zr D.oa D.oo 0 zr zr).toArray) ∧ Below w.heap.size w w' := by
  have mixed : Tryd.prog.follows .mixedOrders = true := by kernel_rfl
  have b1 := ((Below.refl w.heap.size w).alloc (Nat.le_refl _) (.cells #[.int .i64 0, .int .i64 0, .int .i64 0, .int .u64 0, .int .i64 0, .int .u64 0, .int .i64 0, .int .i64 0, .int .u64 0, .int .i64 0, .int .i64 0, .int .u64 0, .int .i64 0, .int .u64 0, .int .i64 0, .int .i64 0, .int .u64 0, .int .i64 0, .int .u64 0, .int .i64 0, .int .i64 0, .int .i64 0, .int .u64 0, .slice none 0 0, .slice none 0 0, .int .i64 0, .int .i64 0, .int .u64 0, .int .i64 0, .int .u64 0, .int .i64 0, .int .i64 0, .int .u64 0, .int .i64 0, .int .u64 0, .bool false] 53)).drew
  have P0 := (IsB.new w #[.int .i64 0, .int .i64 0, .int .i64 0, .int .u64 0, .int .i64 0, .int .u64 0, .int .i64 0, .int .i64 0, .int .u64 0, .int .i64 0, .int .i64 0, .int .u64 0, .int .i64 0, .int .u64 0, .int .i64 0, .int .i64 0, .int .u64 0, .int .i64 0, .int .u64 0, .int .i64 0, .int .i64 0, .int .i64 0, .int .u64 0, .slice none 0 0, .slice none 0 0, .int .i64 0, .int .i64 0, .int .u64 0, .int .i64 0, .int .u64 0, .int .i64 0, .int .i64 0, .int .u64 0, .int .i64 0, .int .u64 0, .bool false] 53).below ((Below.refl _ _).drew)
  have P : Hid (IsB (w.alloc (.cells #[.int .i64 0, .int .i64 0, .int .i64 0, .int .u64 0, .int .i64 0, .int .u64 0, .int .i64 0, .int .i64 0, .int .u64 0, .int .i64 0, .int .i64 0, .int .u64 0, .int .i64 0, .int .u64 0, .int .i64 0, .int .i64 0, .int .u64 0, .int .i64 0, .int .u64 0, .int .i64 0, .int .i64 0, .int .i64 0, .int .u64 0, .slice none 0 0, .slice none 0 0, .int .i64 0, .int .i64 0, .int .u64 0, .int .i64 0, .int .u64 0, .int .i64 0, .int .i64 0, .int .u64 0, .int .i64 0, .int .u64 0, .bool false] 53)).drew w.heap.size (stL 0 zr 0 0 0 zr zr 0 0 0 zr zr).toArray 53) := P0
  clear P0
  have ID := hide (I.below b1)
  have B := hide b1
  clear b1 I
  go_enter Tryd.func13, Tryd.ntmps13
  go_wp2_with fail
  refine regionL 12 (fun w' => IsB w' d (dsL D).toArray 94) mixed ID.out (fun hHeld => ?_)
  generalize (w.alloc (.cells #[.int .i64 0, .int .i64 0, .int .i64 0, .int .u64 0, .int .i64 0, .int .u64 0, .int .i64 0, .int .i64 0, .int .u64 0, .int .i64 0, .int .i64 0, .int .u64 0, .int .i64 0, .int .u64 0, .int .i64 0, .int .i64 0, .int .u64 0, .int .i64 0, .int .u64 0, .int .i64 0, .int .i64 0, .int .i64 0, .int .u64 0, .slice none 0 0, .slice none 0 0, .int .i64 0, .int .i64 0, .int .u64 0, .int .i64 0, .int .u64 0, .int .i64 0, .int .i64 0, .int .u64 0, .int .i64 0, .int .u64 0, .bool false] 53)).drew = WD at *
  have IA := hide (ID.out.below ((Below.refl _ _).alloc (Nat.le_refl _) (.cells #[.int .i64 0, .int .i64 0, .int .u64 0, .int .i64 0, .int .i64 0, .int .u64 0, .int .i64 0, .int .u64 0, .int .i64 0, .int .i64 0, .int .u64 0, .int .i64 0, .int .u64 0, .int .i64 0, .int .i64 0] 47)))
  have SA := hide (store_ask WD (akL 0 D.wl D.wb zr zr D.oa D.oo).toArray rfl (by kernel_rfl))
  refine pickA (v := ?_) 0 (some 5) rfl rfl (by kernel_rfl) (by kernel_rfl) (by kernel_rfl) (by decide) (fun _ _ _ h => h) (by rfl) ?_ (by assumption) ?_
  rotate_left
  · intro w'
    go_simp
    try with_reducible rfl
  try simp only [Act.put, List.setIfInBounds_toArray, List.set_cons_zero, List.set_cons_succ]
  refine pickA (v := ?_) 1 (some 6) rfl rfl (by kernel_rfl) (by kernel_rfl) (by kernel_rfl) (by decide) (fun _ _ _ h => h) (by rfl) ?_ (by assumption) ?_
  rotate_left
  · intro w'
    go_simp
    try with_reducible rfl
  try simp only [Act.put, List.setIfInBounds_toArray, List.set_cons_zero, List.set_cons_succ]
  refine pickA (v := ?_) 2 (some 7) rfl rfl (by kernel_rfl) (by kernel_rfl) (by kernel_rfl) (by decide) (fun _ _ _ h => h) (by rfl) ?_ (by assumption) ?_
  rotate_left
  · intro w'
    go_simp
    try with_reducible rfl
  try simp only [Act.put, List.setIfInBounds_toArray, List.set_cons_zero, List.set_cons_succ]
  refine pickA (v := ?_) 3 (some 8) rfl rfl (by kernel_rfl) (by kernel_rfl) (by kernel_rfl) (by decide) (fun _ _ _ h => h) (by rfl) ?_ (by assumption) ?_
  rotate_left
  · intro w'
    go_simp
    try with_reducible rfl
  try simp only [Act.put, List.setIfInBounds_toArray, List.set_cons_zero, List.set_cons_succ]
  refine pickL (v := .agg #[.int .i64 D.wl, .int .u64 D.wb]) 4 (some 9) rfl rfl (by kernel_rfl) (by kernel_rfl) (by kernel_rfl) (by decide) (by kernel_rfl) (by kernel_rfl) (fun _ _ _ h => h) (by rfl) ?_ (by assumption) ?_
  · intro w' hSw
    have q0 := hSw
    exact exec_load rfl rfl (dl_w q0)
  try simp only [Act.put, List.setIfInBounds_toArray, List.set_cons_zero, List.set_cons_succ]
  refine pickA (v := ?_) 5 (some 10) rfl rfl (by kernel_rfl) (by kernel_rfl) (by kernel_rfl) (by decide) (fun _ _ _ h => h) (by rfl) ?_ (by assumption) ?_
  rotate_left
  · intro w'
    go_simp
    try with_reducible rfl
  try simp only [Act.put, List.setIfInBounds_toArray, List.set_cons_zero, List.set_cons_succ]
  refine pickA (v := ?_) 6 (some 11) rfl rfl (by kernel_rfl) (by kernel_rfl) (by kernel_rfl) (by decide) (fun _ _ _ h => h) (by rfl) ?_ (by assumption) ?_
  rotate_left
  · intro w'
    go_simp
    try with_reducible rfl
  try simp only [Act.put, List.setIfInBounds_toArray, List.set_cons_zero, List.set_cons_succ]
  refine pickA (v := ?_) 7 (some 12) rfl rfl (by kernel_rfl) (by kernel_rfl) (by kernel_rfl) (by decide) (fun _ _ _ h => h) (by rfl) ?_ (by assumption) ?_
  rotate_left
  · intro w'
    go_simp
    try with_reducible rfl
  try simp only [Act.put, List.setIfInBounds_toArray, List.set_cons_zero, List.set_cons_succ]
  refine pickA (v := ?_) 8 (some 13) rfl rfl (by kernel_rfl) (by kernel_rfl) (by kernel_rfl) (by decide) (fun _ _ _ h => h) (by rfl) ?_ (by assumption) ?_
  rotate_left
  · intro w'
    go_simp
    try with_reducible rfl
  try simp only [Act.put, List.setIfInBounds_toArray, List.set_cons_zero, List.set_cons_succ]
  refine pickL (v := .agg #[.int .i64 D.oa, .int .i64 D.oo]) 9 (some 14) rfl rfl (by kernel_rfl) (by kernel_rfl) (by kernel_rfl) (by decide) (by kernel_rfl) (by kernel_rfl) (fun _ _ _ h => h) (by rfl) ?_ (by assumption) ?_
  · intro w' hSw
    have q0 := hSw
    exact exec_load rfl rfl (dl_owner q0)
  try simp only [Act.put, List.setIfInBounds_toArray, List.set_cons_zero, List.set_cons_succ]
  refine pickA (v := .agg (akL 0 D.wl D.wb zr zr D.oa D.oo).toArray) 10 (some 15) rfl rfl (by kernel_rfl) (by kernel_rfl) (by kernel_rfl) (by decide) (fun _ _ _ h => h) (by rfl) ?_ (by assumption) ?_
  · intro w'
    kernel_rfl
  try simp only [Act.put, List.setIfInBounds_toArray, List.set_cons_zero, List.set_cons_succ]
  refine oneL (i := 11) (by kernel_rfl) rfl (fun K hK => ?_)
  go_simp
  refine hK.out _ _ ?_ ?_
  · exact IA.out
  clear hK K
  try simp only [Act.put, List.setIfInBounds_toArray, List.set_cons_zero, List.set_cons_succ]
  clear hHeld
  have hHeld : (fun w' => IsB w' d (dsL D).toArray 94) (WD.alloc (.cells #[.int .i64 0, .int .i64 0, .int .u64 0, .int .i64 0, .int .i64 0, .int .u64 0, .int .i64 0, .int .u64 0, .int .i64 0, .int .i64 0, .int .u64 0, .int .i64 0, .int .u64 0, .int .i64 0, .int .i64 0] 47)) := IA.out
  refine lateL (i := 12) (by kernel_rfl) rfl (by decide) (by kernel_rfl) (fun K hK => ?_)
  refine step_store_w rfl 47 (.tmp 3) (.tmp 15) rfl rfl rfl SA.out ?_
  refine hK.out _ _ ?_
  clear hK K
  try simp only [Act.put, List.setIfInBounds_toArray]
  refine doneL (by kernel_rfl) ?_ _
  clear hHeld
  clear IA SA
  have b2 := (Below.refl WD.heap.size WD).alloc (Nat.le_refl _) (.cells (akL 0 D.wl D.wb zr zr D.oa D.oo).toArray 47)
  have A := hide (IsB.new WD (akL 0 D.wl D.wb zr zr D.oa D.oo).toArray 47)
  have hAB := hide B.out.size
  have J := hide (ID.out.below b2)
  replace P := hide (P.out.below b2)
  replace B := hide (B.out.trans (b2.mono B.out.size))
  clear b2 ID
  generalize hW2 : (WD.alloc (.cells (akL 0 D.wl D.wb zr zr D.oa D.oo).toArray 47)) = W2 at *
  clear hW2
  obtain ⟨AB, hABe⟩ : ∃ AB, WD.heap.size = AB := ⟨_, rfl⟩
  rw [hABe] at A hAB ⊢
  clear hABe
  have b3 := (Below.refl W2.heap.size W2).alloc (Nat.le_refl _) (.cells D.p.cells 29)
  have T := hide (IsB.new W2 D.p.cells 29)
  have hTB := hide B.out.size
  have LP := hide (dl_p J.out)
  have SN := hide (store_newr W2 D.p)
  replace J := hide (J.out.below b3)
  replace P := hide (P.out.below b3)
  replace A := hide (A.out.below b3)
  replace B := hide (B.out.trans (b3.mono B.out.size))
  clear b3
  have y14 := dc_st J.out
  rw [hp] at y14
  clear hp
  have LX := hide (dl_me J.out)
  obtain ⟨w2, hs2, N2, k2⟩ := st_ref T.out D.me
  have HS2 := hide hs2
  replace J := hide (J.out.kp k2 (by simp only [List.mem_singleton]; exact fun e => IsB.ne_t J.out T.out (by decide) e))
  replace A := hide (A.out.kp k2 (by simp only [List.mem_singleton]; exact fun e => IsB.ne_t A.out T.out (by decide) e))
  replace P := hide (P.out.kp k2 (by simp only [List.mem_singleton]; exact fun e => IsB.ne_t P.out T.out (by decide) e))
  replace B := hide (B.out.trans (k2.to_below B.out.size (by simpa using hTB.out)))
  replace T := hide N2
  have J2 := J
  clear hs2 N2 k2
  obtain ⟨w3, hs3, N3, k3⟩ := sa_kind A.out 4
  have HS3 := hide hs3
  replace J := hide (J.out.kp k3 (by simp only [List.mem_singleton]; exact fun e => IsB.ne_t J.out A.out (by decide) e))
  replace T := hide (T.out.kp k3 (by simp only [List.mem_singleton]; exact fun e => IsB.ne_t T.out A.out (by decide) e))
  replace P := hide (P.out.kp k3 (by simp only [List.mem_singleton]; exact fun e => IsB.ne_t P.out A.out (by decide) e))
  replace B := hide (B.out.trans (k3.to_below B.out.size (by simpa using hAB.out)))
  replace A := hide N3
  have J3 := J
  clear hs3 N3 k3
  have LT : Hid ((Instr.loadAt 29 (.pointer (some ⟨W2.heap.size, 0, none⟩))).run Tryd.prog w3 = .ok (.agg #[.int .i64 D.me.id, .int .i64 D.me.rk, .int .u64 D.me.kn, .int .i64 D.me.ln, .int .u64 D.me.bt]) w3) := load_ref T.out rfl
  have LK : Hid ((Instr.loadAt 47 (.pointer (some ⟨AB, 0, none⟩))).run Tryd.prog w3 = .ok (.agg #[.int .i64 4, .int .i64 D.wl, .int .u64 D.wb, .int .i64 0, .int .i64 0, .int .u64 0, .int .i64 0, .int .u64 0, .int .i64 0, .int .i64 0, .int .u64 0, .int .i64 0, .int .u64 0, .int .i64 D.oa, .int .i64 D.oo]) w3) := ld_ask A.out
  obtain ⟨w9, hs9, P9, k9⟩ := st_step P.out rfl 1 D.me 4 D.wl D.wb zr zr D.oa D.oo 0 zr zr
  have HS9 := hide hs9
  have P10 := hide P9
  have B9 : Hid (Below w.heap.size w w9) := B.out.trans (k9.to_below B.out.size (by simp))
  clear hs9 P9 k9
  go_wp2_with (first | (focus ((with_reducible refine wpList_load_w ?_ 29 (.tmp 18) ?_ ?_ LP.out ?_); rotate_left; rfl; rfl; rotate_left; rfl)) | (focus ((with_reducible refine wpList_store_w ?_ 29 (.tmp 4) (.tmp 19) ?_ ?_ ?_ SN.out ?_); rotate_left; rfl; rfl; rfl; rotate_left; rfl)) | (focus ((with_reducible refine wpList_load_w ?_ 29 (.tmp 94) ?_ ?_ LX.out ?_); rotate_left; rfl; rfl; rotate_left; rfl)) | (focus ((with_reducible refine wpList_store_w ?_ 29 (.tmp 4) (.tmp 95) ?_ ?_ ?_ HS2.out ?_); rotate_left; rfl; rfl; rfl; rotate_left; rfl)) | (focus ((with_reducible refine wpList_store_w ?_ 45 (.tmp 96) (.const (.int .i64 4)) ?_ ?_ ?_ HS3.out ?_); rotate_left; rfl; rfl; rfl; rotate_left; rfl)) | (focus ((with_reducible refine wpList_load_w ?_ 29 (.tmp 4) ?_ ?_ LT.out ?_); rotate_left; rfl; rfl; rotate_left; rfl)) | (focus ((with_reducible refine wpList_load_w ?_ 47 (.tmp 3) ?_ ?_ LK.out ?_); rotate_left; rfl; rfl; rotate_left; rfl)) | (focus ((with_reducible refine wpList_store_w ?_ 53 (.tmp 2) (.tmp 107) ?_ ?_ ?_ HS9.out ?_); rotate_left; rfl; rfl; rfl; rotate_left; rfl)))
  try simp only [Act.put]
  try go_wp2
  refine ret_step (p := 2) (b := w.heap.size) Tryd.results13 rfl rfl P10.out ?_
  exact ⟨rfl, B9.out⟩

set_option maxHeartbeats 2000000 in
set_option maxRecDepth 100000 in
theorem dn_8 (d : Nat) (D : Ds) (hp : D.st = 8) (w : World) (I : IsB w d (dsL D).toArray 94) : Calls Tryd.prog 13 #[.pointer (some ⟨d, 0, none⟩)] w fun e' w' => e' = .returned (.agg (stL 1 D.me 8 D.wl D.wb zr zr D.oa D.oo 0 zr zr).toArray) ∧ Below w.heap.size w w' := by
  have mixed : Tryd.prog.follows .mixedOrders = true := by kernel_rfl
  have b1 := ((Below.refl w.heap.size w).alloc (Nat.le_refl _) (.cells #[.int .i64 0, .int .i64 0, .int .i64 0, .int .u64 0, .int .i64 0, .int .u64 0, .int .i64 0, .int .i64 0, .int .u64 0, .int .i64 0, .int .i64 0, .int .u64 0, .int .i64 0, .int .u64 0, .int .i64 0, .int .i64 0, .int .u64 0, .int .i64 0, .int .u64 0, .int .i64 0, .int .i64 0, .int .i64 0, .int .u64 0, .slice none 0 0, .slice none 0 0, .int .i64 0, .int .i64 0, .int .u64 0, .int .i64 0, .int .u64 0, .int .i64 0, .int .i64 0, .int .u64 0, .int .i64 0, .int .u64 0, .bool false] 53)).drew
  have P0 := (IsB.new w #[.int .i64 0, .int .i64 0, .int .i64 0, .int .u64 0, .int .i64 0, .int .u64 0, .int .i64 0, .int .i64 0, .int .u64 0, .int .i64 0, .int .i64 0, .int .u64 0, .int .i64 0, .int .u64 0, .int .i64 0, .int .i64 0, .int .u64 0, .int .i64 0, .int .u64 0, .int .i64 0, .int .i64 0, .int .i64 0, .int .u64 0, .slice none 0 0, .slice none 0 0, .int .i64 0, .int .i64 0, .int .u64 0, .int .i64 0, .int .u64 0, .int .i64 0, .int .i64 0, .int .u64 0, .int .i64 0, .int .u64 0, .bool false] 53).below ((Below.refl _ _).drew)
  have P : Hid (IsB (w.alloc (.cells #[.int .i64 0, .int .i64 0, .int .i64 0, .int .u64 0, .int .i64 0, .int .u64 0, .int .i64 0, .int .i64 0, .int .u64 0, .int .i64 0, .int .i64 0, .int .u64 0, .int .i64 0, .int .u64 0, .int .i64 0, .int .i64 0, .int .u64 0, .int .i64 0, .int .u64 0, .int .i64 0, .int .i64 0, .int .i64 0, .int .u64 0, .slice none 0 0, .slice none 0 0, .int .i64 0, .int .i64 0, .int .u64 0, .int .i64 0, .int .u64 0, .int .i64 0, .int .i64 0, .int .u64 0, .int .i64 0, .int .u64 0, .bool false] 53)).drew w.heap.size (stL 0 zr 0 0 0 zr zr 0 0 0 zr zr).toArray 53) := P0
  clear P0
  have ID := hide (I.below b1)
  have B := hide b1
  clear b1 I
  go_enter Tryd.func13, Tryd.ntmps13
  go_wp2_with fail
  refine regionL 12 (fun w' => IsB w' d (dsL D).toArray 94) mixed ID.out (fun hHeld => ?_)
  generalize (w.alloc (.cells #[.int .i64 0, .int .i64 0, .int .i64 0, .int .u64 0, .int .i64 0, .int .u64 0, .int .i64 0, .int .i64 0, .int .u64 0, .int .i64 0, .int .i64 0, .int .u64 0, .int .i64 0, .int .u64 0, .int .i64 0, .int .i64 0, .int .u64 0, .int .i64 0, .int .u64 0, .int .i64 0, .int .i64 0, .int .i64 0, .int .u64 0, .slice none 0 0, .slice none 0 0, .int .i64 0, .int .i64 0, .int .u64 0, .int .i64 0, .int .u64 0, .int .i64 0, .int .i64 0, .int .u64 0, .int .i64 0, .int .u64 0, .bool false] 53)).drew = WD at *
  have IA := hide (ID.out.below ((Below.refl _ _).alloc (Nat.le_refl _) (.cells #[.int .i64 0, .int .i64 0, .int .u64 0, .int .i64 0, .int .i64 0, .int .u64 0, .int .i64 0, .int .u64 0, .int .i64 0, .int .i64 0, .int .u64 0, .int .i64 0, .int .u64 0, .int .i64 0, .int .i64 0] 47)))
  have SA := hide (store_ask WD (akL 0 D.wl D.wb zr zr D.oa D.oo).toArray rfl (by kernel_rfl))
  refine pickA (v := ?_) 0 (some 5) rfl rfl (by kernel_rfl) (by kernel_rfl) (by kernel_rfl) (by decide) (fun _ _ _ h => h) (by rfl) ?_ (by assumption) ?_
  rotate_left
  · intro w'
    go_simp
    try with_reducible rfl
  try simp only [Act.put, List.setIfInBounds_toArray, List.set_cons_zero, List.set_cons_succ]
  refine pickA (v := ?_) 1 (some 6) rfl rfl (by kernel_rfl) (by kernel_rfl) (by kernel_rfl) (by decide) (fun _ _ _ h => h) (by rfl) ?_ (by assumption) ?_
  rotate_left
  · intro w'
    go_simp
    try with_reducible rfl
  try simp only [Act.put, List.setIfInBounds_toArray, List.set_cons_zero, List.set_cons_succ]
  refine pickA (v := ?_) 2 (some 7) rfl rfl (by kernel_rfl) (by kernel_rfl) (by kernel_rfl) (by decide) (fun _ _ _ h => h) (by rfl) ?_ (by assumption) ?_
  rotate_left
  · intro w'
    go_simp
    try with_reducible rfl
  try simp only [Act.put, List.setIfInBounds_toArray, List.set_cons_zero, List.set_cons_succ]
  refine pickA (v := ?_) 3 (some 8) rfl rfl (by kernel_rfl) (by kernel_rfl) (by kernel_rfl) (by decide) (fun _ _ _ h => h) (by rfl) ?_ (by assumption) ?_
  rotate_left
  · intro w'
    go_simp
    try with_reducible rfl
  try simp only [Act.put, List.setIfInBounds_toArray, List.set_cons_zero, List.set_cons_succ]
  refine pickL (v := .agg #[.int .i64 D.wl, .int .u64 D.wb]) 4 (some 9) rfl rfl (by kernel_rfl) (by kernel_rfl) (by kernel_rfl) (by decide) (by kernel_rfl) (by kernel_rfl) (fun _ _ _ h => h) (by rfl) ?_ (by assumption) ?_
  · intro w' hSw
    have q0 := hSw
    exact exec_load rfl rfl (dl_w q0)
  try simp only [Act.put, List.setIfInBounds_toArray, List.set_cons_zero, List.set_cons_succ]
  refine pickA (v := ?_) 5 (some 10) rfl rfl (by kernel_rfl) (by kernel_rfl) (by kernel_rfl) (by decide) (fun _ _ _ h => h) (by rfl) ?_ (by assumption) ?_
  rotate_left
  · intro w'
    go_simp
    try with_reducible rfl
  try simp only [Act.put, List.setIfInBounds_toArray, List.set_cons_zero, List.set_cons_succ]
  refine pickA (v := ?_) 6 (some 11) rfl rfl (by kernel_rfl) (by kernel_rfl) (by kernel_rfl) (by decide) (fun _ _ _ h => h) (by rfl) ?_ (by assumption) ?_
  rotate_left
  · intro w'
    go_simp
    try with_reducible rfl
  try simp only [Act.put, List.setIfInBounds_toArray, List.set_cons_zero, List.set_cons_succ]
  refine pickA (v := ?_) 7 (some 12) rfl rfl (by kernel_rfl) (by kernel_rfl) (by kernel_rfl) (by decide) (fun _ _ _ h => h) (by rfl) ?_ (by assumption) ?_
  rotate_left
  · intro w'
    go_simp
    try with_reducible rfl
  try simp only [Act.put, List.setIfInBounds_toArray, List.set_cons_zero, List.set_cons_succ]
  refine pickA (v := ?_) 8 (some 13) rfl rfl (by kernel_rfl) (by kernel_rfl) (by kernel_rfl) (by decide) (fun _ _ _ h => h) (by rfl) ?_ (by assumption) ?_
  rotate_left
  · intro w'
    go_simp
    try with_reducible rfl
  try simp only [Act.put, List.setIfInBounds_toArray, List.set_cons_zero, List.set_cons_succ]
  refine pickL (v := .agg #[.int .i64 D.oa, .int .i64 D.oo]) 9 (some 14) rfl rfl (by kernel_rfl) (by kernel_rfl) (by kernel_rfl) (by decide) (by kernel_rfl) (by kernel_rfl) (fun _ _ _ h => h) (by rfl) ?_ (by assumption) ?_
  · intro w' hSw
    have q0 := hSw
    exact exec_load rfl rfl (dl_owner q0)
  try simp only [Act.put, List.setIfInBounds_toArray, List.set_cons_zero, List.set_cons_succ]
  refine pickA (v := .agg (akL 0 D.wl D.wb zr zr D.oa D.oo).toArray) 10 (some 15) rfl rfl (by kernel_rfl) (by kernel_rfl) (by kernel_rfl) (by decide) (fun _ _ _ h => h) (by rfl) ?_ (by assumption) ?_
  · intro w'
    kernel_rfl
  try simp only [Act.put, List.setIfInBounds_toArray, List.set_cons_zero, List.set_cons_succ]
  refine oneL (i := 11) (by kernel_rfl) rfl (fun K hK => ?_)
  go_simp
  refine hK.out _ _ ?_ ?_
  · exact IA.out
  clear hK K
  try simp only [Act.put, List.setIfInBounds_toArray, List.set_cons_zero, List.set_cons_succ]
  clear hHeld
  have hHeld : (fun w' => IsB w' d (dsL D).toArray 94) (WD.alloc (.cells #[.int .i64 0, .int .i64 0, .int .u64 0, .int .i64 0, .int .i64 0, .int .u64 0, .int .i64 0, .int .u64 0, .int .i64 0, .int .i64 0, .int .u64 0, .int .i64 0, .int .u64 0, .int .i64 0, .int .i64 0] 47)) := IA.out
  refine lateL (i := 12) (by kernel_rfl) rfl (by decide) (by kernel_rfl) (fun K hK => ?_)
  refine step_store_w rfl 47 (.tmp 3) (.tmp 15) rfl rfl rfl SA.out ?_
  refine hK.out _ _ ?_
  clear hK K
  try simp only [Act.put, List.setIfInBounds_toArray]
  refine doneL (by kernel_rfl) ?_ _
  clear hHeld
  clear IA SA
  have b2 := (Below.refl WD.heap.size WD).alloc (Nat.le_refl _) (.cells (akL 0 D.wl D.wb zr zr D.oa D.oo).toArray 47)
  have A := hide (IsB.new WD (akL 0 D.wl D.wb zr zr D.oa D.oo).toArray 47)
  have hAB := hide B.out.size
  have J := hide (ID.out.below b2)
  replace P := hide (P.out.below b2)
  replace B := hide (B.out.trans (b2.mono B.out.size))
  clear b2 ID
  generalize hW2 : (WD.alloc (.cells (akL 0 D.wl D.wb zr zr D.oa D.oo).toArray 47)) = W2 at *
  clear hW2
  obtain ⟨AB, hABe⟩ : ∃ AB, WD.heap.size = AB := ⟨_, rfl⟩
  rw [hABe] at A hAB ⊢
  clear hABe
  have b3 := (Below.refl W2.heap.size W2).alloc (Nat.le_refl _) (.cells D.p.cells 29)
  have T := hide (IsB.new W2 D.p.cells 29)
  have hTB := hide B.out.size
  have LP := hide (dl_p J.out)
  have SN := hide (store_newr W2 D.p)
  replace J := hide (J.out.below b3)
  replace P := hide (P.out.below b3)
  replace A := hide (A.out.below b3)
  replace B := hide (B.out.trans (b3.mono B.out.size))
  clear b3
  have y14 := dc_st J.out
  rw [hp] at y14
  clear hp
  have LX := hide (dl_me J.out)
  obtain ⟨w2, hs2, N2, k2⟩ := st_ref T.out D.me
  have HS2 := hide hs2
  replace J := hide (J.out.kp k2 (by simp only [List.mem_singleton]; exact fun e => IsB.ne_t J.out T.out (by decide) e))
  replace A := hide (A.out.kp k2 (by simp only [List.mem_singleton]; exact fun e => IsB.ne_t A.out T.out (by decide) e))
  replace P := hide (P.out.kp k2 (by simp only [List.mem_singleton]; exact fun e => IsB.ne_t P.out T.out (by decide) e))
  replace B := hide (B.out.trans (k2.to_below B.out.size (by simpa using hTB.out)))
  replace T := hide N2
  have J2 := J
  clear hs2 N2 k2
  obtain ⟨w3, hs3, N3, k3⟩ := sa_kind A.out 8
  have HS3 := hide hs3
  replace J := hide (J.out.kp k3 (by simp only [List.mem_singleton]; exact fun e => IsB.ne_t J.out A.out (by decide) e))
  replace T := hide (T.out.kp k3 (by simp only [List.mem_singleton]; exact fun e => IsB.ne_t T.out A.out (by decide) e))
  replace P := hide (P.out.kp k3 (by simp only [List.mem_singleton]; exact fun e => IsB.ne_t P.out A.out (by decide) e))
  replace B := hide (B.out.trans (k3.to_below B.out.size (by simpa using hAB.out)))
  replace A := hide N3
  have J3 := J
  clear hs3 N3 k3
  have LT : Hid ((Instr.loadAt 29 (.pointer (some ⟨W2.heap.size, 0, none⟩))).run Tryd.prog w3 = .ok (.agg #[.int .i64 D.me.id, .int .i64 D.me.rk, .int .u64 D.me.kn, .int .i64 D.me.ln, .int .u64 D.me.bt]) w3) := load_ref T.out rfl
  have LK : Hid ((Instr.loadAt 47 (.pointer (some ⟨AB, 0, none⟩))).run Tryd.prog w3 = .ok (.agg #[.int .i64 8, .int .i64 D.wl, .int .u64 D.wb, .int .i64 0, .int .i64 0, .int .u64 0, .int .i64 0, .int .u64 0, .int .i64 0, .int .i64 0, .int .u64 0, .int .i64 0, .int .u64 0, .int .i64 D.oa, .int .i64 D.oo]) w3) := ld_ask A.out
  obtain ⟨w9, hs9, P9, k9⟩ := st_step P.out rfl 1 D.me 8 D.wl D.wb zr zr D.oa D.oo 0 zr zr
  have HS9 := hide hs9
  have P10 := hide P9
  have B9 : Hid (Below w.heap.size w w9) := B.out.trans (k9.to_below B.out.size (by simp))
  clear hs9 P9 k9
  go_wp2_with (first | (focus ((with_reducible refine wpList_load_w ?_ 29 (.tmp 18) ?_ ?_ LP.out ?_); rotate_left; rfl; rfl; rotate_left; rfl)) | (focus ((with_reducible refine wpList_store_w ?_ 29 (.tmp 4) (.tmp 19) ?_ ?_ ?_ SN.out ?_); rotate_left; rfl; rfl; rfl; rotate_left; rfl)) | (focus ((with_reducible refine wpList_load_w ?_ 29 (.tmp 102) ?_ ?_ LX.out ?_); rotate_left; rfl; rfl; rotate_left; rfl)) | (focus ((with_reducible refine wpList_store_w ?_ 29 (.tmp 4) (.tmp 103) ?_ ?_ ?_ HS2.out ?_); rotate_left; rfl; rfl; rfl; rotate_left; rfl)) | (focus ((with_reducible refine wpList_store_w ?_ 45 (.tmp 104) (.const (.int .i64 8)) ?_ ?_ ?_ HS3.out ?_); rotate_left; rfl; rfl; rfl; rotate_left; rfl)) | (focus ((with_reducible refine wpList_load_w ?_ 29 (.tmp 4) ?_ ?_ LT.out ?_); rotate_left; rfl; rfl; rotate_left; rfl)) | (focus ((with_reducible refine wpList_load_w ?_ 47 (.tmp 3) ?_ ?_ LK.out ?_); rotate_left; rfl; rfl; rotate_left; rfl)) | (focus ((with_reducible refine wpList_store_w ?_ 53 (.tmp 2) (.tmp 107) ?_ ?_ ?_ HS9.out ?_); rotate_left; rfl; rfl; rfl; rotate_left; rfl)))
  try simp only [Act.put]
  try go_wp2
  refine ret_step (p := 2) (b := w.heap.size) Tryd.results13 rfl rfl P10.out ?_
  exact ⟨rfl, B9.out⟩

set_option maxHeartbeats 2000000 in
set_option maxRecDepth 100000 in
theorem dn_9 (d : Nat) (D : Ds) (hp : D.st = 9) (w : World) (I : IsB w d (dsL D).toArray 94) : Calls Tryd.prog 13 #[.pointer (some ⟨d, 0, none⟩)] w fun e' w' => e' = .returned (.agg (stL 1 D.p 4 D.wl D.wb zr zr D.oa D.oo 0 zr zr).toArray) ∧ Below w.heap.size w w' := by
  have mixed : Tryd.prog.follows .mixedOrders = true := by kernel_rfl
  have b1 := ((Below.refl w.heap.size w).alloc (Nat.le_refl _) (.cells #[.int .i64 0, .int .i64 0, .int .i64 0, .int .u64 0, .int .i64 0, .int .u64 0, .int .i64 0, .int .i64 0, .int .u64 0, .int .i64 0, .int .i64 0, .int .u64 0, .int .i64 0, .int .u64 0, .int .i64 0, .int .i64 0, .int .u64 0, .int .i64 0, .int .u64 0, .int .i64 0, .int .i64 0, .int .i64 0, .int .u64 0, .slice none 0 0, .slice none 0 0, .int .i64 0, .int .i64 0, .int .u64 0, .int .i64 0, .int .u64 0, .int .i64 0, .int .i64 0, .int .u64 0, .int .i64 0, .int .u64 0, .bool false] 53)).drew
  have P0 := (IsB.new w #[.int .i64 0, .int .i64 0, .int .i64 0, .int .u64 0, .int .i64 0, .int .u64 0, .int .i64 0, .int .i64 0, .int .u64 0, .int .i64 0, .int .i64 0, .int .u64 0, .int .i64 0, .int .u64 0, .int .i64 0, .int .i64 0, .int .u64 0, .int .i64 0, .int .u64 0, .int .i64 0, .int .i64 0, .int .i64 0, .int .u64 0, .slice none 0 0, .slice none 0 0, .int .i64 0, .int .i64 0, .int .u64 0, .int .i64 0, .int .u64 0, .int .i64 0, .int .i64 0, .int .u64 0, .int .i64 0, .int .u64 0, .bool false] 53).below ((Below.refl _ _).drew)
  have P : Hid (IsB (w.alloc (.cells #[.int .i64 0, .int .i64 0, .int .i64 0, .int .u64 0, .int .i64 0, .int .u64 0, .int .i64 0, .int .i64 0, .int .u64 0, .int .i64 0, .int .i64 0, .int .u64 0, .int .i64 0, .int .u64 0, .int .i64 0, .int .i64 0, .int .u64 0, .int .i64 0, .int .u64 0, .int .i64 0, .int .i64 0, .int .i64 0, .int .u64 0, .slice none 0 0, .slice none 0 0, .int .i64 0, .int .i64 0, .int .u64 0, .int .i64 0, .int .u64 0, .int .i64 0, .int .i64 0, .int .u64 0, .int .i64 0, .int .u64 0, .bool false] 53)).drew w.heap.size (stL 0 zr 0 0 0 zr zr 0 0 0 zr zr).toArray 53) := P0
  clear P0
  have ID := hide (I.below b1)
  have B := hide b1
  clear b1 I
  go_enter Tryd.func13, Tryd.ntmps13
  go_wp2_with fail
  refine regionL 12 (fun w' => IsB w' d (dsL D).toArray 94) mixed ID.out (fun hHeld => ?_)
  generalize (w.alloc (.cells #[.int .i64 0, .int .i64 0, .int .i64 0, .int .u64 0, .int .i64 0, .int .u64 0, .int .i64 0, .int .i64 0, .int .u64 0, .int .i64 0, .int .i64 0, .int .u64 0, .int .i64 0, .int .u64 0, .int .i64 0, .int .i64 0, .int .u64 0, .int .i64 0, .int .u64 0, .int .i64 0, .int .i64 0, .int .i64 0, .int .u64 0, .slice none 0 0, .slice none 0 0, .int .i64 0, .int .i64 0, .int .u64 0, .int .i64 0, .int .u64 0, .int .i64 0, .int .i64 0, .int .u64 0, .int .i64 0, .int .u64 0, .bool false] 53)).drew = WD at *
  have IA := hide (ID.out.below ((Below.refl _ _).alloc (Nat.le_refl _) (.cells #[.int .i64 0, .int .i64 0, .int .u64 0, .int .i64 0, .int .i64 0, .int .u64 0, .int .i64 0, .int .u64 0, .int .i64 0, .int .i64 0, .int .u64 0, .int .i64 0, .int .u64 0, .int .i64 0, .int .i64 0] 47)))
  have SA := hide (store_ask WD (akL 0 D.wl D.wb zr zr D.oa D.oo).toArray rfl (by kernel_rfl))
  refine pickA (v := ?_) 0 (some 5) rfl rfl (by kernel_rfl) (by kernel_rfl) (by kernel_rfl) (by decide) (fun _ _ _ h => h) (by rfl) ?_ (by assumption) ?_
  rotate_left
  · intro w'
    go_simp
    try with_reducible rfl
  try simp only [Act.put, List.setIfInBounds_toArray, List.set_cons_zero, List.set_cons_succ]
  refine pickA (v := ?_) 1 (some 6) rfl rfl (by kernel_rfl) (by kernel_rfl) (by kernel_rfl) (by decide) (fun _ _ _ h => h) (by rfl) ?_ (by assumption) ?_
  rotate_left
  · intro w'
    go_simp
    try with_reducible rfl
  try simp only [Act.put, List.setIfInBounds_toArray, List.set_cons_zero, List.set_cons_succ]
  refine pickA (v := ?_) 2 (some 7) rfl rfl (by kernel_rfl) (by kernel_rfl) (by kernel_rfl) (by decide) (fun _ _ _ h => h) (by rfl) ?_ (by assumption) ?_
  rotate_left
  · intro w'
    go_simp
    try with_reducible rfl
  try simp only [Act.put, List.setIfInBounds_toArray, List.set_cons_zero, List.set_cons_succ]
  refine pickA (v := ?_) 3 (some 8) rfl rfl (by kernel_rfl) (by kernel_rfl) (by kernel_rfl) (by decide) (fun _ _ _ h => h) (by rfl) ?_ (by assumption) ?_
  rotate_left
  · intro w'
    go_simp
    try with_reducible rfl
  try simp only [Act.put, List.setIfInBounds_toArray, List.set_cons_zero, List.set_cons_succ]
  refine pickL (v := .agg #[.int .i64 D.wl, .int .u64 D.wb]) 4 (some 9) rfl rfl (by kernel_rfl) (by kernel_rfl) (by kernel_rfl) (by decide) (by kernel_rfl) (by kernel_rfl) (fun _ _ _ h => h) (by rfl) ?_ (by assumption) ?_
  · intro w' hSw
    have q0 := hSw
    exact exec_load rfl rfl (dl_w q0)
  try simp only [Act.put, List.setIfInBounds_toArray, List.set_cons_zero, List.set_cons_succ]
  refine pickA (v := ?_) 5 (some 10) rfl rfl (by kernel_rfl) (by kernel_rfl) (by kernel_rfl) (by decide) (fun _ _ _ h => h) (by rfl) ?_ (by assumption) ?_
  rotate_left
  · intro w'
    go_simp
    try with_reducible rfl
  try simp only [Act.put, List.setIfInBounds_toArray, List.set_cons_zero, List.set_cons_succ]
  refine pickA (v := ?_) 6 (some 11) rfl rfl (by kernel_rfl) (by kernel_rfl) (by kernel_rfl) (by decide) (fun _ _ _ h => h) (by rfl) ?_ (by assumption) ?_
  rotate_left
  · intro w'
    go_simp
    try with_reducible rfl
  try simp only [Act.put, List.setIfInBounds_toArray, List.set_cons_zero, List.set_cons_succ]
  refine pickA (v := ?_) 7 (some 12) rfl rfl (by kernel_rfl) (by kernel_rfl) (by kernel_rfl) (by decide) (fun _ _ _ h => h) (by rfl) ?_ (by assumption) ?_
  rotate_left
  · intro w'
    go_simp
    try with_reducible rfl
  try simp only [Act.put, List.setIfInBounds_toArray, List.set_cons_zero, List.set_cons_succ]
  refine pickA (v := ?_) 8 (some 13) rfl rfl (by kernel_rfl) (by kernel_rfl) (by kernel_rfl) (by decide) (fun _ _ _ h => h) (by rfl) ?_ (by assumption) ?_
  rotate_left
  · intro w'
    go_simp
    try with_reducible rfl
  try simp only [Act.put, List.setIfInBounds_toArray, List.set_cons_zero, List.set_cons_succ]
  refine pickL (v := .agg #[.int .i64 D.oa, .int .i64 D.oo]) 9 (some 14) rfl rfl (by kernel_rfl) (by kernel_rfl) (by kernel_rfl) (by decide) (by kernel_rfl) (by kernel_rfl) (fun _ _ _ h => h) (by rfl) ?_ (by assumption) ?_
  · intro w' hSw
    have q0 := hSw
    exact exec_load rfl rfl (dl_owner q0)
  try simp only [Act.put, List.setIfInBounds_toArray, List.set_cons_zero, List.set_cons_succ]
  refine pickA (v := .agg (akL 0 D.wl D.wb zr zr D.oa D.oo).toArray) 10 (some 15) rfl rfl (by kernel_rfl) (by kernel_rfl) (by kernel_rfl) (by decide) (fun _ _ _ h => h) (by rfl) ?_ (by assumption) ?_
  · intro w'
    kernel_rfl
  try simp only [Act.put, List.setIfInBounds_toArray, List.set_cons_zero, List.set_cons_succ]
  refine oneL (i := 11) (by kernel_rfl) rfl (fun K hK => ?_)
  go_simp
  refine hK.out _ _ ?_ ?_
  · exact IA.out
  clear hK K
  try simp only [Act.put, List.setIfInBounds_toArray, List.set_cons_zero, List.set_cons_succ]
  clear hHeld
  have hHeld : (fun w' => IsB w' d (dsL D).toArray 94) (WD.alloc (.cells #[.int .i64 0, .int .i64 0, .int .u64 0, .int .i64 0, .int .i64 0, .int .u64 0, .int .i64 0, .int .u64 0, .int .i64 0, .int .i64 0, .int .u64 0, .int .i64 0, .int .u64 0, .int .i64 0, .int .i64 0] 47)) := IA.out
  refine lateL (i := 12) (by kernel_rfl) rfl (by decide) (by kernel_rfl) (fun K hK => ?_)
  refine step_store_w rfl 47 (.tmp 3) (.tmp 15) rfl rfl rfl SA.out ?_
  refine hK.out _ _ ?_
  clear hK K
  try simp only [Act.put, List.setIfInBounds_toArray]
  refine doneL (by kernel_rfl) ?_ _
  clear hHeld
  clear IA SA
  have b2 := (Below.refl WD.heap.size WD).alloc (Nat.le_refl _) (.cells (akL 0 D.wl D.wb zr zr D.oa D.oo).toArray 47)
  have A := hide (IsB.new WD (akL 0 D.wl D.wb zr zr D.oa D.oo).toArray 47)
  have hAB := hide B.out.size
  have J := hide (ID.out.below b2)
  replace P := hide (P.out.below b2)
  replace B := hide (B.out.trans (b2.mono B.out.size))
  clear b2 ID
  generalize hW2 : (WD.alloc (.cells (akL 0 D.wl D.wb zr zr D.oa D.oo).toArray 47)) = W2 at *
  clear hW2
  obtain ⟨AB, hABe⟩ : ∃ AB, WD.heap.size = AB := ⟨_, rfl⟩
  rw [hABe] at A hAB ⊢
  clear hABe
  have b3 := (Below.refl W2.heap.size W2).alloc (Nat.le_refl _) (.cells D.p.cells 29)
  have T := hide (IsB.new W2 D.p.cells 29)
  have hTB := hide B.out.size
  have LP := hide (dl_p J.out)
  have SN := hide (store_newr W2 D.p)
  replace J := hide (J.out.below b3)
  replace P := hide (P.out.below b3)
  replace A := hide (A.out.below b3)
  replace B := hide (B.out.trans (b3.mono B.out.size))
  clear b3
  have y14 := dc_st J.out
  rw [hp] at y14
  clear hp
  obtain ⟨w2, hs2, N2, k2⟩ := sa_kind A.out 4
  have HS2 := hide hs2
  replace J := hide (J.out.kp k2 (by simp only [List.mem_singleton]; exact fun e => IsB.ne_t J.out A.out (by decide) e))
  replace T := hide (T.out.kp k2 (by simp only [List.mem_singleton]; exact fun e => IsB.ne_t T.out A.out (by decide) e))
  replace P := hide (P.out.kp k2 (by simp only [List.mem_singleton]; exact fun e => IsB.ne_t P.out A.out (by decide) e))
  replace B := hide (B.out.trans (k2.to_below B.out.size (by simpa using hAB.out)))
  replace A := hide N2
  have J2 := J
  clear hs2 N2 k2
  have LT : Hid ((Instr.loadAt 29 (.pointer (some ⟨W2.heap.size, 0, none⟩))).run Tryd.prog w2 = .ok (.agg #[.int .i64 D.p.id, .int .i64 D.p.rk, .int .u64 D.p.kn, .int .i64 D.p.ln, .int .u64 D.p.bt]) w2) := load_ref T.out rfl
  have LK : Hid ((Instr.loadAt 47 (.pointer (some ⟨AB, 0, none⟩))).run Tryd.prog w2 = .ok (.agg #[.int .i64 4, .int .i64 D.wl, .int .u64 D.wb, .int .i64 0, .int .i64 0, .int .u64 0, .int .i64 0, .int .u64 0, .int .i64 0, .int .i64 0, .int .u64 0, .int .i64 0, .int .u64 0, .int .i64 D.oa, .int .i64 D.oo]) w2) := ld_ask A.out
  obtain ⟨w9, hs9, P9, k9⟩ := st_step P.out rfl 1 D.p 4 D.wl D.wb zr zr D.oa D.oo 0 zr zr
  have HS9 := hide hs9
  have P10 := hide P9
  have B9 : Hid (Below w.heap.size w w9) := B.out.trans (k9.to_below B.out.size (by simp))
  clear hs9 P9 k9
  go_wp2_with (first | (focus ((with_reducible refine wpList_load_w ?_ 29 (.tmp 18) ?_ ?_ LP.out ?_); rotate_left; rfl; rfl; rotate_left; rfl)) | (focus ((with_reducible refine wpList_store_w ?_ 29 (.tmp 4) (.tmp 19) ?_ ?_ ?_ SN.out ?_); rotate_left; rfl; rfl; rfl; rotate_left; rfl)) | (focus ((with_reducible refine wpList_store_w ?_ 45 (.tmp 24) (.const (.int .i64 4)) ?_ ?_ ?_ HS2.out ?_); rotate_left; rfl; rfl; rfl; rotate_left; rfl)) | (focus ((with_reducible refine wpList_load_w ?_ 29 (.tmp 4) ?_ ?_ LT.out ?_); rotate_left; rfl; rfl; rotate_left; rfl)) | (focus ((with_reducible refine wpList_load_w ?_ 47 (.tmp 3) ?_ ?_ LK.out ?_); rotate_left; rfl; rfl; rotate_left; rfl)) | (focus ((with_reducible refine wpList_store_w ?_ 53 (.tmp 2) (.tmp 107) ?_ ?_ ?_ HS9.out ?_); rotate_left; rfl; rfl; rfl; rotate_left; rfl)))
  try simp only [Act.put]
  try go_wp2
  refine ret_step (p := 2) (b := w.heap.size) Tryd.results13 rfl rfl P10.out ?_
  exact ⟨rfl, B9.out⟩

set_option maxHeartbeats 2000000 in
set_option maxRecDepth 100000 in
theorem dn_4 (d : Nat) (D : Ds) (hp : D.st = 4) (w : World) (I : IsB w d (dsL D).toArray 94) : Calls Tryd.prog 13 #[.pointer (some ⟨d, 0, none⟩)] w fun e' w' => e' = .returned (.agg (stL 1 D.me 7 D.wl D.wb D.p D.r D.oa D.oo 0 zr zr).toArray) ∧ Below w.heap.size w w' := by
  have mixed : Tryd.prog.follows .mixedOrders = true := by kernel_rfl
  have b1 := ((Below.refl w.heap.size w).alloc (Nat.le_refl _) (.cells #[.int .i64 0, .int .i64 0, .int .i64 0, .int .u64 0, .int .i64 0, .int .u64 0, .int .i64 0, .int .i64 0, .int .u64 0, .int .i64 0, .int .i64 0, .int .u64 0, .int .i64 0, .int .u64 0, .int .i64 0, .int .i64 0, .int .u64 0, .int .i64 0, .int .u64 0, .int .i64 0, .int .i64 0, .int .i64 0, .int .u64 0, .slice none 0 0, .slice none 0 0, .int .i64 0, .int .i64 0, .int .u64 0, .int .i64 0, .int .u64 0, .int .i64 0, .int .i64 0, .int .u64 0, .int .i64 0, .int .u64 0, .bool false] 53)).drew
  have P0 := (IsB.new w #[.int .i64 0, .int .i64 0, .int .i64 0, .int .u64 0, .int .i64 0, .int .u64 0, .int .i64 0, .int .i64 0, .int .u64 0, .int .i64 0, .int .i64 0, .int .u64 0, .int .i64 0, .int .u64 0, .int .i64 0, .int .i64 0, .int .u64 0, .int .i64 0, .int .u64 0, .int .i64 0, .int .i64 0, .int .i64 0, .int .u64 0, .slice none 0 0, .slice none 0 0, .int .i64 0, .int .i64 0, .int .u64 0, .int .i64 0, .int .u64 0, .int .i64 0, .int .i64 0, .int .u64 0, .int .i64 0, .int .u64 0, .bool false] 53).below ((Below.refl _ _).drew)
  have P : Hid (IsB (w.alloc (.cells #[.int .i64 0, .int .i64 0, .int .i64 0, .int .u64 0, .int .i64 0, .int .u64 0, .int .i64 0, .int .i64 0, .int .u64 0, .int .i64 0, .int .i64 0, .int .u64 0, .int .i64 0, .int .u64 0, .int .i64 0, .int .i64 0, .int .u64 0, .int .i64 0, .int .u64 0, .int .i64 0, .int .i64 0, .int .i64 0, .int .u64 0, .slice none 0 0, .slice none 0 0, .int .i64 0, .int .i64 0, .int .u64 0, .int .i64 0, .int .u64 0, .int .i64 0, .int .i64 0, .int .u64 0, .int .i64 0, .int .u64 0, .bool false] 53)).drew w.heap.size (stL 0 zr 0 0 0 zr zr 0 0 0 zr zr).toArray 53) := P0
  clear P0
  have ID := hide (I.below b1)
  have B := hide b1
  clear b1 I
  go_enter Tryd.func13, Tryd.ntmps13
  go_wp2_with fail
  refine regionL 12 (fun w' => IsB w' d (dsL D).toArray 94) mixed ID.out (fun hHeld => ?_)
  generalize (w.alloc (.cells #[.int .i64 0, .int .i64 0, .int .i64 0, .int .u64 0, .int .i64 0, .int .u64 0, .int .i64 0, .int .i64 0, .int .u64 0, .int .i64 0, .int .i64 0, .int .u64 0, .int .i64 0, .int .u64 0, .int .i64 0, .int .i64 0, .int .u64 0, .int .i64 0, .int .u64 0, .int .i64 0, .int .i64 0, .int .i64 0, .int .u64 0, .slice none 0 0, .slice none 0 0, .int .i64 0, .int .i64 0, .int .u64 0, .int .i64 0, .int .u64 0, .int .i64 0, .int .i64 0, .int .u64 0, .int .i64 0, .int .u64 0, .bool false] 53)).drew = WD at *
  have IA := hide (ID.out.below ((Below.refl _ _).alloc (Nat.le_refl _) (.cells #[.int .i64 0, .int .i64 0, .int .u64 0, .int .i64 0, .int .i64 0, .int .u64 0, .int .i64 0, .int .u64 0, .int .i64 0, .int .i64 0, .int .u64 0, .int .i64 0, .int .u64 0, .int .i64 0, .int .i64 0] 47)))
  have SA := hide (store_ask WD (akL 0 D.wl D.wb zr zr D.oa D.oo).toArray rfl (by kernel_rfl))
  refine pickA (v := ?_) 0 (some 5) rfl rfl (by kernel_rfl) (by kernel_rfl) (by kernel_rfl) (by decide) (fun _ _ _ h => h) (by rfl) ?_ (by assumption) ?_
  rotate_left
  · intro w'
    go_simp
    try with_reducible rfl
  try simp only [Act.put, List.setIfInBounds_toArray, List.set_cons_zero, List.set_cons_succ]
  refine pickA (v := ?_) 1 (some 6) rfl rfl (by kernel_rfl) (by kernel_rfl) (by kernel_rfl) (by decide) (fun _ _ _ h => h) (by rfl) ?_ (by assumption) ?_
  rotate_left
  · intro w'
    go_simp
    try with_reducible rfl
  try simp only [Act.put, List.setIfInBounds_toArray, List.set_cons_zero, List.set_cons_succ]
  refine pickA (v := ?_) 2 (some 7) rfl rfl (by kernel_rfl) (by kernel_rfl) (by kernel_rfl) (by decide) (fun _ _ _ h => h) (by rfl) ?_ (by assumption) ?_
  rotate_left
  · intro w'
    go_simp
    try with_reducible rfl
  try simp only [Act.put, List.setIfInBounds_toArray, List.set_cons_zero, List.set_cons_succ]
  refine pickA (v := ?_) 3 (some 8) rfl rfl (by kernel_rfl) (by kernel_rfl) (by kernel_rfl) (by decide) (fun _ _ _ h => h) (by rfl) ?_ (by assumption) ?_
  rotate_left
  · intro w'
    go_simp
    try with_reducible rfl
  try simp only [Act.put, List.setIfInBounds_toArray, List.set_cons_zero, List.set_cons_succ]
  refine pickL (v := .agg #[.int .i64 D.wl, .int .u64 D.wb]) 4 (some 9) rfl rfl (by kernel_rfl) (by kernel_rfl) (by kernel_rfl) (by decide) (by kernel_rfl) (by kernel_rfl) (fun _ _ _ h => h) (by rfl) ?_ (by assumption) ?_
  · intro w' hSw
    have q0 := hSw
    exact exec_load rfl rfl (dl_w q0)
  try simp only [Act.put, List.setIfInBounds_toArray, List.set_cons_zero, List.set_cons_succ]
  refine pickA (v := ?_) 5 (some 10) rfl rfl (by kernel_rfl) (by kernel_rfl) (by kernel_rfl) (by decide) (fun _ _ _ h => h) (by rfl) ?_ (by assumption) ?_
  rotate_left
  · intro w'
    go_simp
    try with_reducible rfl
  try simp only [Act.put, List.setIfInBounds_toArray, List.set_cons_zero, List.set_cons_succ]
  refine pickA (v := ?_) 6 (some 11) rfl rfl (by kernel_rfl) (by kernel_rfl) (by kernel_rfl) (by decide) (fun _ _ _ h => h) (by rfl) ?_ (by assumption) ?_
  rotate_left
  · intro w'
    go_simp
    try with_reducible rfl
  try simp only [Act.put, List.setIfInBounds_toArray, List.set_cons_zero, List.set_cons_succ]
  refine pickA (v := ?_) 7 (some 12) rfl rfl (by kernel_rfl) (by kernel_rfl) (by kernel_rfl) (by decide) (fun _ _ _ h => h) (by rfl) ?_ (by assumption) ?_
  rotate_left
  · intro w'
    go_simp
    try with_reducible rfl
  try simp only [Act.put, List.setIfInBounds_toArray, List.set_cons_zero, List.set_cons_succ]
  refine pickA (v := ?_) 8 (some 13) rfl rfl (by kernel_rfl) (by kernel_rfl) (by kernel_rfl) (by decide) (fun _ _ _ h => h) (by rfl) ?_ (by assumption) ?_
  rotate_left
  · intro w'
    go_simp
    try with_reducible rfl
  try simp only [Act.put, List.setIfInBounds_toArray, List.set_cons_zero, List.set_cons_succ]
  refine pickL (v := .agg #[.int .i64 D.oa, .int .i64 D.oo]) 9 (some 14) rfl rfl (by kernel_rfl) (by kernel_rfl) (by kernel_rfl) (by decide) (by kernel_rfl) (by kernel_rfl) (fun _ _ _ h => h) (by rfl) ?_ (by assumption) ?_
  · intro w' hSw
    have q0 := hSw
    exact exec_load rfl rfl (dl_owner q0)
  try simp only [Act.put, List.setIfInBounds_toArray, List.set_cons_zero, List.set_cons_succ]
  refine pickA (v := .agg (akL 0 D.wl D.wb zr zr D.oa D.oo).toArray) 10 (some 15) rfl rfl (by kernel_rfl) (by kernel_rfl) (by kernel_rfl) (by decide) (fun _ _ _ h => h) (by rfl) ?_ (by assumption) ?_
  · intro w'
    kernel_rfl
  try simp only [Act.put, List.setIfInBounds_toArray, List.set_cons_zero, List.set_cons_succ]
  refine oneL (i := 11) (by kernel_rfl) rfl (fun K hK => ?_)
  go_simp
  refine hK.out _ _ ?_ ?_
  · exact IA.out
  clear hK K
  try simp only [Act.put, List.setIfInBounds_toArray, List.set_cons_zero, List.set_cons_succ]
  clear hHeld
  have hHeld : (fun w' => IsB w' d (dsL D).toArray 94) (WD.alloc (.cells #[.int .i64 0, .int .i64 0, .int .u64 0, .int .i64 0, .int .i64 0, .int .u64 0, .int .i64 0, .int .u64 0, .int .i64 0, .int .i64 0, .int .u64 0, .int .i64 0, .int .u64 0, .int .i64 0, .int .i64 0] 47)) := IA.out
  refine lateL (i := 12) (by kernel_rfl) rfl (by decide) (by kernel_rfl) (fun K hK => ?_)
  refine step_store_w rfl 47 (.tmp 3) (.tmp 15) rfl rfl rfl SA.out ?_
  refine hK.out _ _ ?_
  clear hK K
  try simp only [Act.put, List.setIfInBounds_toArray]
  refine doneL (by kernel_rfl) ?_ _
  clear hHeld
  clear IA SA
  have b2 := (Below.refl WD.heap.size WD).alloc (Nat.le_refl _) (.cells (akL 0 D.wl D.wb zr zr D.oa D.oo).toArray 47)
  have A := hide (IsB.new WD (akL 0 D.wl D.wb zr zr D.oa D.oo).toArray 47)
  have hAB := hide B.out.size
  have J := hide (ID.out.below b2)
  replace P := hide (P.out.below b2)
  replace B := hide (B.out.trans (b2.mono B.out.size))
  clear b2 ID
  generalize hW2 : (WD.alloc (.cells (akL 0 D.wl D.wb zr zr D.oa D.oo).toArray 47)) = W2 at *
  clear hW2
  obtain ⟨AB, hABe⟩ : ∃ AB, WD.heap.size = AB := ⟨_, rfl⟩
  rw [hABe] at A hAB ⊢
  clear hABe
  have b3 := (Below.refl W2.heap.size W2).alloc (Nat.le_refl _) (.cells D.p.cells 29)
  have T := hide (IsB.new W2 D.p.cells 29)
  have hTB := hide B.out.size
  have LP := hide (dl_p J.out)
  have SN := hide (store_newr W2 D.p)
  replace J := hide (J.out.below b3)
  replace P := hide (P.out.below b3)
  replace A := hide (A.out.below b3)
  replace B := hide (B.out.trans (b3.mono B.out.size))
  clear b3
  have y14 := dc_st J.out
  rw [hp] at y14
  clear hp
  skip
  go_wp2_with (first | (focus ((with_reducible refine wpList_load_w ?_ 29 (.tmp 18) ?_ ?_ LP.out ?_); rotate_left; rfl; rfl; rotate_left; rfl)) | (focus ((with_reducible refine wpList_store_w ?_ 29 (.tmp 4) (.tmp 19) ?_ ?_ ?_ SN.out ?_); rotate_left; rfl; rfl; rfl; rotate_left; rfl)))
  have J0 := hide (J.out.below ((Below.refl _ _).drew))
  replace A := hide (A.out.below ((Below.refl _ _).drew))
  replace T := hide (T.out.below ((Below.refl _ _).drew))
  replace P := hide (P.out.below ((Below.refl _ _).drew))
  replace B := hide B.out.drew
  clear J LP SN y14
  have J := J0
  refine regionL 20 (fun w' => IsB w' d (dsL D).toArray 94) mixed J0.out (fun hHeld => ?_)
  generalize (W2.alloc (.cells D.p.cells 29)).drew = WE at *
  obtain ⟨w2, hs2, N2, k2⟩ := st_ref T.out D.me
  have HS2 := hide hs2
  replace J := hide (J.out.kp k2 (by simp only [List.mem_singleton]; exact fun e => IsB.ne_t J.out T.out (by decide) e))
  replace A := hide (A.out.kp k2 (by simp only [List.mem_singleton]; exact fun e => IsB.ne_t A.out T.out (by decide) e))
  replace P := hide (P.out.kp k2 (by simp only [List.mem_singleton]; exact fun e => IsB.ne_t P.out T.out (by decide) e))
  replace B := hide (B.out.trans (k2.to_below B.out.size (by simpa using hTB.out)))
  replace T := hide N2
  have J2 := J
  clear hs2 N2 k2
  obtain ⟨w3, hs3, N3, k3⟩ := sa_kind A.out 7
  have HS3 := hide hs3
  replace J := hide (J.out.kp k3 (by simp only [List.mem_singleton]; exact fun e => IsB.ne_t J.out A.out (by decide) e))
  replace T := hide (T.out.kp k3 (by simp only [List.mem_singleton]; exact fun e => IsB.ne_t T.out A.out (by decide) e))
  replace P := hide (P.out.kp k3 (by simp only [List.mem_singleton]; exact fun e => IsB.ne_t P.out A.out (by decide) e))
  replace B := hide (B.out.trans (k3.to_below B.out.size (by simpa using hAB.out)))
  replace A := hide N3
  have J3 := J
  clear hs3 N3 k3
  obtain ⟨w4, hs4, N4, k4⟩ := sa_r1 A.out D.p
  have HS4 := hide hs4
  replace J := hide (J.out.kp k4 (by simp only [List.mem_singleton]; exact fun e => IsB.ne_t J.out A.out (by decide) e))
  replace T := hide (T.out.kp k4 (by simp only [List.mem_singleton]; exact fun e => IsB.ne_t T.out A.out (by decide) e))
  replace P := hide (P.out.kp k4 (by simp only [List.mem_singleton]; exact fun e => IsB.ne_t P.out A.out (by decide) e))
  replace B := hide (B.out.trans (k4.to_below B.out.size (by simpa using hAB.out)))
  replace A := hide N4
  have J4 := J
  clear hs4 N4 k4
  obtain ⟨w5, hs5, N5, k5⟩ := sa_r2 A.out D.r
  have HS5 := hide hs5
  replace J := hide (J.out.kp k5 (by simp only [List.mem_singleton]; exact fun e => IsB.ne_t J.out A.out (by decide) e))
  replace T := hide (T.out.kp k5 (by simp only [List.mem_singleton]; exact fun e => IsB.ne_t T.out A.out (by decide) e))
  replace P := hide (P.out.kp k5 (by simp only [List.mem_singleton]; exact fun e => IsB.ne_t P.out A.out (by decide) e))
  replace B := hide (B.out.trans (k5.to_below B.out.size (by simpa using hAB.out)))
  replace A := hide N5
  have J5 := J
  clear hs5 N5 k5
  have LT : Hid ((Instr.loadAt 29 (.pointer (some ⟨W2.heap.size, 0, none⟩))).run Tryd.prog w5 = .ok (.agg #[.int .i64 D.me.id, .int .i64 D.me.rk, .int .u64 D.me.kn, .int .i64 D.me.ln, .int .u64 D.me.bt]) w5) := load_ref T.out rfl
  have LK : Hid ((Instr.loadAt 47 (.pointer (some ⟨AB, 0, none⟩))).run Tryd.prog w5 = .ok (.agg #[.int .i64 7, .int .i64 D.wl, .int .u64 D.wb, .int .i64 D.p.id, .int .i64 D.p.rk, .int .u64 D.p.kn, .int .i64 D.p.ln, .int .u64 D.p.bt, .int .i64 D.r.id, .int .i64 D.r.rk, .int .u64 D.r.kn, .int .i64 D.r.ln, .int .u64 D.r.bt, .int .i64 D.oa, .int .i64 D.oo]) w5) := ld_ask A.out
  obtain ⟨w9, hs9, P9, k9⟩ := st_step P.out rfl 1 D.me 7 D.wl D.wb D.p D.r D.oa D.oo 0 zr zr
  have HS9 := hide hs9
  have P10 := hide P9
  have B9 : Hid (Below w.heap.size w w9) := B.out.trans (k9.to_below B.out.size (by simp))
  clear hs9 P9 k9
  refine pickA (v := ?_) 0 (some 49) rfl rfl (by kernel_rfl) (by kernel_rfl) (by kernel_rfl) (by decide) (fun _ _ _ h => h) (by rfl) ?_ (by assumption) ?_
  rotate_left
  · intro w'
    go_simp
    try with_reducible rfl
  try simp only [Act.put, List.setIfInBounds_toArray, List.set_cons_zero, List.set_cons_succ]
  refine pickA (v := ?_) 1 (some 50) rfl rfl (by kernel_rfl) (by kernel_rfl) (by kernel_rfl) (by decide) (fun _ _ _ h => h) (by rfl) ?_ (by assumption) ?_
  rotate_left
  · intro w'
    go_simp
    try with_reducible rfl
  try simp only [Act.put, List.setIfInBounds_toArray, List.set_cons_zero, List.set_cons_succ]
  refine pickA (v := ?_) 2 (some 51) rfl rfl (by kernel_rfl) (by kernel_rfl) (by kernel_rfl) (by decide) (fun _ _ _ h => h) (by rfl) ?_ (by assumption) ?_
  rotate_left
  · intro w'
    go_simp
    try with_reducible rfl
  try simp only [Act.put, List.setIfInBounds_toArray, List.set_cons_zero, List.set_cons_succ]
  refine pickA (v := ?_) 3 (some 52) rfl rfl (by kernel_rfl) (by kernel_rfl) (by kernel_rfl) (by decide) (fun _ _ _ h => h) (by rfl) ?_ (by assumption) ?_
  rotate_left
  · intro w'
    go_simp
    try with_reducible rfl
  try simp only [Act.put, List.setIfInBounds_toArray, List.set_cons_zero, List.set_cons_succ]
  refine pickL (v := .agg D.me.cells) 4 (some 53) rfl rfl (by kernel_rfl) (by kernel_rfl) (by kernel_rfl) (by decide) (by kernel_rfl) (by kernel_rfl) (fun _ _ _ h => h) (by rfl) ?_ (by assumption) ?_
  · intro w' hSw
    have q0 := hSw
    exact exec_load rfl rfl (dl_me q0)
  try simp only [Act.put, List.setIfInBounds_toArray, List.set_cons_zero, List.set_cons_succ]
  refine pickA (v := ?_) 5 (some 54) rfl rfl (by kernel_rfl) (by kernel_rfl) (by kernel_rfl) (by decide) (fun _ _ _ h => h) (by rfl) ?_ (by assumption) ?_
  rotate_left
  · intro w'
    go_simp
    try with_reducible rfl
  try simp only [Act.put, List.setIfInBounds_toArray, List.set_cons_zero, List.set_cons_succ]
  refine pickA (v := ?_) 6 (some 55) rfl rfl (by kernel_rfl) (by kernel_rfl) (by kernel_rfl) (by decide) (fun _ _ _ h => h) (by rfl) ?_ (by assumption) ?_
  rotate_left
  · intro w'
    go_simp
    try with_reducible rfl
  try simp only [Act.put, List.setIfInBounds_toArray, List.set_cons_zero, List.set_cons_succ]
  refine pickA (v := ?_) 7 (some 56) rfl rfl (by kernel_rfl) (by kernel_rfl) (by kernel_rfl) (by decide) (fun _ _ _ h => h) (by rfl) ?_ (by assumption) ?_
  rotate_left
  · intro w'
    go_simp
    try with_reducible rfl
  try simp only [Act.put, List.setIfInBounds_toArray, List.set_cons_zero, List.set_cons_succ]
  refine pickL (v := .agg D.p.cells) 8 (some 57) rfl rfl (by kernel_rfl) (by kernel_rfl) (by kernel_rfl) (by decide) (by kernel_rfl) (by kernel_rfl) (fun _ _ _ h => h) (by rfl) ?_ (by assumption) ?_
  · intro w' hSw
    have q0 := hSw
    exact exec_load rfl rfl (dl_p q0)
  try simp only [Act.put, List.setIfInBounds_toArray, List.set_cons_zero, List.set_cons_succ]
  refine pickA (v := ?_) 9 (some 58) rfl rfl (by kernel_rfl) (by kernel_rfl) (by kernel_rfl) (by decide) (fun _ _ _ h => h) (by rfl) ?_ (by assumption) ?_
  rotate_left
  · intro w'
    go_simp
    try with_reducible rfl
  try simp only [Act.put, List.setIfInBounds_toArray, List.set_cons_zero, List.set_cons_succ]
  refine pickA (v := ?_) 10 (some 59) rfl rfl (by kernel_rfl) (by kernel_rfl) (by kernel_rfl) (by decide) (fun _ _ _ h => h) (by rfl) ?_ (by assumption) ?_
  rotate_left
  · intro w'
    go_simp
    try with_reducible rfl
  try simp only [Act.put, List.setIfInBounds_toArray, List.set_cons_zero, List.set_cons_succ]
  refine pickA (v := ?_) 11 (some 60) rfl rfl (by kernel_rfl) (by kernel_rfl) (by kernel_rfl) (by decide) (fun _ _ _ h => h) (by rfl) ?_ (by assumption) ?_
  rotate_left
  · intro w'
    go_simp
    try with_reducible rfl
  try simp only [Act.put, List.setIfInBounds_toArray, List.set_cons_zero, List.set_cons_succ]
  refine pickL (v := .agg D.r.cells) 12 (some 61) rfl rfl (by kernel_rfl) (by kernel_rfl) (by kernel_rfl) (by decide) (by kernel_rfl) (by kernel_rfl) (fun _ _ _ h => h) (by rfl) ?_ (by assumption) ?_
  · intro w' hSw
    have q0 := hSw
    exact exec_load rfl rfl (dl_r q0)
  try simp only [Act.put, List.setIfInBounds_toArray, List.set_cons_zero, List.set_cons_succ]
  refine oneL (i := 13) (by kernel_rfl) rfl (fun K hK => ?_)
  refine step_store_w rfl 29 (.tmp 4) (.tmp 53) rfl rfl rfl HS2.out ?_
  refine hK.out _ _ ?_ ?_
  · exact J2.out
  clear hK K
  try simp only [Act.put, List.setIfInBounds_toArray]
  clear hHeld
  have hHeld : (fun w' => IsB w' d (dsL D).toArray 94) w2 := J2.out
  refine pickA (v := ?_) 14 (some 62) rfl rfl (by kernel_rfl) (by kernel_rfl) (by kernel_rfl) (by decide) (fun _ _ _ h => h) (by rfl) ?_ (by assumption) ?_
  rotate_left
  · intro w'
    go_simp
    try with_reducible rfl
  try simp only [Act.put]
  refine oneL (i := 15) (by kernel_rfl) rfl (fun K hK => ?_)
  refine step_store_w rfl 45 (.tmp 62) (.const (.int .i64 7)) rfl rfl rfl HS3.out ?_
  refine hK.out _ _ ?_ ?_
  · exact J3.out
  clear hK K
  try simp only [Act.put]
  clear hHeld
  have hHeld : (fun w' => IsB w' d (dsL D).toArray 94) w3 := J3.out
  refine pickA (v := ?_) 16 (some 63) rfl rfl (by kernel_rfl) (by kernel_rfl) (by kernel_rfl) (by decide) (fun _ _ _ h => h) (by rfl) ?_ (by assumption) ?_
  rotate_left
  · intro w'
    go_simp
    try with_reducible rfl
  try simp only [Act.put]
  refine oneL (i := 17) (by kernel_rfl) rfl (fun K hK => ?_)
  refine step_store_w rfl 29 (.tmp 63) (.tmp 57) rfl rfl rfl HS4.out ?_
  refine hK.out _ _ ?_ ?_
  · exact J4.out
  clear hK K
  try simp only [Act.put]
  clear hHeld
  have hHeld : (fun w' => IsB w' d (dsL D).toArray 94) w4 := J4.out
  refine pickA (v := ?_) 18 (some 64) rfl rfl (by kernel_rfl) (by kernel_rfl) (by kernel_rfl) (by decide) (fun _ _ _ h => h) (by rfl) ?_ (by assumption) ?_
  rotate_left
  · intro w'
    go_simp
    try with_reducible rfl
  try simp only [Act.put]
  refine oneL (i := 19) (by kernel_rfl) rfl (fun K hK => ?_)
  refine step_store_w rfl 29 (.tmp 64) (.tmp 61) rfl rfl rfl HS5.out ?_
  refine hK.out _ _ ?_ ?_
  · exact J5.out
  clear hK K
  try simp only [Act.put]
  clear hHeld
  have hHeld : (fun w' => IsB w' d (dsL D).toArray 94) w5 := J5.out
  refine doneL (by kernel_rfl) ?_ _
  clear hHeld
  go_wp2_with (first | (focus ((with_reducible refine wpList_load_w ?_ 29 (.tmp 4) ?_ ?_ LT.out ?_); rotate_left; rfl; rfl; rotate_left; rfl)) | (focus ((with_reducible refine wpList_load_w ?_ 47 (.tmp 3) ?_ ?_ LK.out ?_); rotate_left; rfl; rfl; rotate_left; rfl)) | (focus ((with_reducible refine wpList_store_w ?_ 53 (.tmp 2) (.tmp 107) ?_ ?_ ?_ HS9.out ?_); rotate_left; rfl; rfl; rfl; rotate_left; rfl)))
  try simp only [Act.put]
  try go_wp2
  refine ret_step (p := 2) (b := w.heap.size) Tryd.results13 rfl rfl P10.out ?_
  exact ⟨rfl, B9.out⟩

set_option maxHeartbeats 2000000 in
set_option maxRecDepth 100000 in
theorem dn_5 (d : Nat) (D : Ds) (hp : D.st = 5) (w : World) (I : IsB w d (dsL D).toArray 94) : Calls Tryd.prog 13 #[.pointer (some ⟨d, 0, none⟩)] w fun e' w' => e' = .returned (.agg (stL 1 D.p 5 D.wl D.wb D.me zr D.oa D.oo 0 zr zr).toArray) ∧ Below w.heap.size w w' := by
  have mixed : Tryd.prog.follows .mixedOrders = true := by kernel_rfl
  have b1 := ((Below.refl w.heap.size w).alloc (Nat.le_refl _) (.cells #[.int .i64 0, .int .i64 0, .int .i64 0, .int .u64 0, .int .i64 0, .int .u64 0, .int .i64 0, .int .i64 0, .int .u64 0, .int .i64 0, .int .i64 0, .int .u64 0, .int .i64 0, .int .u64 0, .int .i64 0, .int .i64 0, .int .u64 0, .int .i64 0, .int .u64 0, .int .i64 0, .int .i64 0, .int .i64 0, .int .u64 0, .slice none 0 0, .slice none 0 0, .int .i64 0, .int .i64 0, .int .u64 0, .int .i64 0, .int .u64 0, .int .i64 0, .int .i64 0, .int .u64 0, .int .i64 0, .int .u64 0, .bool false] 53)).drew
  have P0 := (IsB.new w #[.int .i64 0, .int .i64 0, .int .i64 0, .int .u64 0, .int .i64 0, .int .u64 0, .int .i64 0, .int .i64 0, .int .u64 0, .int .i64 0, .int .i64 0, .int .u64 0, .int .i64 0, .int .u64 0, .int .i64 0, .int .i64 0, .int .u64 0, .int .i64 0, .int .u64 0, .int .i64 0, .int .i64 0, .int .i64 0, .int .u64 0, .slice none 0 0, .slice none 0 0, .int .i64 0, .int .i64 0, .int .u64 0, .int .i64 0, .int .u64 0, .int .i64 0, .int .i64 0, .int .u64 0, .int .i64 0, .int .u64 0, .bool false] 53).below ((Below.refl _ _).drew)
  have P : Hid (IsB (w.alloc (.cells #[.int .i64 0, .int .i64 0, .int .i64 0, .int .u64 0, .int .i64 0, .int .u64 0, .int .i64 0, .int .i64 0, .int .u64 0, .int .i64 0, .int .i64 0, .int .u64 0, .int .i64 0, .int .u64 0, .int .i64 0, .int .i64 0, .int .u64 0, .int .i64 0, .int .u64 0, .int .i64 0, .int .i64 0, .int .i64 0, .int .u64 0, .slice none 0 0, .slice none 0 0, .int .i64 0, .int .i64 0, .int .u64 0, .int .i64 0, .int .u64 0, .int .i64 0, .int .i64 0, .int .u64 0, .int .i64 0, .int .u64 0, .bool false] 53)).drew w.heap.size (stL 0 zr 0 0 0 zr zr 0 0 0 zr zr).toArray 53) := P0
  clear P0
  have ID := hide (I.below b1)
  have B := hide b1
  clear b1 I
  go_enter Tryd.func13, Tryd.ntmps13
  go_wp2_with fail
  refine regionL 12 (fun w' => IsB w' d (dsL D).toArray 94) mixed ID.out (fun hHeld => ?_)
  generalize (w.alloc (.cells #[.int .i64 0, .int .i64 0, .int .i64 0, .int .u64 0, .int .i64 0, .int .u64 0, .int .i64 0, .int .i64 0, .int .u64 0, .int .i64 0, .int .i64 0, .int .u64 0, .int .i64 0, .int .u64 0, .int .i64 0, .int .i64 0, .int .u64 0, .int .i64 0, .int .u64 0, .int .i64 0, .int .i64 0, .int .i64 0, .int .u64 0, .slice none 0 0, .slice none 0 0, .int .i64 0, .int .i64 0, .int .u64 0, .int .i64 0, .int .u64 0, .int .i64 0, .int .i64 0, .int .u64 0, .int .i64 0, .int .u64 0, .bool false] 53)).drew = WD at *
  have IA := hide (ID.out.below ((Below.refl _ _).alloc (Nat.le_refl _) (.cells #[.int .i64 0, .int .i64 0, .int .u64 0, .int .i64 0, .int .i64 0, .int .u64 0, .int .i64 0, .int .u64 0, .int .i64 0, .int .i64 0, .int .u64 0, .int .i64 0, .int .u64 0, .int .i64 0, .int .i64 0] 47)))
  have SA := hide (store_ask WD (akL 0 D.wl D.wb zr zr D.oa D.oo).toArray rfl (by kernel_rfl))
  refine pickA (v := ?_) 0 (some 5) rfl rfl (by kernel_rfl) (by kernel_rfl) (by kernel_rfl) (by decide) (fun _ _ _ h => h) (by rfl) ?_ (by assumption) ?_
  rotate_left
  · intro w'
    go_simp
    try with_reducible rfl
  try simp only [Act.put, List.setIfInBounds_toArray, List.set_cons_zero, List.set_cons_succ]
  refine pickA (v := ?_) 1 (some 6) rfl rfl (by kernel_rfl) (by kernel_rfl) (by kernel_rfl) (by decide) (fun _ _ _ h => h) (by rfl) ?_ (by assumption) ?_
  rotate_left
  · intro w'
    go_simp
    try with_reducible rfl
  try simp only [Act.put, List.setIfInBounds_toArray, List.set_cons_zero, List.set_cons_succ]
  refine pickA (v := ?_) 2 (some 7) rfl rfl (by kernel_rfl) (by kernel_rfl) (by kernel_rfl) (by decide) (fun _ _ _ h => h) (by rfl) ?_ (by assumption) ?_
  rotate_left
  · intro w'
    go_simp
    try with_reducible rfl
  try simp only [Act.put, List.setIfInBounds_toArray, List.set_cons_zero, List.set_cons_succ]
  refine pickA (v := ?_) 3 (some 8) rfl rfl (by kernel_rfl) (by kernel_rfl) (by kernel_rfl) (by decide) (fun _ _ _ h => h) (by rfl) ?_ (by assumption) ?_
  rotate_left
  · intro w'
    go_simp
    try with_reducible rfl
  try simp only [Act.put, List.setIfInBounds_toArray, List.set_cons_zero, List.set_cons_succ]
  refine pickL (v := .agg #[.int .i64 D.wl, .int .u64 D.wb]) 4 (some 9) rfl rfl (by kernel_rfl) (by kernel_rfl) (by kernel_rfl) (by decide) (by kernel_rfl) (by kernel_rfl) (fun _ _ _ h => h) (by rfl) ?_ (by assumption) ?_
  · intro w' hSw
    have q0 := hSw
    exact exec_load rfl rfl (dl_w q0)
  try simp only [Act.put, List.setIfInBounds_toArray, List.set_cons_zero, List.set_cons_succ]
  refine pickA (v := ?_) 5 (some 10) rfl rfl (by kernel_rfl) (by kernel_rfl) (by kernel_rfl) (by decide) (fun _ _ _ h => h) (by rfl) ?_ (by assumption) ?_
  rotate_left
  · intro w'
    go_simp
    try with_reducible rfl
  try simp only [Act.put, List.setIfInBounds_toArray, List.set_cons_zero, List.set_cons_succ]
  refine pickA (v := ?_) 6 (some 11) rfl rfl (by kernel_rfl) (by kernel_rfl) (by kernel_rfl) (by decide) (fun _ _ _ h => h) (by rfl) ?_ (by assumption) ?_
  rotate_left
  · intro w'
    go_simp
    try with_reducible rfl
  try simp only [Act.put, List.setIfInBounds_toArray, List.set_cons_zero, List.set_cons_succ]
  refine pickA (v := ?_) 7 (some 12) rfl rfl (by kernel_rfl) (by kernel_rfl) (by kernel_rfl) (by decide) (fun _ _ _ h => h) (by rfl) ?_ (by assumption) ?_
  rotate_left
  · intro w'
    go_simp
    try with_reducible rfl
  try simp only [Act.put, List.setIfInBounds_toArray, List.set_cons_zero, List.set_cons_succ]
  refine pickA (v := ?_) 8 (some 13) rfl rfl (by kernel_rfl) (by kernel_rfl) (by kernel_rfl) (by decide) (fun _ _ _ h => h) (by rfl) ?_ (by assumption) ?_
  rotate_left
  · intro w'
    go_simp
    try with_reducible rfl
  try simp only [Act.put, List.setIfInBounds_toArray, List.set_cons_zero, List.set_cons_succ]
  refine pickL (v := .agg #[.int .i64 D.oa, .int .i64 D.oo]) 9 (some 14) rfl rfl (by kernel_rfl) (by kernel_rfl) (by kernel_rfl) (by decide) (by kernel_rfl) (by kernel_rfl) (fun _ _ _ h => h) (by rfl) ?_ (by assumption) ?_
  · intro w' hSw
    have q0 := hSw
    exact exec_load rfl rfl (dl_owner q0)
  try simp only [Act.put, List.setIfInBounds_toArray, List.set_cons_zero, List.set_cons_succ]
  refine pickA (v := .agg (akL 0 D.wl D.wb zr zr D.oa D.oo).toArray) 10 (some 15) rfl rfl (by kernel_rfl) (by kernel_rfl) (by kernel_rfl) (by decide) (fun _ _ _ h => h) (by rfl) ?_ (by assumption) ?_
  · intro w'
    kernel_rfl
  try simp only [Act.put, List.setIfInBounds_toArray, List.set_cons_zero, List.set_cons_succ]
  refine oneL (i := 11) (by kernel_rfl) rfl (fun K hK => ?_)
  go_simp
  refine hK.out _ _ ?_ ?_
  · exact IA.out
  clear hK K
  try simp only [Act.put, List.setIfInBounds_toArray, List.set_cons_zero, List.set_cons_succ]
  clear hHeld
  have hHeld : (fun w' => IsB w' d (dsL D).toArray 94) (WD.alloc (.cells #[.int .i64 0, .int .i64 0, .int .u64 0, .int .i64 0, .int .i64 0, .int .u64 0, .int .i64 0, .int .u64 0, .int .i64 0, .int .i64 0, .int .u64 0, .int .i64 0, .int .u64 0, .int .i64 0, .int .i64 0] 47)) := IA.out
  refine lateL (i := 12) (by kernel_rfl) rfl (by decide) (by kernel_rfl) (fun K hK => ?_)
  refine step_store_w rfl 47 (.tmp 3) (.tmp 15) rfl rfl rfl SA.out ?_
  refine hK.out _ _ ?_
  clear hK K
  try simp only [Act.put, List.setIfInBounds_toArray]
  refine doneL (by kernel_rfl) ?_ _
  clear hHeld
  clear IA SA
  have b2 := (Below.refl WD.heap.size WD).alloc (Nat.le_refl _) (.cells (akL 0 D.wl D.wb zr zr D.oa D.oo).toArray 47)
  have A := hide (IsB.new WD (akL 0 D.wl D.wb zr zr D.oa D.oo).toArray 47)
  have hAB := hide B.out.size
  have J := hide (ID.out.below b2)
  replace P := hide (P.out.below b2)
  replace B := hide (B.out.trans (b2.mono B.out.size))
  clear b2 ID
  generalize hW2 : (WD.alloc (.cells (akL 0 D.wl D.wb zr zr D.oa D.oo).toArray 47)) = W2 at *
  clear hW2
  obtain ⟨AB, hABe⟩ : ∃ AB, WD.heap.size = AB := ⟨_, rfl⟩
  rw [hABe] at A hAB ⊢
  clear hABe
  have b3 := (Below.refl W2.heap.size W2).alloc (Nat.le_refl _) (.cells D.p.cells 29)
  have T := hide (IsB.new W2 D.p.cells 29)
  have hTB := hide B.out.size
  have LP := hide (dl_p J.out)
  have SN := hide (store_newr W2 D.p)
  replace J := hide (J.out.below b3)
  replace P := hide (P.out.below b3)
  replace A := hide (A.out.below b3)
  replace B := hide (B.out.trans (b3.mono B.out.size))
  clear b3
  have y14 := dc_st J.out
  rw [hp] at y14
  clear hp
  skip
  go_wp2_with (first | (focus ((with_reducible refine wpList_load_w ?_ 29 (.tmp 18) ?_ ?_ LP.out ?_); rotate_left; rfl; rfl; rotate_left; rfl)) | (focus ((with_reducible refine wpList_store_w ?_ 29 (.tmp 4) (.tmp 19) ?_ ?_ ?_ SN.out ?_); rotate_left; rfl; rfl; rfl; rotate_left; rfl)))
  have J0 := hide (J.out.below ((Below.refl _ _).drew))
  replace A := hide (A.out.below ((Below.refl _ _).drew))
  replace T := hide (T.out.below ((Below.refl _ _).drew))
  replace P := hide (P.out.below ((Below.refl _ _).drew))
  replace B := hide B.out.drew
  clear J LP SN y14
  have J := J0
  refine regionL 9 (fun w' => IsB w' d (dsL D).toArray 94) mixed J0.out (fun hHeld => ?_)
  generalize (W2.alloc (.cells D.p.cells 29)).drew = WE at *
  obtain ⟨w2, hs2, N2, k2⟩ := sa_kind A.out 5
  have HS2 := hide hs2
  replace J := hide (J.out.kp k2 (by simp only [List.mem_singleton]; exact fun e => IsB.ne_t J.out A.out (by decide) e))
  replace T := hide (T.out.kp k2 (by simp only [List.mem_singleton]; exact fun e => IsB.ne_t T.out A.out (by decide) e))
  replace P := hide (P.out.kp k2 (by simp only [List.mem_singleton]; exact fun e => IsB.ne_t P.out A.out (by decide) e))
  replace B := hide (B.out.trans (k2.to_below B.out.size (by simpa using hAB.out)))
  replace A := hide N2
  have J2 := J
  clear hs2 N2 k2
  obtain ⟨w3, hs3, N3, k3⟩ := sa_r1 A.out D.me
  have HS3 := hide hs3
  replace J := hide (J.out.kp k3 (by simp only [List.mem_singleton]; exact fun e => IsB.ne_t J.out A.out (by decide) e))
  replace T := hide (T.out.kp k3 (by simp only [List.mem_singleton]; exact fun e => IsB.ne_t T.out A.out (by decide) e))
  replace P := hide (P.out.kp k3 (by simp only [List.mem_singleton]; exact fun e => IsB.ne_t P.out A.out (by decide) e))
  replace B := hide (B.out.trans (k3.to_below B.out.size (by simpa using hAB.out)))
  replace A := hide N3
  have J3 := J
  clear hs3 N3 k3
  have LT : Hid ((Instr.loadAt 29 (.pointer (some ⟨W2.heap.size, 0, none⟩))).run Tryd.prog w3 = .ok (.agg #[.int .i64 D.p.id, .int .i64 D.p.rk, .int .u64 D.p.kn, .int .i64 D.p.ln, .int .u64 D.p.bt]) w3) := load_ref T.out rfl
  have LK : Hid ((Instr.loadAt 47 (.pointer (some ⟨AB, 0, none⟩))).run Tryd.prog w3 = .ok (.agg #[.int .i64 5, .int .i64 D.wl, .int .u64 D.wb, .int .i64 D.me.id, .int .i64 D.me.rk, .int .u64 D.me.kn, .int .i64 D.me.ln, .int .u64 D.me.bt, .int .i64 0, .int .i64 0, .int .u64 0, .int .i64 0, .int .u64 0, .int .i64 D.oa, .int .i64 D.oo]) w3) := ld_ask A.out
  obtain ⟨w9, hs9, P9, k9⟩ := st_step P.out rfl 1 D.p 5 D.wl D.wb D.me zr D.oa D.oo 0 zr zr
  have HS9 := hide hs9
  have P10 := hide P9
  have B9 : Hid (Below w.heap.size w w9) := B.out.trans (k9.to_below B.out.size (by simp))
  clear hs9 P9 k9
  refine pickA (v := ?_) 0 (some 67) rfl rfl (by kernel_rfl) (by kernel_rfl) (by kernel_rfl) (by decide) (fun _ _ _ h => h) (by rfl) ?_ (by assumption) ?_
  rotate_left
  · intro w'
    go_simp
    try with_reducible rfl
  try simp only [Act.put, List.setIfInBounds_toArray, List.set_cons_zero, List.set_cons_succ]
  refine pickA (v := ?_) 1 (some 68) rfl rfl (by kernel_rfl) (by kernel_rfl) (by kernel_rfl) (by decide) (fun _ _ _ h => h) (by rfl) ?_ (by assumption) ?_
  rotate_left
  · intro w'
    go_simp
    try with_reducible rfl
  try simp only [Act.put, List.setIfInBounds_toArray, List.set_cons_zero, List.set_cons_succ]
  refine pickA (v := ?_) 2 (some 69) rfl rfl (by kernel_rfl) (by kernel_rfl) (by kernel_rfl) (by decide) (fun _ _ _ h => h) (by rfl) ?_ (by assumption) ?_
  rotate_left
  · intro w'
    go_simp
    try with_reducible rfl
  try simp only [Act.put, List.setIfInBounds_toArray, List.set_cons_zero, List.set_cons_succ]
  refine pickA (v := ?_) 3 (some 70) rfl rfl (by kernel_rfl) (by kernel_rfl) (by kernel_rfl) (by decide) (fun _ _ _ h => h) (by rfl) ?_ (by assumption) ?_
  rotate_left
  · intro w'
    go_simp
    try with_reducible rfl
  try simp only [Act.put, List.setIfInBounds_toArray, List.set_cons_zero, List.set_cons_succ]
  refine pickL (v := .agg D.me.cells) 4 (some 71) rfl rfl (by kernel_rfl) (by kernel_rfl) (by kernel_rfl) (by decide) (by kernel_rfl) (by kernel_rfl) (fun _ _ _ h => h) (by rfl) ?_ (by assumption) ?_
  · intro w' hSw
    have q0 := hSw
    exact exec_load rfl rfl (dl_me q0)
  try simp only [Act.put, List.setIfInBounds_toArray, List.set_cons_zero, List.set_cons_succ]
  refine pickA (v := ?_) 5 (some 72) rfl rfl (by kernel_rfl) (by kernel_rfl) (by kernel_rfl) (by decide) (fun _ _ _ h => h) (by rfl) ?_ (by assumption) ?_
  rotate_left
  · intro w'
    go_simp
    try with_reducible rfl
  try simp only [Act.put, List.setIfInBounds_toArray, List.set_cons_zero, List.set_cons_succ]
  refine oneL (i := 6) (by kernel_rfl) rfl (fun K hK => ?_)
  refine step_store_w rfl 45 (.tmp 72) (.const (.int .i64 5)) rfl rfl rfl HS2.out ?_
  refine hK.out _ _ ?_ ?_
  · exact J2.out
  clear hK K
  try simp only [Act.put, List.setIfInBounds_toArray]
  clear hHeld
  have hHeld : (fun w' => IsB w' d (dsL D).toArray 94) w2 := J2.out
  refine pickA (v := ?_) 7 (some 73) rfl rfl (by kernel_rfl) (by kernel_rfl) (by kernel_rfl) (by decide) (fun _ _ _ h => h) (by rfl) ?_ (by assumption) ?_
  rotate_left
  · intro w'
    go_simp
    try with_reducible rfl
  try simp only [Act.put]
  refine oneL (i := 8) (by kernel_rfl) rfl (fun K hK => ?_)
  refine step_store_w rfl 29 (.tmp 73) (.tmp 71) rfl rfl rfl HS3.out ?_
  refine hK.out _ _ ?_ ?_
  · exact J3.out
  clear hK K
  try simp only [Act.put]
  clear hHeld
  have hHeld : (fun w' => IsB w' d (dsL D).toArray 94) w3 := J3.out
  refine doneL (by kernel_rfl) ?_ _
  clear hHeld
  go_wp2_with (first | (focus ((with_reducible refine wpList_load_w ?_ 29 (.tmp 4) ?_ ?_ LT.out ?_); rotate_left; rfl; rfl; rotate_left; rfl)) | (focus ((with_reducible refine wpList_load_w ?_ 47 (.tmp 3) ?_ ?_ LK.out ?_); rotate_left; rfl; rfl; rotate_left; rfl)) | (focus ((with_reducible refine wpList_store_w ?_ 53 (.tmp 2) (.tmp 107) ?_ ?_ ?_ HS9.out ?_); rotate_left; rfl; rfl; rfl; rotate_left; rfl)))
  try simp only [Act.put]
  try go_wp2
  refine ret_step (p := 2) (b := w.heap.size) Tryd.results13 rfl rfl P10.out ?_
  exact ⟨rfl, B9.out⟩

set_option maxHeartbeats 2000000 in
set_option maxRecDepth 100000 in
theorem dn_6 (d : Nat) (D : Ds) (hp : D.st = 6) (w : World) (I : IsB w d (dsL D).toArray 94) : Calls Tryd.prog 13 #[.pointer (some ⟨d, 0, none⟩)] w fun e' w' => e' = .returned (.agg (stL 1 D.r 6 D.wl D.wb D.me zr 0 0 0 zr zr).toArray) ∧ Below w.heap.size w w' := by
  have mixed : Tryd.prog.follows .mixedOrders = true := by kernel_rfl
  have b1 := ((Below.refl w.heap.size w).alloc (Nat.le_refl _) (.cells #[.int .i64 0, .int .i64 0, .int .i64 0, .int .u64 0, .int .i64 0, .int .u64 0, .int .i64 0, .int .i64 0, .int .u64 0, .int .i64 0, .int .i64 0, .int .u64 0, .int .i64 0, .int .u64 0, .int .i64 0, .int .i64 0, .int .u64 0, .int .i64 0, .int .u64 0, .int .i64 0, .int .i64 0, .int .i64 0, .int .u64 0, .slice none 0 0, .slice none 0 0, .int .i64 0, .int .i64 0, .int .u64 0, .int .i64 0, .int .u64 0, .int .i64 0, .int .i64 0, .int .u64 0, .int .i64 0, .int .u64 0, .bool false] 53)).drew
  have P0 := (IsB.new w #[.int .i64 0, .int .i64 0, .int .i64 0, .int .u64 0, .int .i64 0, .int .u64 0, .int .i64 0, .int .i64 0, .int .u64 0, .int .i64 0, .int .i64 0, .int .u64 0, .int .i64 0, .int .u64 0, .int .i64 0, .int .i64 0, .int .u64 0, .int .i64 0, .int .u64 0, .int .i64 0, .int .i64 0, .int .i64 0, .int .u64 0, .slice none 0 0, .slice none 0 0, .int .i64 0, .int .i64 0, .int .u64 0, .int .i64 0, .int .u64 0, .int .i64 0, .int .i64 0, .int .u64 0, .int .i64 0, .int .u64 0, .bool false] 53).below ((Below.refl _ _).drew)
  have P : Hid (IsB (w.alloc (.cells #[.int .i64 0, .int .i64 0, .int .i64 0, .int .u64 0, .int .i64 0, .int .u64 0, .int .i64 0, .int .i64 0, .int .u64 0, .int .i64 0, .int .i64 0, .int .u64 0, .int .i64 0, .int .u64 0, .int .i64 0, .int .i64 0, .int .u64 0, .int .i64 0, .int .u64 0, .int .i64 0, .int .i64 0, .int .i64 0, .int .u64 0, .slice none 0 0, .slice none 0 0, .int .i64 0, .int .i64 0, .int .u64 0, .int .i64 0, .int .u64 0, .int .i64 0, .int .i64 0, .int .u64 0, .int .i64 0, .int .u64 0, .bool false] 53)).drew w.heap.size (stL 0 zr 0 0 0 zr zr 0 0 0 zr zr).toArray 53) := P0
  clear P0
  have ID := hide (I.below b1)
  have B := hide b1
  clear b1 I
  go_enter Tryd.func13, Tryd.ntmps13
  go_wp2_with fail
  refine regionL 12 (fun w' => IsB w' d (dsL D).toArray 94) mixed ID.out (fun hHeld => ?_)
  generalize (w.alloc (.cells #[.int .i64 0, .int .i64 0, .int .i64 0, .int .u64 0, .int .i64 0, .int .u64 0, .int .i64 0, .int .i64 0, .int .u64 0, .int .i64 0, .int .i64 0, .int .u64 0, .int .i64 0, .int .u64 0, .int .i64 0, .int .i64 0, .int .u64 0, .int .i64 0, .int .u64 0, .int .i64 0, .int .i64 0, .int .i64 0, .int .u64 0, .slice none 0 0, .slice none 0 0, .int .i64 0, .int .i64 0, .int .u64 0, .int .i64 0, .int .u64 0, .int .i64 0, .int .i64 0, .int .u64 0, .int .i64 0, .int .u64 0, .bool false] 53)).drew = WD at *
  have IA := hide (ID.out.below ((Below.refl _ _).alloc (Nat.le_refl _) (.cells #[.int .i64 0, .int .i64 0, .int .u64 0, .int .i64 0, .int .i64 0, .int .u64 0, .int .i64 0, .int .u64 0, .int .i64 0, .int .i64 0, .int .u64 0, .int .i64 0, .int .u64 0, .int .i64 0, .int .i64 0] 47)))
  have SA := hide (store_ask WD (akL 0 D.wl D.wb zr zr D.oa D.oo).toArray rfl (by kernel_rfl))
  refine pickA (v := ?_) 0 (some 5) rfl rfl (by kernel_rfl) (by kernel_rfl) (by kernel_rfl) (by decide) (fun _ _ _ h => h) (by rfl) ?_ (by assumption) ?_
  rotate_left
  · intro w'
    go_simp
    try with_reducible rfl
  try simp only [Act.put, List.setIfInBounds_toArray, List.set_cons_zero, List.set_cons_succ]
  refine pickA (v := ?_) 1 (some 6) rfl rfl (by kernel_rfl) (by kernel_rfl) (by kernel_rfl) (by decide) (fun _ _ _ h => h) (by rfl) ?_ (by assumption) ?_
  rotate_left
  · intro w'
    go_simp
    try with_reducible rfl
  try simp only [Act.put, List.setIfInBounds_toArray, List.set_cons_zero, List.set_cons_succ]
  refine pickA (v := ?_) 2 (some 7) rfl rfl (by kernel_rfl) (by kernel_rfl) (by kernel_rfl) (by decide) (fun _ _ _ h => h) (by rfl) ?_ (by assumption) ?_
  rotate_left
  · intro w'
    go_simp
    try with_reducible rfl
  try simp only [Act.put, List.setIfInBounds_toArray, List.set_cons_zero, List.set_cons_succ]
  refine pickA (v := ?_) 3 (some 8) rfl rfl (by kernel_rfl) (by kernel_rfl) (by kernel_rfl) (by decide) (fun _ _ _ h => h) (by rfl) ?_ (by assumption) ?_
  rotate_left
  · intro w'
    go_simp
    try with_reducible rfl
  try simp only [Act.put, List.setIfInBounds_toArray, List.set_cons_zero, List.set_cons_succ]
  refine pickL (v := .agg #[.int .i64 D.wl, .int .u64 D.wb]) 4 (some 9) rfl rfl (by kernel_rfl) (by kernel_rfl) (by kernel_rfl) (by decide) (by kernel_rfl) (by kernel_rfl) (fun _ _ _ h => h) (by rfl) ?_ (by assumption) ?_
  · intro w' hSw
    have q0 := hSw
    exact exec_load rfl rfl (dl_w q0)
  try simp only [Act.put, List.setIfInBounds_toArray, List.set_cons_zero, List.set_cons_succ]
  refine pickA (v := ?_) 5 (some 10) rfl rfl (by kernel_rfl) (by kernel_rfl) (by kernel_rfl) (by decide) (fun _ _ _ h => h) (by rfl) ?_ (by assumption) ?_
  rotate_left
  · intro w'
    go_simp
    try with_reducible rfl
  try simp only [Act.put, List.setIfInBounds_toArray, List.set_cons_zero, List.set_cons_succ]
  refine pickA (v := ?_) 6 (some 11) rfl rfl (by kernel_rfl) (by kernel_rfl) (by kernel_rfl) (by decide) (fun _ _ _ h => h) (by rfl) ?_ (by assumption) ?_
  rotate_left
  · intro w'
    go_simp
    try with_reducible rfl
  try simp only [Act.put, List.setIfInBounds_toArray, List.set_cons_zero, List.set_cons_succ]
  refine pickA (v := ?_) 7 (some 12) rfl rfl (by kernel_rfl) (by kernel_rfl) (by kernel_rfl) (by decide) (fun _ _ _ h => h) (by rfl) ?_ (by assumption) ?_
  rotate_left
  · intro w'
    go_simp
    try with_reducible rfl
  try simp only [Act.put, List.setIfInBounds_toArray, List.set_cons_zero, List.set_cons_succ]
  refine pickA (v := ?_) 8 (some 13) rfl rfl (by kernel_rfl) (by kernel_rfl) (by kernel_rfl) (by decide) (fun _ _ _ h => h) (by rfl) ?_ (by assumption) ?_
  rotate_left
  · intro w'
    go_simp
    try with_reducible rfl
  try simp only [Act.put, List.setIfInBounds_toArray, List.set_cons_zero, List.set_cons_succ]
  refine pickL (v := .agg #[.int .i64 D.oa, .int .i64 D.oo]) 9 (some 14) rfl rfl (by kernel_rfl) (by kernel_rfl) (by kernel_rfl) (by decide) (by kernel_rfl) (by kernel_rfl) (fun _ _ _ h => h) (by rfl) ?_ (by assumption) ?_
  · intro w' hSw
    have q0 := hSw
    exact exec_load rfl rfl (dl_owner q0)
  try simp only [Act.put, List.setIfInBounds_toArray, List.set_cons_zero, List.set_cons_succ]
  refine pickA (v := .agg (akL 0 D.wl D.wb zr zr D.oa D.oo).toArray) 10 (some 15) rfl rfl (by kernel_rfl) (by kernel_rfl) (by kernel_rfl) (by decide) (fun _ _ _ h => h) (by rfl) ?_ (by assumption) ?_
  · intro w'
    kernel_rfl
  try simp only [Act.put, List.setIfInBounds_toArray, List.set_cons_zero, List.set_cons_succ]
  refine oneL (i := 11) (by kernel_rfl) rfl (fun K hK => ?_)
  go_simp
  refine hK.out _ _ ?_ ?_
  · exact IA.out
  clear hK K
  try simp only [Act.put, List.setIfInBounds_toArray, List.set_cons_zero, List.set_cons_succ]
  clear hHeld
  have hHeld : (fun w' => IsB w' d (dsL D).toArray 94) (WD.alloc (.cells #[.int .i64 0, .int .i64 0, .int .u64 0, .int .i64 0, .int .i64 0, .int .u64 0, .int .i64 0, .int .u64 0, .int .i64 0, .int .i64 0, .int .u64 0, .int .i64 0, .int .u64 0, .int .i64 0, .int .i64 0] 47)) := IA.out
  refine lateL (i := 12) (by kernel_rfl) rfl (by decide) (by kernel_rfl) (fun K hK => ?_)
  refine step_store_w rfl 47 (.tmp 3) (.tmp 15) rfl rfl rfl SA.out ?_
  refine hK.out _ _ ?_
  clear hK K
  try simp only [Act.put, List.setIfInBounds_toArray]
  refine doneL (by kernel_rfl) ?_ _
  clear hHeld
  clear IA SA
  have b2 := (Below.refl WD.heap.size WD).alloc (Nat.le_refl _) (.cells (akL 0 D.wl D.wb zr zr D.oa D.oo).toArray 47)
  have A := hide (IsB.new WD (akL 0 D.wl D.wb zr zr D.oa D.oo).toArray 47)
  have hAB := hide B.out.size
  have J := hide (ID.out.below b2)
  replace P := hide (P.out.below b2)
  replace B := hide (B.out.trans (b2.mono B.out.size))
  clear b2 ID
  generalize hW2 : (WD.alloc (.cells (akL 0 D.wl D.wb zr zr D.oa D.oo).toArray 47)) = W2 at *
  clear hW2
  obtain ⟨AB, hABe⟩ : ∃ AB, WD.heap.size = AB := ⟨_, rfl⟩
  rw [hABe] at A hAB ⊢
  clear hABe
  have b3 := (Below.refl W2.heap.size W2).alloc (Nat.le_refl _) (.cells D.p.cells 29)
  have T := hide (IsB.new W2 D.p.cells 29)
  have hTB := hide B.out.size
  have LP := hide (dl_p J.out)
  have SN := hide (store_newr W2 D.p)
  replace J := hide (J.out.below b3)
  replace P := hide (P.out.below b3)
  replace A := hide (A.out.below b3)
  replace B := hide (B.out.trans (b3.mono B.out.size))
  clear b3
  have y14 := dc_st J.out
  rw [hp] at y14
  clear hp
  skip
  go_wp2_with (first | (focus ((with_reducible refine wpList_load_w ?_ 29 (.tmp 18) ?_ ?_ LP.out ?_); rotate_left; rfl; rfl; rotate_left; rfl)) | (focus ((with_reducible refine wpList_store_w ?_ 29 (.tmp 4) (.tmp 19) ?_ ?_ ?_ SN.out ?_); rotate_left; rfl; rfl; rfl; rotate_left; rfl)))
  have J0 := hide (J.out.below ((Below.refl _ _).drew))
  replace A := hide (A.out.below ((Below.refl _ _).drew))
  replace T := hide (T.out.below ((Below.refl _ _).drew))
  replace P := hide (P.out.below ((Below.refl _ _).drew))
  replace B := hide B.out.drew
  clear J LP SN y14
  have J := J0
  refine regionL 17 (fun w' => IsB w' d (dsL D).toArray 94) mixed J0.out (fun hHeld => ?_)
  generalize (W2.alloc (.cells D.p.cells 29)).drew = WE at *
  obtain ⟨w2, hs2, N2, k2⟩ := st_ref T.out D.r
  have HS2 := hide hs2
  replace J := hide (J.out.kp k2 (by simp only [List.mem_singleton]; exact fun e => IsB.ne_t J.out T.out (by decide) e))
  replace A := hide (A.out.kp k2 (by simp only [List.mem_singleton]; exact fun e => IsB.ne_t A.out T.out (by decide) e))
  replace P := hide (P.out.kp k2 (by simp only [List.mem_singleton]; exact fun e => IsB.ne_t P.out T.out (by decide) e))
  replace B := hide (B.out.trans (k2.to_below B.out.size (by simpa using hTB.out)))
  replace T := hide N2
  have J2 := J
  clear hs2 N2 k2
  obtain ⟨w3, hs3, N3, k3⟩ := sa_kind A.out 6
  have HS3 := hide hs3
  replace J := hide (J.out.kp k3 (by simp only [List.mem_singleton]; exact fun e => IsB.ne_t J.out A.out (by decide) e))
  replace T := hide (T.out.kp k3 (by simp only [List.mem_singleton]; exact fun e => IsB.ne_t T.out A.out (by decide) e))
  replace P := hide (P.out.kp k3 (by simp only [List.mem_singleton]; exact fun e => IsB.ne_t P.out A.out (by decide) e))
  replace B := hide (B.out.trans (k3.to_below B.out.size (by simpa using hAB.out)))
  replace A := hide N3
  have J3 := J
  clear hs3 N3 k3
  obtain ⟨w4, hs4, N4, k4⟩ := sa_r1 A.out D.me
  have HS4 := hide hs4
  replace J := hide (J.out.kp k4 (by simp only [List.mem_singleton]; exact fun e => IsB.ne_t J.out A.out (by decide) e))
  replace T := hide (T.out.kp k4 (by simp only [List.mem_singleton]; exact fun e => IsB.ne_t T.out A.out (by decide) e))
  replace P := hide (P.out.kp k4 (by simp only [List.mem_singleton]; exact fun e => IsB.ne_t P.out A.out (by decide) e))
  replace B := hide (B.out.trans (k4.to_below B.out.size (by simpa using hAB.out)))
  replace A := hide N4
  have J4 := J
  clear hs4 N4 k4
  obtain ⟨w5, hs5, N5, k5⟩ := sa_own A.out 0 0
  have HS5 := hide hs5
  replace J := hide (J.out.kp k5 (by simp only [List.mem_singleton]; exact fun e => IsB.ne_t J.out A.out (by decide) e))
  replace T := hide (T.out.kp k5 (by simp only [List.mem_singleton]; exact fun e => IsB.ne_t T.out A.out (by decide) e))
  replace P := hide (P.out.kp k5 (by simp only [List.mem_singleton]; exact fun e => IsB.ne_t P.out A.out (by decide) e))
  replace B := hide (B.out.trans (k5.to_below B.out.size (by simpa using hAB.out)))
  replace A := hide N5
  have J5 := J
  clear hs5 N5 k5
  have LT : Hid ((Instr.loadAt 29 (.pointer (some ⟨W2.heap.size, 0, none⟩))).run Tryd.prog w5 = .ok (.agg #[.int .i64 D.r.id, .int .i64 D.r.rk, .int .u64 D.r.kn, .int .i64 D.r.ln, .int .u64 D.r.bt]) w5) := load_ref T.out rfl
  have LK : Hid ((Instr.loadAt 47 (.pointer (some ⟨AB, 0, none⟩))).run Tryd.prog w5 = .ok (.agg #[.int .i64 6, .int .i64 D.wl, .int .u64 D.wb, .int .i64 D.me.id, .int .i64 D.me.rk, .int .u64 D.me.kn, .int .i64 D.me.ln, .int .u64 D.me.bt, .int .i64 0, .int .i64 0, .int .u64 0, .int .i64 0, .int .u64 0, .int .i64 0, .int .i64 0]) w5) := ld_ask A.out
  obtain ⟨w9, hs9, P9, k9⟩ := st_step P.out rfl 1 D.r 6 D.wl D.wb D.me zr 0 0 0 zr zr
  have HS9 := hide hs9
  have P10 := hide P9
  have B9 : Hid (Below w.heap.size w w9) := B.out.trans (k9.to_below B.out.size (by simp))
  clear hs9 P9 k9
  refine pickA (v := ?_) 0 (some 76) rfl rfl (by kernel_rfl) (by kernel_rfl) (by kernel_rfl) (by decide) (fun _ _ _ h => h) (by rfl) ?_ (by assumption) ?_
  rotate_left
  · intro w'
    go_simp
    try with_reducible rfl
  try simp only [Act.put, List.setIfInBounds_toArray, List.set_cons_zero, List.set_cons_succ]
  refine pickA (v := ?_) 1 (some 77) rfl rfl (by kernel_rfl) (by kernel_rfl) (by kernel_rfl) (by decide) (fun _ _ _ h => h) (by rfl) ?_ (by assumption) ?_
  rotate_left
  · intro w'
    go_simp
    try with_reducible rfl
  try simp only [Act.put, List.setIfInBounds_toArray, List.set_cons_zero, List.set_cons_succ]
  refine pickA (v := ?_) 2 (some 78) rfl rfl (by kernel_rfl) (by kernel_rfl) (by kernel_rfl) (by decide) (fun _ _ _ h => h) (by rfl) ?_ (by assumption) ?_
  rotate_left
  · intro w'
    go_simp
    try with_reducible rfl
  try simp only [Act.put, List.setIfInBounds_toArray, List.set_cons_zero, List.set_cons_succ]
  refine pickL (v := .agg D.r.cells) 3 (some 79) rfl rfl (by kernel_rfl) (by kernel_rfl) (by kernel_rfl) (by decide) (by kernel_rfl) (by kernel_rfl) (fun _ _ _ h => h) (by rfl) ?_ (by assumption) ?_
  · intro w' hSw
    have q0 := hSw
    exact exec_load rfl rfl (dl_r q0)
  try simp only [Act.put, List.setIfInBounds_toArray, List.set_cons_zero, List.set_cons_succ]
  refine pickA (v := ?_) 4 (some 80) rfl rfl (by kernel_rfl) (by kernel_rfl) (by kernel_rfl) (by decide) (fun _ _ _ h => h) (by rfl) ?_ (by assumption) ?_
  rotate_left
  · intro w'
    go_simp
    try with_reducible rfl
  try simp only [Act.put, List.setIfInBounds_toArray, List.set_cons_zero, List.set_cons_succ]
  refine pickA (v := ?_) 5 (some 81) rfl rfl (by kernel_rfl) (by kernel_rfl) (by kernel_rfl) (by decide) (fun _ _ _ h => h) (by rfl) ?_ (by assumption) ?_
  rotate_left
  · intro w'
    go_simp
    try with_reducible rfl
  try simp only [Act.put, List.setIfInBounds_toArray, List.set_cons_zero, List.set_cons_succ]
  refine pickA (v := ?_) 6 (some 82) rfl rfl (by kernel_rfl) (by kernel_rfl) (by kernel_rfl) (by decide) (fun _ _ _ h => h) (by rfl) ?_ (by assumption) ?_
  rotate_left
  · intro w'
    go_simp
    try with_reducible rfl
  try simp only [Act.put, List.setIfInBounds_toArray, List.set_cons_zero, List.set_cons_succ]
  refine pickA (v := ?_) 7 (some 83) rfl rfl (by kernel_rfl) (by kernel_rfl) (by kernel_rfl) (by decide) (fun _ _ _ h => h) (by rfl) ?_ (by assumption) ?_
  rotate_left
  · intro w'
    go_simp
    try with_reducible rfl
  try simp only [Act.put, List.setIfInBounds_toArray, List.set_cons_zero, List.set_cons_succ]
  refine pickL (v := .agg D.me.cells) 8 (some 84) rfl rfl (by kernel_rfl) (by kernel_rfl) (by kernel_rfl) (by decide) (by kernel_rfl) (by kernel_rfl) (fun _ _ _ h => h) (by rfl) ?_ (by assumption) ?_
  · intro w' hSw
    have q0 := hSw
    exact exec_load rfl rfl (dl_me q0)
  try simp only [Act.put, List.setIfInBounds_toArray, List.set_cons_zero, List.set_cons_succ]
  refine pickA (v := ?_) 9 (some 85) rfl rfl (by kernel_rfl) (by kernel_rfl) (by kernel_rfl) (by decide) (fun _ _ _ h => h) (by rfl) ?_ (by assumption) ?_
  rotate_left
  · intro w'
    go_simp
    try with_reducible rfl
  try simp only [Act.put, List.setIfInBounds_toArray, List.set_cons_zero, List.set_cons_succ]
  refine oneL (i := 10) (by kernel_rfl) rfl (fun K hK => ?_)
  refine step_store_w rfl 29 (.tmp 4) (.tmp 79) rfl rfl rfl HS2.out ?_
  refine hK.out _ _ ?_ ?_
  · exact J2.out
  clear hK K
  try simp only [Act.put, List.setIfInBounds_toArray]
  clear hHeld
  have hHeld : (fun w' => IsB w' d (dsL D).toArray 94) w2 := J2.out
  refine pickA (v := ?_) 11 (some 86) rfl rfl (by kernel_rfl) (by kernel_rfl) (by kernel_rfl) (by decide) (fun _ _ _ h => h) (by rfl) ?_ (by assumption) ?_
  rotate_left
  · intro w'
    go_simp
    try with_reducible rfl
  try simp only [Act.put]
  refine oneL (i := 12) (by kernel_rfl) rfl (fun K hK => ?_)
  refine step_store_w rfl 45 (.tmp 86) (.const (.int .i64 6)) rfl rfl rfl HS3.out ?_
  refine hK.out _ _ ?_ ?_
  · exact J3.out
  clear hK K
  try simp only [Act.put]
  clear hHeld
  have hHeld : (fun w' => IsB w' d (dsL D).toArray 94) w3 := J3.out
  refine pickA (v := ?_) 13 (some 87) rfl rfl (by kernel_rfl) (by kernel_rfl) (by kernel_rfl) (by decide) (fun _ _ _ h => h) (by rfl) ?_ (by assumption) ?_
  rotate_left
  · intro w'
    go_simp
    try with_reducible rfl
  try simp only [Act.put]
  refine oneL (i := 14) (by kernel_rfl) rfl (fun K hK => ?_)
  refine step_store_w rfl 29 (.tmp 87) (.tmp 84) rfl rfl rfl HS4.out ?_
  refine hK.out _ _ ?_ ?_
  · exact J4.out
  clear hK K
  try simp only [Act.put]
  clear hHeld
  have hHeld : (fun w' => IsB w' d (dsL D).toArray 94) w4 := J4.out
  refine pickA (v := ?_) 15 (some 88) rfl rfl (by kernel_rfl) (by kernel_rfl) (by kernel_rfl) (by decide) (fun _ _ _ h => h) (by rfl) ?_ (by assumption) ?_
  rotate_left
  · intro w'
    go_simp
    try with_reducible rfl
  try simp only [Act.put]
  refine oneL (i := 16) (by kernel_rfl) rfl (fun K hK => ?_)
  refine step_store_w rfl 31 (.tmp 88) (.tmp 85) rfl rfl rfl HS5.out ?_
  refine hK.out _ _ ?_ ?_
  · exact J5.out
  clear hK K
  try simp only [Act.put]
  clear hHeld
  have hHeld : (fun w' => IsB w' d (dsL D).toArray 94) w5 := J5.out
  refine doneL (by kernel_rfl) ?_ _
  clear hHeld
  go_wp2_with (first | (focus ((with_reducible refine wpList_load_w ?_ 29 (.tmp 4) ?_ ?_ LT.out ?_); rotate_left; rfl; rfl; rotate_left; rfl)) | (focus ((with_reducible refine wpList_load_w ?_ 47 (.tmp 3) ?_ ?_ LK.out ?_); rotate_left; rfl; rfl; rotate_left; rfl)) | (focus ((with_reducible refine wpList_store_w ?_ 53 (.tmp 2) (.tmp 107) ?_ ?_ ?_ HS9.out ?_); rotate_left; rfl; rfl; rfl; rotate_left; rfl)))
  try simp only [Act.put]
  try go_wp2
  refine ret_step (p := 2) (b := w.heap.size) Tryd.results13 rfl rfl P10.out ?_
  exact ⟨rfl, B9.out⟩

set_option maxHeartbeats 2000000 in
set_option maxRecDepth 100000 in
theorem dn_10 (d : Nat) (D : Ds) (hp : D.st = 10) (w : World) (I : IsB w d (dsL D).toArray 94) : Calls Tryd.prog 13 #[.pointer (some ⟨d, 0, none⟩)] w fun e' w' => e' = .returned (.agg (stL 2 zr 0 0 0 zr zr 0 0 0 zr zr).toArray) ∧ Below w.heap.size w w' := by
  have mixed : Tryd.prog.follows .mixedOrders = true := by kernel_rfl
  have b1 := ((Below.refl w.heap.size w).alloc (Nat.le_refl _) (.cells #[.int .i64 0, .int .i64 0, .int .i64 0, .int .u64 0, .int .i64 0, .int .u64 0, .int .i64 0, .int .i64 0, .int .u64 0, .int .i64 0, .int .i64 0, .int .u64 0, .int .i64 0, .int .u64 0, .int .i64 0, .int .i64 0, .int .u64 0, .int .i64 0, .int .u64 0, .int .i64 0, .int .i64 0, .int .i64 0, .int .u64 0, .slice none 0 0, .slice none 0 0, .int .i64 0, .int .i64 0, .int .u64 0, .int .i64 0, .int .u64 0, .int .i64 0, .int .i64 0, .int .u64 0, .int .i64 0, .int .u64 0, .bool false] 53)).drew
  have P0 := (IsB.new w #[.int .i64 0, .int .i64 0, .int .i64 0, .int .u64 0, .int .i64 0, .int .u64 0, .int .i64 0, .int .i64 0, .int .u64 0, .int .i64 0, .int .i64 0, .int .u64 0, .int .i64 0, .int .u64 0, .int .i64 0, .int .i64 0, .int .u64 0, .int .i64 0, .int .u64 0, .int .i64 0, .int .i64 0, .int .i64 0, .int .u64 0, .slice none 0 0, .slice none 0 0, .int .i64 0, .int .i64 0, .int .u64 0, .int .i64 0, .int .u64 0, .int .i64 0, .int .i64 0, .int .u64 0, .int .i64 0, .int .u64 0, .bool false] 53).below ((Below.refl _ _).drew)
  have P : Hid (IsB (w.alloc (.cells #[.int .i64 0, .int .i64 0, .int .i64 0, .int .u64 0, .int .i64 0, .int .u64 0, .int .i64 0, .int .i64 0, .int .u64 0, .int .i64 0, .int .i64 0, .int .u64 0, .int .i64 0, .int .u64 0, .int .i64 0, .int .i64 0, .int .u64 0, .int .i64 0, .int .u64 0, .int .i64 0, .int .i64 0, .int .i64 0, .int .u64 0, .slice none 0 0, .slice none 0 0, .int .i64 0, .int .i64 0, .int .u64 0, .int .i64 0, .int .u64 0, .int .i64 0, .int .i64 0, .int .u64 0, .int .i64 0, .int .u64 0, .bool false] 53)).drew w.heap.size (stL 0 zr 0 0 0 zr zr 0 0 0 zr zr).toArray 53) := P0
  clear P0
  have ID := hide (I.below b1)
  have B := hide b1
  clear b1 I
  go_enter Tryd.func13, Tryd.ntmps13
  go_wp2_with fail
  refine regionL 12 (fun w' => IsB w' d (dsL D).toArray 94) mixed ID.out (fun hHeld => ?_)
  generalize (w.alloc (.cells #[.int .i64 0, .int .i64 0, .int .i64 0, .int .u64 0, .int .i64 0, .int .u64 0, .int .i64 0, .int .i64 0, .int .u64 0, .int .i64 0, .int .i64 0, .int .u64 0, .int .i64 0, .int .u64 0, .int .i64 0, .int .i64 0, .int .u64 0, .int .i64 0, .int .u64 0, .int .i64 0, .int .i64 0, .int .i64 0, .int .u64 0, .slice none 0 0, .slice none 0 0, .int .i64 0, .int .i64 0, .int .u64 0, .int .i64 0, .int .u64 0, .int .i64 0, .int .i64 0, .int .u64 0, .int .i64 0, .int .u64 0, .bool false] 53)).drew = WD at *
  have IA := hide (ID.out.below ((Below.refl _ _).alloc (Nat.le_refl _) (.cells #[.int .i64 0, .int .i64 0, .int .u64 0, .int .i64 0, .int .i64 0, .int .u64 0, .int .i64 0, .int .u64 0, .int .i64 0, .int .i64 0, .int .u64 0, .int .i64 0, .int .u64 0, .int .i64 0, .int .i64 0] 47)))
  have SA := hide (store_ask WD (akL 0 D.wl D.wb zr zr D.oa D.oo).toArray rfl (by kernel_rfl))
  refine pickA (v := ?_) 0 (some 5) rfl rfl (by kernel_rfl) (by kernel_rfl) (by kernel_rfl) (by decide) (fun _ _ _ h => h) (by rfl) ?_ (by assumption) ?_
  rotate_left
  · intro w'
    go_simp
    try with_reducible rfl
  try simp only [Act.put, List.setIfInBounds_toArray, List.set_cons_zero, List.set_cons_succ]
  refine pickA (v := ?_) 1 (some 6) rfl rfl (by kernel_rfl) (by kernel_rfl) (by kernel_rfl) (by decide) (fun _ _ _ h => h) (by rfl) ?_ (by assumption) ?_
  rotate_left
  · intro w'
    go_simp
    try with_reducible rfl
  try simp only [Act.put, List.setIfInBounds_toArray, List.set_cons_zero, List.set_cons_succ]
  refine pickA (v := ?_) 2 (some 7) rfl rfl (by kernel_rfl) (by kernel_rfl) (by kernel_rfl) (by decide) (fun _ _ _ h => h) (by rfl) ?_ (by assumption) ?_
  rotate_left
  · intro w'
    go_simp
    try with_reducible rfl
  try simp only [Act.put, List.setIfInBounds_toArray, List.set_cons_zero, List.set_cons_succ]
  refine pickA (v := ?_) 3 (some 8) rfl rfl (by kernel_rfl) (by kernel_rfl) (by kernel_rfl) (by decide) (fun _ _ _ h => h) (by rfl) ?_ (by assumption) ?_
  rotate_left
  · intro w'
    go_simp
    try with_reducible rfl
  try simp only [Act.put, List.setIfInBounds_toArray, List.set_cons_zero, List.set_cons_succ]
  refine pickL (v := .agg #[.int .i64 D.wl, .int .u64 D.wb]) 4 (some 9) rfl rfl (by kernel_rfl) (by kernel_rfl) (by kernel_rfl) (by decide) (by kernel_rfl) (by kernel_rfl) (fun _ _ _ h => h) (by rfl) ?_ (by assumption) ?_
  · intro w' hSw
    have q0 := hSw
    exact exec_load rfl rfl (dl_w q0)
  try simp only [Act.put, List.setIfInBounds_toArray, List.set_cons_zero, List.set_cons_succ]
  refine pickA (v := ?_) 5 (some 10) rfl rfl (by kernel_rfl) (by kernel_rfl) (by kernel_rfl) (by decide) (fun _ _ _ h => h) (by rfl) ?_ (by assumption) ?_
  rotate_left
  · intro w'
    go_simp
    try with_reducible rfl
  try simp only [Act.put, List.setIfInBounds_toArray, List.set_cons_zero, List.set_cons_succ]
  refine pickA (v := ?_) 6 (some 11) rfl rfl (by kernel_rfl) (by kernel_rfl) (by kernel_rfl) (by decide) (fun _ _ _ h => h) (by rfl) ?_ (by assumption) ?_
  rotate_left
  · intro w'
    go_simp
    try with_reducible rfl
  try simp only [Act.put, List.setIfInBounds_toArray, List.set_cons_zero, List.set_cons_succ]
  refine pickA (v := ?_) 7 (some 12) rfl rfl (by kernel_rfl) (by kernel_rfl) (by kernel_rfl) (by decide) (fun _ _ _ h => h) (by rfl) ?_ (by assumption) ?_
  rotate_left
  · intro w'
    go_simp
    try with_reducible rfl
  try simp only [Act.put, List.setIfInBounds_toArray, List.set_cons_zero, List.set_cons_succ]
  refine pickA (v := ?_) 8 (some 13) rfl rfl (by kernel_rfl) (by kernel_rfl) (by kernel_rfl) (by decide) (fun _ _ _ h => h) (by rfl) ?_ (by assumption) ?_
  rotate_left
  · intro w'
    go_simp
    try with_reducible rfl
  try simp only [Act.put, List.setIfInBounds_toArray, List.set_cons_zero, List.set_cons_succ]
  refine pickL (v := .agg #[.int .i64 D.oa, .int .i64 D.oo]) 9 (some 14) rfl rfl (by kernel_rfl) (by kernel_rfl) (by kernel_rfl) (by decide) (by kernel_rfl) (by kernel_rfl) (fun _ _ _ h => h) (by rfl) ?_ (by assumption) ?_
  · intro w' hSw
    have q0 := hSw
    exact exec_load rfl rfl (dl_owner q0)
  try simp only [Act.put, List.setIfInBounds_toArray, List.set_cons_zero, List.set_cons_succ]
  refine pickA (v := .agg (akL 0 D.wl D.wb zr zr D.oa D.oo).toArray) 10 (some 15) rfl rfl (by kernel_rfl) (by kernel_rfl) (by kernel_rfl) (by decide) (fun _ _ _ h => h) (by rfl) ?_ (by assumption) ?_
  · intro w'
    kernel_rfl
  try simp only [Act.put, List.setIfInBounds_toArray, List.set_cons_zero, List.set_cons_succ]
  refine oneL (i := 11) (by kernel_rfl) rfl (fun K hK => ?_)
  go_simp
  refine hK.out _ _ ?_ ?_
  · exact IA.out
  clear hK K
  try simp only [Act.put, List.setIfInBounds_toArray, List.set_cons_zero, List.set_cons_succ]
  clear hHeld
  have hHeld : (fun w' => IsB w' d (dsL D).toArray 94) (WD.alloc (.cells #[.int .i64 0, .int .i64 0, .int .u64 0, .int .i64 0, .int .i64 0, .int .u64 0, .int .i64 0, .int .u64 0, .int .i64 0, .int .i64 0, .int .u64 0, .int .i64 0, .int .u64 0, .int .i64 0, .int .i64 0] 47)) := IA.out
  refine lateL (i := 12) (by kernel_rfl) rfl (by decide) (by kernel_rfl) (fun K hK => ?_)
  refine step_store_w rfl 47 (.tmp 3) (.tmp 15) rfl rfl rfl SA.out ?_
  refine hK.out _ _ ?_
  clear hK K
  try simp only [Act.put, List.setIfInBounds_toArray]
  refine doneL (by kernel_rfl) ?_ _
  clear hHeld
  clear IA SA
  have b2 := (Below.refl WD.heap.size WD).alloc (Nat.le_refl _) (.cells (akL 0 D.wl D.wb zr zr D.oa D.oo).toArray 47)
  have A := hide (IsB.new WD (akL 0 D.wl D.wb zr zr D.oa D.oo).toArray 47)
  have hAB := hide B.out.size
  have J := hide (ID.out.below b2)
  replace P := hide (P.out.below b2)
  replace B := hide (B.out.trans (b2.mono B.out.size))
  clear b2 ID
  generalize hW2 : (WD.alloc (.cells (akL 0 D.wl D.wb zr zr D.oa D.oo).toArray 47)) = W2 at *
  clear hW2
  obtain ⟨AB, hABe⟩ : ∃ AB, WD.heap.size = AB := ⟨_, rfl⟩
  rw [hABe] at A hAB ⊢
  clear hABe
  have b3 := (Below.refl W2.heap.size W2).alloc (Nat.le_refl _) (.cells D.p.cells 29)
  have T := hide (IsB.new W2 D.p.cells 29)
  have hTB := hide B.out.size
  have LP := hide (dl_p J.out)
  have SN := hide (store_newr W2 D.p)
  replace J := hide (J.out.below b3)
  replace P := hide (P.out.below b3)
  replace A := hide (A.out.below b3)
  replace B := hide (B.out.trans (b3.mono B.out.size))
  clear b3
  have y14 := dc_st J.out
  rw [hp] at y14
  clear hp
  obtain ⟨w9, hs9, P9, k9⟩ := st_step P.out rfl 2 zr 0 0 0 zr zr 0 0 0 zr zr
  have HS9 := hide hs9
  have P10 := hide P9
  have B9 : Hid (Below w.heap.size w w9) := B.out.trans (k9.to_below B.out.size (by simp))
  clear hs9 P9 k9
  go_wp2_with (first | (focus ((with_reducible refine wpList_load_w ?_ 29 (.tmp 18) ?_ ?_ LP.out ?_); rotate_left; rfl; rfl; rotate_left; rfl)) | (focus ((with_reducible refine wpList_store_w ?_ 29 (.tmp 4) (.tmp 19) ?_ ?_ ?_ SN.out ?_); rotate_left; rfl; rfl; rfl; rotate_left; rfl)) | (focus ((with_reducible refine wpList_store_w ?_ 53 (.tmp 2) (.tmp 27) ?_ ?_ ?_ HS9.out ?_); rotate_left; rfl; rfl; rfl; rotate_left; rfl)))
  try simp only [Act.put]
  try go_wp2
  refine ret_step (p := 2) (b := w.heap.size) Tryd.results13 rfl rfl P10.out ?_
  exact ⟨rfl, B9.out⟩

set_option maxHeartbeats 2000000 in
set_option maxRecDepth 100000 in
theorem dn_11 (d : Nat) (D : Ds) (hp : D.st = 11) (w : World) (I : IsB w d (dsL D).toArray 94) : Calls Tryd.prog 13 #[.pointer (some ⟨d, 0, none⟩)] w fun e' w' => e' = .returned (.agg (stL 3 zr 0 0 0 zr zr 0 0 D.e D.rl D.rr).toArray) ∧ Below w.heap.size w w' := by
  have mixed : Tryd.prog.follows .mixedOrders = true := by kernel_rfl
  have b1 := ((Below.refl w.heap.size w).alloc (Nat.le_refl _) (.cells #[.int .i64 0, .int .i64 0, .int .i64 0, .int .u64 0, .int .i64 0, .int .u64 0, .int .i64 0, .int .i64 0, .int .u64 0, .int .i64 0, .int .i64 0, .int .u64 0, .int .i64 0, .int .u64 0, .int .i64 0, .int .i64 0, .int .u64 0, .int .i64 0, .int .u64 0, .int .i64 0, .int .i64 0, .int .i64 0, .int .u64 0, .slice none 0 0, .slice none 0 0, .int .i64 0, .int .i64 0, .int .u64 0, .int .i64 0, .int .u64 0, .int .i64 0, .int .i64 0, .int .u64 0, .int .i64 0, .int .u64 0, .bool false] 53)).drew
  have P0 := (IsB.new w #[.int .i64 0, .int .i64 0, .int .i64 0, .int .u64 0, .int .i64 0, .int .u64 0, .int .i64 0, .int .i64 0, .int .u64 0, .int .i64 0, .int .i64 0, .int .u64 0, .int .i64 0, .int .u64 0, .int .i64 0, .int .i64 0, .int .u64 0, .int .i64 0, .int .u64 0, .int .i64 0, .int .i64 0, .int .i64 0, .int .u64 0, .slice none 0 0, .slice none 0 0, .int .i64 0, .int .i64 0, .int .u64 0, .int .i64 0, .int .u64 0, .int .i64 0, .int .i64 0, .int .u64 0, .int .i64 0, .int .u64 0, .bool false] 53).below ((Below.refl _ _).drew)
  have P : Hid (IsB (w.alloc (.cells #[.int .i64 0, .int .i64 0, .int .i64 0, .int .u64 0, .int .i64 0, .int .u64 0, .int .i64 0, .int .i64 0, .int .u64 0, .int .i64 0, .int .i64 0, .int .u64 0, .int .i64 0, .int .u64 0, .int .i64 0, .int .i64 0, .int .u64 0, .int .i64 0, .int .u64 0, .int .i64 0, .int .i64 0, .int .i64 0, .int .u64 0, .slice none 0 0, .slice none 0 0, .int .i64 0, .int .i64 0, .int .u64 0, .int .i64 0, .int .u64 0, .int .i64 0, .int .i64 0, .int .u64 0, .int .i64 0, .int .u64 0, .bool false] 53)).drew w.heap.size (stL 0 zr 0 0 0 zr zr 0 0 0 zr zr).toArray 53) := P0
  clear P0
  have ID := hide (I.below b1)
  have B := hide b1
  clear b1 I
  go_enter Tryd.func13, Tryd.ntmps13
  go_wp2_with fail
  refine regionL 12 (fun w' => IsB w' d (dsL D).toArray 94) mixed ID.out (fun hHeld => ?_)
  generalize (w.alloc (.cells #[.int .i64 0, .int .i64 0, .int .i64 0, .int .u64 0, .int .i64 0, .int .u64 0, .int .i64 0, .int .i64 0, .int .u64 0, .int .i64 0, .int .i64 0, .int .u64 0, .int .i64 0, .int .u64 0, .int .i64 0, .int .i64 0, .int .u64 0, .int .i64 0, .int .u64 0, .int .i64 0, .int .i64 0, .int .i64 0, .int .u64 0, .slice none 0 0, .slice none 0 0, .int .i64 0, .int .i64 0, .int .u64 0, .int .i64 0, .int .u64 0, .int .i64 0, .int .i64 0, .int .u64 0, .int .i64 0, .int .u64 0, .bool false] 53)).drew = WD at *
  have IA := hide (ID.out.below ((Below.refl _ _).alloc (Nat.le_refl _) (.cells #[.int .i64 0, .int .i64 0, .int .u64 0, .int .i64 0, .int .i64 0, .int .u64 0, .int .i64 0, .int .u64 0, .int .i64 0, .int .i64 0, .int .u64 0, .int .i64 0, .int .u64 0, .int .i64 0, .int .i64 0] 47)))
  have SA := hide (store_ask WD (akL 0 D.wl D.wb zr zr D.oa D.oo).toArray rfl (by kernel_rfl))
  refine pickA (v := ?_) 0 (some 5) rfl rfl (by kernel_rfl) (by kernel_rfl) (by kernel_rfl) (by decide) (fun _ _ _ h => h) (by rfl) ?_ (by assumption) ?_
  rotate_left
  · intro w'
    go_simp
    try with_reducible rfl
  try simp only [Act.put, List.setIfInBounds_toArray, List.set_cons_zero, List.set_cons_succ]
  refine pickA (v := ?_) 1 (some 6) rfl rfl (by kernel_rfl) (by kernel_rfl) (by kernel_rfl) (by decide) (fun _ _ _ h => h) (by rfl) ?_ (by assumption) ?_
  rotate_left
  · intro w'
    go_simp
    try with_reducible rfl
  try simp only [Act.put, List.setIfInBounds_toArray, List.set_cons_zero, List.set_cons_succ]
  refine pickA (v := ?_) 2 (some 7) rfl rfl (by kernel_rfl) (by kernel_rfl) (by kernel_rfl) (by decide) (fun _ _ _ h => h) (by rfl) ?_ (by assumption) ?_
  rotate_left
  · intro w'
    go_simp
    try with_reducible rfl
  try simp only [Act.put, List.setIfInBounds_toArray, List.set_cons_zero, List.set_cons_succ]
  refine pickA (v := ?_) 3 (some 8) rfl rfl (by kernel_rfl) (by kernel_rfl) (by kernel_rfl) (by decide) (fun _ _ _ h => h) (by rfl) ?_ (by assumption) ?_
  rotate_left
  · intro w'
    go_simp
    try with_reducible rfl
  try simp only [Act.put, List.setIfInBounds_toArray, List.set_cons_zero, List.set_cons_succ]
  refine pickL (v := .agg #[.int .i64 D.wl, .int .u64 D.wb]) 4 (some 9) rfl rfl (by kernel_rfl) (by kernel_rfl) (by kernel_rfl) (by decide) (by kernel_rfl) (by kernel_rfl) (fun _ _ _ h => h) (by rfl) ?_ (by assumption) ?_
  · intro w' hSw
    have q0 := hSw
    exact exec_load rfl rfl (dl_w q0)
  try simp only [Act.put, List.setIfInBounds_toArray, List.set_cons_zero, List.set_cons_succ]
  refine pickA (v := ?_) 5 (some 10) rfl rfl (by kernel_rfl) (by kernel_rfl) (by kernel_rfl) (by decide) (fun _ _ _ h => h) (by rfl) ?_ (by assumption) ?_
  rotate_left
  · intro w'
    go_simp
    try with_reducible rfl
  try simp only [Act.put, List.setIfInBounds_toArray, List.set_cons_zero, List.set_cons_succ]
  refine pickA (v := ?_) 6 (some 11) rfl rfl (by kernel_rfl) (by kernel_rfl) (by kernel_rfl) (by decide) (fun _ _ _ h => h) (by rfl) ?_ (by assumption) ?_
  rotate_left
  · intro w'
    go_simp
    try with_reducible rfl
  try simp only [Act.put, List.setIfInBounds_toArray, List.set_cons_zero, List.set_cons_succ]
  refine pickA (v := ?_) 7 (some 12) rfl rfl (by kernel_rfl) (by kernel_rfl) (by kernel_rfl) (by decide) (fun _ _ _ h => h) (by rfl) ?_ (by assumption) ?_
  rotate_left
  · intro w'
    go_simp
    try with_reducible rfl
  try simp only [Act.put, List.setIfInBounds_toArray, List.set_cons_zero, List.set_cons_succ]
  refine pickA (v := ?_) 8 (some 13) rfl rfl (by kernel_rfl) (by kernel_rfl) (by kernel_rfl) (by decide) (fun _ _ _ h => h) (by rfl) ?_ (by assumption) ?_
  rotate_left
  · intro w'
    go_simp
    try with_reducible rfl
  try simp only [Act.put, List.setIfInBounds_toArray, List.set_cons_zero, List.set_cons_succ]
  refine pickL (v := .agg #[.int .i64 D.oa, .int .i64 D.oo]) 9 (some 14) rfl rfl (by kernel_rfl) (by kernel_rfl) (by kernel_rfl) (by decide) (by kernel_rfl) (by kernel_rfl) (fun _ _ _ h => h) (by rfl) ?_ (by assumption) ?_
  · intro w' hSw
    have q0 := hSw
    exact exec_load rfl rfl (dl_owner q0)
  try simp only [Act.put, List.setIfInBounds_toArray, List.set_cons_zero, List.set_cons_succ]
  refine pickA (v := .agg (akL 0 D.wl D.wb zr zr D.oa D.oo).toArray) 10 (some 15) rfl rfl (by kernel_rfl) (by kernel_rfl) (by kernel_rfl) (by decide) (fun _ _ _ h => h) (by rfl) ?_ (by assumption) ?_
  · intro w'
    kernel_rfl
  try simp only [Act.put, List.setIfInBounds_toArray, List.set_cons_zero, List.set_cons_succ]
  refine oneL (i := 11) (by kernel_rfl) rfl (fun K hK => ?_)
  go_simp
  refine hK.out _ _ ?_ ?_
  · exact IA.out
  clear hK K
  try simp only [Act.put, List.setIfInBounds_toArray, List.set_cons_zero, List.set_cons_succ]
  clear hHeld
  have hHeld : (fun w' => IsB w' d (dsL D).toArray 94) (WD.alloc (.cells #[.int .i64 0, .int .i64 0, .int .u64 0, .int .i64 0, .int .i64 0, .int .u64 0, .int .i64 0, .int .u64 0, .int .i64 0, .int .i64 0, .int .u64 0, .int .i64 0, .int .u64 0, .int .i64 0, .int .i64 0] 47)) := IA.out
  refine lateL (i := 12) (by kernel_rfl) rfl (by decide) (by kernel_rfl) (fun K hK => ?_)
  refine step_store_w rfl 47 (.tmp 3) (.tmp 15) rfl rfl rfl SA.out ?_
  refine hK.out _ _ ?_
  clear hK K
  try simp only [Act.put, List.setIfInBounds_toArray]
  refine doneL (by kernel_rfl) ?_ _
  clear hHeld
  clear IA SA
  have b2 := (Below.refl WD.heap.size WD).alloc (Nat.le_refl _) (.cells (akL 0 D.wl D.wb zr zr D.oa D.oo).toArray 47)
  have A := hide (IsB.new WD (akL 0 D.wl D.wb zr zr D.oa D.oo).toArray 47)
  have hAB := hide B.out.size
  have J := hide (ID.out.below b2)
  replace P := hide (P.out.below b2)
  replace B := hide (B.out.trans (b2.mono B.out.size))
  clear b2 ID
  generalize hW2 : (WD.alloc (.cells (akL 0 D.wl D.wb zr zr D.oa D.oo).toArray 47)) = W2 at *
  clear hW2
  obtain ⟨AB, hABe⟩ : ∃ AB, WD.heap.size = AB := ⟨_, rfl⟩
  rw [hABe] at A hAB ⊢
  clear hABe
  have b3 := (Below.refl W2.heap.size W2).alloc (Nat.le_refl _) (.cells D.p.cells 29)
  have T := hide (IsB.new W2 D.p.cells 29)
  have hTB := hide B.out.size
  have LP := hide (dl_p J.out)
  have SN := hide (store_newr W2 D.p)
  replace J := hide (J.out.below b3)
  replace P := hide (P.out.below b3)
  replace A := hide (A.out.below b3)
  replace B := hide (B.out.trans (b3.mono B.out.size))
  clear b3
  have y14 := dc_st J.out
  rw [hp] at y14
  clear hp
  obtain ⟨w9, hs9, P9, k9⟩ := st_step P.out rfl 3 zr 0 0 0 zr zr 0 0 D.e D.rl D.rr
  have HS9 := hide hs9
  have P10 := hide P9
  have B9 : Hid (Below w.heap.size w w9) := B.out.trans (k9.to_below B.out.size (by simp))
  clear hs9 P9 k9
  have LR : Hid ((Instr.loadAt 51 (.pointer (some ⟨d, 33, none⟩))).run Tryd.prog (W2.alloc (.cells D.p.cells 29)) = .ok (.agg #[.int .i64 D.e, .int .u64 0, .slice none 0 0, .slice none 0 0, .int .i64 D.rl.id, .int .i64 D.rl.rk, .int .u64 D.rl.kn, .int .i64 D.rl.ln, .int .u64 D.rl.bt, .int .i64 D.rr.id, .int .i64 D.rr.rk, .int .u64 D.rr.kn, .int .i64 D.rr.ln, .int .u64 D.rr.bt, .bool false]) (W2.alloc (.cells D.p.cells 29))) := dl_res J.out
  go_wp2_with (first | (focus ((with_reducible refine wpList_load_w ?_ 29 (.tmp 18) ?_ ?_ LP.out ?_); rotate_left; rfl; rfl; rotate_left; rfl)) | (focus ((with_reducible refine wpList_store_w ?_ 29 (.tmp 4) (.tmp 19) ?_ ?_ ?_ SN.out ?_); rotate_left; rfl; rfl; rfl; rotate_left; rfl)) | (focus ((with_reducible refine wpList_load_w ?_ 51 (.tmp 32) ?_ ?_ LR.out ?_); rotate_left; rfl; rfl; rotate_left; rfl)) | (focus ((with_reducible refine wpList_store_w ?_ 53 (.tmp 2) (.tmp 34) ?_ ?_ ?_ HS9.out ?_); rotate_left; rfl; rfl; rfl; rotate_left; rfl)))
  try simp only [Act.put]
  try go_wp2
  refine ret_step (p := 2) (b := w.heap.size) Tryd.results13 rfl rfl P10.out ?_
  exact ⟨rfl, B9.out⟩

theorem dnext_any (d : Nat) (D : Ds) (hs : D.st = 1 ∨ 3 ≤ D.st ∧ D.st ≤ 11) (w : World) (I : IsB w d (dsL D).toArray 94) : Calls Tryd.prog 13 #[.pointer (some ⟨d, 0, none⟩)] w fun e' w' => e' = .returned (.agg D.step.toArray) ∧ Below w.heap.size w w' := by
  unfold Ds.step
  by_cases h10 : D.st = 10
  · rw [if_pos h10]; exact dn_10 d D h10 w I
  rw [if_neg h10]
  by_cases h11 : D.st = 11
  · rw [if_pos h11]; exact dn_11 d D h11 w I
  rw [if_neg h11]
  by_cases h1 : D.st = 1
  · rw [if_pos h1]; exact dn_1 d D h1 w I
  rw [if_neg h1]
  by_cases h3 : D.st = 3
  · rw [if_pos h3]; exact dn_3 d D h3 w I
  rw [if_neg h3]
  by_cases h4 : D.st = 4
  · rw [if_pos h4]; exact dn_4 d D h4 w I
  rw [if_neg h4]
  by_cases h5 : D.st = 5
  · rw [if_pos h5]; exact dn_5 d D h5 w I
  rw [if_neg h5]
  by_cases h6 : D.st = 6
  · rw [if_pos h6]; exact dn_6 d D h6 w I
  rw [if_neg h6]
  by_cases h7 : D.st = 7
  · rw [if_pos h7]; exact dn_7 d D h7 w I
  rw [if_neg h7]
  by_cases h8 : D.st = 8
  · rw [if_pos h8]; exact dn_8 d D h8 w I
  rw [if_neg h8]
  exact dn_9 d D (by omega) w I

end Go.Proofs.YtofmommoeligoaaDoor
