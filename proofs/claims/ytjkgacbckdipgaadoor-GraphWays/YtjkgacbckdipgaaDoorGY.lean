/- run: a search for what nobody is below. -/
import Derived.Test.YtjkgacbckdipgaaDoorGX
namespace Go.Proofs.YtjkgacbckdipgaaDoor
open Go.RowKit Go.Maps Go.ChangeMaps

set_option maxHeartbeats 4000000 in
set_option maxRecDepth 100000 in
theorem run_low (base b : Nat) (h : Int) (a : Option Addr) (n c : Nat) (tn : Int) (wv : Value) (hops : List Hp) (w : World) (hbase : base ≤ w.heap.size) (s : Sr w base b h a n c 1 tn wv hops) :
    Calls Tryd.prog 14 #[.pointer (some ⟨b, 0, none⟩)] w fun e w' => e = .returned (.tuple #[.agg zr.cells, .agg (hdR h).cells]) ∧ Sr w' base b h a n c 1 tn wv hops ∧ Kt w w' ∧ Below base w w' := by
  have mixed : Tryd.prog.follows .mixedOrders = true := by kernel_rfl
  have b2 := ((Below.refl w.heap.size w).alloc (Nat.le_refl _) (.cells #[.int .i64 0, .int .i64 0, .int .u64 0, .int .i64 0, .int .u64 0] 32)).alloc (by simp) (.cells #[.int .i64 0, .int .i64 0, .int .u64 0, .int .i64 0, .int .u64 0] 32)
  have Ab : Hid (IsB ((w.alloc (.cells #[.int .i64 0, .int .i64 0, .int .u64 0, .int .i64 0, .int .u64 0] 32)).alloc (.cells #[.int .i64 0, .int .i64 0, .int .u64 0, .int .i64 0, .int .u64 0] 32)) w.heap.size #[.int .i64 0, .int .i64 0, .int .u64 0, .int .i64 0, .int .u64 0] 32) := (IsB.new w #[.int .i64 0, .int .i64 0, .int .u64 0, .int .i64 0, .int .u64 0] _).below ((Below.refl _ _).alloc (Nat.le_refl _) _)
  have Bb : Hid (IsB ((w.alloc (.cells #[.int .i64 0, .int .i64 0, .int .u64 0, .int .i64 0, .int .u64 0] 32)).alloc (.cells #[.int .i64 0, .int .i64 0, .int .u64 0, .int .i64 0, .int .u64 0] 32)) (w.heap.size + 1) #[.int .i64 0, .int .i64 0, .int .u64 0, .int .i64 0, .int .u64 0] 32) := by
    have := IsB.new (w.alloc (.cells #[.int .i64 0, .int .i64 0, .int .u64 0, .int .i64 0, .int .u64 0] 32)) #[.int .i64 0, .int .i64 0, .int .u64 0, .int .i64 0, .int .u64 0] 32
    rwa [World.size_alloc] at this
  obtain ⟨wa, wc, rfl, -, -⟩ := s.row.shape
  have SS := hide (s.below b2)
  have KT := hide (Kt.of_below b2)
  have B := hide (b2.mono hbase)
  have sB := (s.below b2).blk
  unfold scs at sB
  have t12 := sB.cell 12
  simp at t12
  have SB := hide sB
  have HHD : Hid ((hdR h).cells = #[.int .i64 0, .int .i64 1, .int .u64 0, .int .i64 h, .int .u64 0]) := rfl
  clear b2 s sB
  generalize hwn : hops.length = wn at *
  replace hwn := hide hwn
  go_enter Tryd.func14, Tryd.ntmps14
  go_wp2_with fail
  clear t12
  generalize ((w.alloc (.cells #[.int .i64 0, .int .i64 0, .int .u64 0, .int .i64 0, .int .u64 0] 32)).alloc (.cells #[.int .i64 0, .int .i64 0, .int .u64 0, .int .i64 0, .int .u64 0] 32)) = W2 at *
  generalize hH : w.heap.size = H at Ab Bb ⊢
  replace hH := hide hH
  replace Ab := hide (Ab.out.below ((Below.refl _ _).drew))
  replace Bb := hide (Bb.out.below ((Below.refl _ _).drew))
  replace SS := hide (SS.out.below ((Below.refl _ _).drew))
  replace SB := hide (SB.out.below ((Below.refl _ _).drew))
  replace KT := hide (KT.out.trans (Kt.of_below ((Below.refl _ _).drew)))
  replace B := hide B.out.drew
  refine regionL 7 (fun w' => IsB w' b #[.int .i64 h, .int .i64 0, .int .i64 1, .int .u64 0, .int .i64 h, .int .u64 0, .int .i64 1, .int .i64 3, .int .u64 0, .int .i64 h, .int .u64 0, .slice a n c, .int .i64 1, .int .u64 tn, .slice wa wn wc] 49) mixed SB.out (fun hHeld => ?_)
  generalize W2.drew = WD at *
  refine pickA (v := ?_) 0 (some 14) rfl rfl (by kernel_rfl) (by kernel_rfl) (by kernel_rfl) (by decide) (fun _ _ _ h => h) (by rfl) ?_ (by assumption) ?_
  rotate_left
  · intro w'
    go_simp
    try with_reducible rfl
  try simp only [Act.put, List.setIfInBounds_toArray, List.set_cons_zero, List.set_cons_succ]
  refine pickA (v := ?_) 1 (some 15) rfl rfl (by kernel_rfl) (by kernel_rfl) (by kernel_rfl) (by decide) (fun _ _ _ h => h) (by rfl) ?_ (by assumption) ?_
  rotate_left
  · intro w'
    go_simp
    try with_reducible rfl
  try simp only [Act.put, List.setIfInBounds_toArray, List.set_cons_zero, List.set_cons_succ]
  refine pickA (v := ?_) 2 (some 16) rfl rfl (by kernel_rfl) (by kernel_rfl) (by kernel_rfl) (by decide) (fun _ _ _ h => h) (by rfl) ?_ (by assumption) ?_
  rotate_left
  · intro w'
    go_simp
    try with_reducible rfl
  try simp only [Act.put, List.setIfInBounds_toArray, List.set_cons_zero, List.set_cons_succ]
  refine pickA (v := ?_) 3 (some 17) rfl rfl (by kernel_rfl) (by kernel_rfl) (by kernel_rfl) (by decide) (fun _ _ _ h => h) (by rfl) ?_ (by assumption) ?_
  rotate_left
  · intro w'
    go_simp
    try with_reducible rfl
  try simp only [Act.put, List.setIfInBounds_toArray, List.set_cons_zero, List.set_cons_succ]
  refine pickA (v := ?_) 4 (some 18) rfl rfl (by kernel_rfl) (by kernel_rfl) (by kernel_rfl) (by decide) (fun _ _ _ h => h) (by rfl) ?_ (by assumption) ?_
  rotate_left
  · intro w'
    go_simp
    try with_reducible rfl
  try simp only [Act.put, List.setIfInBounds_toArray, List.set_cons_zero, List.set_cons_succ]
  refine pickL (v := .agg #[.int .i64 0, .int .i64 1, .int .u64 0, .int .i64 h, .int .u64 0]) 5 (some 19) rfl rfl (by kernel_rfl) (by kernel_rfl) (by kernel_rfl) (by decide) (by kernel_rfl) (by kernel_rfl) (fun _ _ _ h => h) (by rfl) ?_ (by assumption) ?_
  · intro w' hSw
    have q0 := hSw
    have t1 := q0.cell 1
    have t2 := q0.cell 2
    have t3 := q0.cell 3
    have t4 := q0.cell 4
    have t5 := q0.cell 5
    simp at t1 t2 t3 t4 t5
    go_simp
  try simp only [Act.put, List.setIfInBounds_toArray, List.set_cons_zero, List.set_cons_succ]
  refine oneL (i := 6) (by kernel_rfl) rfl (fun K hK => ?_)
  obtain ⟨w7, hst, I7, k7⟩ := store_ref Ab.out (cs := #[.int .i64 0, .int .i64 0, .int .u64 0, .int .i64 0, .int .u64 0]) rfl rfl (by kernel_rfl)
  have J7 := hide (Bb.out.kp k7 (by simp))
  have I7h := hide I7
  have K7 := hide (KT.out.kp k7 (fun x hx => by simp at hx; have := hH.out; omega))
  have B7 : Hid (Below base w w7) := B.out.trans (k7.to_below (by have := B.out.size; omega) (by simp; have := hH.out; omega))
  have SB7 := hide (SB.out.kp k7 (fun hm => by simp at hm; subst hm; exact absurd (cells_inj SB.out Ab.out) (by decide)))
  have SS7 := hide (SS.out.kp Ab.out k7)
  have HST := hide hst
  clear hst I7 k7
  refine step_store_w rfl 32 (.tmp 2) (.tmp 14) rfl rfl rfl HST.out ?_
  refine hK.out _ _ ?_ ?_
  · exact SB7.out
  clear hK K
  try simp only [Act.put, List.setIfInBounds_toArray]
  clear hHeld
  have hHeld : (fun w' => IsB w' b #[.int .i64 h, .int .i64 0, .int .i64 1, .int .u64 0, .int .i64 h, .int .u64 0, .int .i64 1, .int .i64 3, .int .u64 0, .int .i64 h, .int .u64 0, .slice a n c, .int .i64 1, .int .u64 tn, .slice wa wn wc] 49) w7 := SB7.out
  refine lateL (i := 7) (by kernel_rfl) rfl (by decide) (by kernel_rfl) (fun K hK => ?_)
  obtain ⟨w9, hst, J9_, k9⟩ := store_ref J7.out (cs := #[.int .i64 0, .int .i64 1, .int .u64 0, .int .i64 h, .int .u64 0]) rfl rfl (by kernel_rfl)
  have I9 := hide (I7h.out.kp k9 (by simp))
  have J9 := hide J9_
  have K9 := hide (K7.out.kp k9 (fun x hx => by simp at hx; have := hH.out; omega))
  have B9 : Hid (Below base w w9) := B7.out.trans (k9.to_below (by have := B7.out.size; omega) (by simp; have := hH.out; omega))
  have SS9 := hide (SS7.out.kp J7.out k9)
  have HST2 := hide hst
  clear hst J9_ k9
  refine step_store_w rfl 32 (.tmp 3) (.tmp 19) rfl rfl rfl HST2.out ?_
  refine hK.out _ _ ?_
  clear hK K
  try simp only [Act.put]
  refine doneL (by kernel_rfl) ?_ _
  clear hHeld
  go_wp2
  refine ret_rr (p := 2) (q := 3) (a := H) (b := H + 1) Tryd.results14 rfl rfl rfl rfl I9.out J9.out ?_
  exact ⟨by rw [HHD.out]; rfl, SS9.out, K9.out, B9.out⟩

end Go.Proofs.YtjkgacbckdipgaaDoor
