/- The law's alive: the document's example. -/
import Derived.Test.YtfcmmchppcffmaaDoorGS
namespace Go.Proofs.YtfcmmchppcffmaaDoor
open Go.RowKit Go.Maps Go.ChangeMaps

theorem key_info : (Tryd.prog.info? 26).map (·.size) = some 2 := by kernel_rfl
theorem ret_key {fn : Func} {p : Tmp} (hf : fn.results = #[.cell p 26]) {Q : Ending → World → Prop} {tmps : Array Value} {w : World} {b : Nat} {cs : Array Value} (hs : cs.size = 2)
    (hp : tmps.getD p undef = .pointer (some ⟨b, 0, none⟩)) (I : IsB w b cs 26) (hQ : Q (.returned (.agg cs)) w) :
    bodyPost Tryd.prog fn Q .ret ⟨tmps, []⟩ w :=
  bodyPost_ret (results_cell_row hf tmps w b 26 cs (0, 0) _ hp I Tryd.underlying26 rfl (by rw [hs]; exact key_info)) rfl hQ
set_option maxHeartbeats 1000000 in
theorem lat_any (n : Int) (w : World) : Calls Tryd.prog 15 #[.int .u64 n] w fun e w' => e = .returned (.agg #[.int .i64 2, .int .u64 n]) ∧ Below w.heap.size w w' := by
  have Kb := hide (IsB.new w #[.int .i64 2, .int .u64 n] 26)
  have B := hide ((Below.refl w.heap.size w).alloc (Nat.le_refl _) (.cells #[.int .i64 2, .int .u64 n] 26))
  go_enter Tryd.func15, Tryd.ntmps15
  go_wp2
  refine ret_key (p := 2) (b := w.heap.size) Tryd.results15 rfl rfl Kb.out ?_
  exact ⟨rfl, B.out⟩
/-- The example's members. -/
def L3 : List Rf := [⟨2, 2, 3, 1, 0⟩, ⟨3, 2, 5, 1, 1⟩, ⟨4, 2, 9, 1, 0⟩]

set_option maxHeartbeats 1000000 in
set_option maxRecDepth 100000 in
theorem three_any (w : World) : Calls Tryd.prog 12 #[] w fun e w' => ∃ N, e = .returned (.slice (some ⟨N, 0, none⟩) 3 3) ∧ IsB w' N #[.int .i64 2, .int .i64 2, .int .u64 3, .int .i64 1, .int .u64 0, .int .i64 3, .int .i64 2, .int .u64 5, .int .i64 1, .int .u64 1, .int .i64 4, .int .i64 2, .int .u64 9, .int .i64 1, .int .u64 0] 30 ∧ w.heap.size ≤ N ∧ Below w.heap.size w w' := by
  go_enter Tryd.func12, Tryd.ntmps12
  go_wp2_with fail
  refine (lat_any 3 w).mono ?_
  rintro e w2 ⟨rfl, hb⟩
  have B := hide hb
  clear hb
  go_wp2_with fail
  refine (lat_any 5 w2).mono ?_
  rintro e w3 ⟨rfl, hb⟩
  replace B := hide (B.out.trans (hb.mono B.out.size))
  clear hb
  go_wp2_with fail
  refine (lat_any 9 w3).mono ?_
  rintro e w4 ⟨rfl, hb⟩
  replace B := hide (B.out.trans (hb.mono B.out.size))
  clear hb
  go_wp2
  go_ret
  exact ⟨w4.heap.size, rfl, IsB.new w4 _ _, B.out.size, B.out.alloc B.out.size _⟩

theorem ex_flt : flt 1 (1, 0) L3 = [⟨2, 2, 3, 1, 0⟩, ⟨4, 2, 9, 1, 0⟩] := by decide +kernel
theorem ex_g : okG 1 L3 := by decide +kernel
theorem ex_s : L3.Pairwise keyLt := by decide +kernel
theorem ex_p : plI 4 (rowL 1 L3) = ((3 : Nat) : Int) := by decide +kernel
theorem ex_c : ckE 2 5 = 0 := by decide +kernel
theorem ex_h : keyLt (hdR 1) (tgR 2 5) := by decide +kernel
theorem ex_i : (rowL 1 L3)[3] = (⟨4, 2, 9, 1, 0⟩ : Rf) := by decide +kernel
theorem ex_I : InvL 1 L3 (tgR 2 5) (⟨4, 2, 9, 1, 0⟩ : Rf) := ⟨Or.inl (by decide +kernel), by decide +kernel⟩
theorem ex_w : goL 1 L3 (tgR 2 5) (1 : Int).toNat (⟨4, 2, 9, 1, 0⟩ : Rf) = ([(0, ⟨3, 2, 5, 1, 1⟩), (0, ⟨2, 2, 3, 1, 0⟩)], ⟨2, 2, 3, 1, 0⟩) := by decide +kernel
theorem ex_y : endY 1 L3 (⟨2, 2, 3, 1, 0⟩ : Rf) = ⟨3, 2, 5, 1, 1⟩ := by decide +kernel
theorem L3_sl {w : World} {N : Nat} (h : IsB w N #[.int .i64 2, .int .i64 2, .int .u64 3, .int .i64 1, .int .u64 0, .int .i64 3, .int .i64 2, .int .u64 5, .int .i64 1, .int .u64 1, .int .i64 4, .int .i64 2, .int .u64 9, .int .i64 1, .int .u64 0] 30) : RSl w (.slice (some ⟨N, 0, none⟩) 3 3) L3 := by
  refine Or.inr ⟨N, 0, 3, rfl, by simp [L3], by unfold maxLen; omega, h.lt, fun j u hu => ?_⟩
  rw [Nat.zero_add, h.cell j, ← hu]
  simp [L3, rfs]

set_option maxHeartbeats 4000000 in
set_option maxRecDepth 100000 in
theorem alive_any (w : World) (hR : Ranks w) : Calls Tryd.prog 6 #[] w fun e w' => e = .returned (.bool true) ∧ Below w.heap.size w w' := by
  have mixed : Tryd.prog.follows .mixedOrders = true := by kernel_rfl
  have hL3b : ∀ r ∈ L3, 0 ≤ r.bt := by decide +kernel
  have RK := hide hR
  clear hR
  go_enter Tryd.func6, Tryd.ntmps6
  go_wp2_with fail
  refine (three_any w).mono ?_
  rintro e w2 ⟨N, rfl, hN, -, hb⟩
  have Nb := hide hN
  have B := hide hb
  replace RK := hide (RK.out.below hb)
  clear hN hb
  have MB := members_ok 1 1 0 (by omega) (.slice (some ⟨N, 0, none⟩) 3 3) L3 (by simp [L3]) hL3b ex_g L3 (List.Perm.refl _) ex_s (by decide +kernel) (by omega) w2 (L3_sl Nb.out)
  rw [ex_flt] at MB
  replace MB := hide MB
  go_wp2_with fail
  refine MB.out.mono ?_
  rintro e w3 ⟨v3, rfl, hv3, hb⟩
  have V3 := hide hv3
  replace Nb := hide (Nb.out.below hb)
  replace B := hide (B.out.trans (hb.mono B.out.size))
  replace RK := hide (RK.out.below hb)
  clear hv3 hb MB
  go_wp2_with fail
  refine (lat_any 5 w3).mono ?_
  rintro e w4 ⟨rfl, hb⟩
  replace V3 := hide (V3.out.below hb)
  replace Nb := hide (Nb.out.below hb)
  replace B := hide (B.out.trans (hb.mono B.out.size))
  replace RK := hide (RK.out.below hb)
  clear hb
  have WY := way_left 1 4 2 5 (.slice (some ⟨N, 0, none⟩) 3 3) L3 (by simp [L3]) hL3b ex_g L3 (List.Perm.refl _) ex_s 3 (by decide +kernel) ex_p ex_c (by omega) ex_h (by rw [ex_i]; exact ex_I) w4 RK.out (L3_sl Nb.out)
  rw [ex_i, ex_w] at WY
  simp only [ex_y, Rf.cells] at WY
  replace WY := hide WY
  go_wp2_with fail
  refine WY.out.mono ?_
  rintro e w5 ⟨wv, rfl, hrw, hb⟩
  obtain ⟨wa, wc, rfl, -, -⟩ := hrw.shape
  replace V3 := hide (V3.out.below hb)
  replace Nb := hide (Nb.out.below hb)
  replace B := hide (B.out.trans (hb.mono B.out.size))
  clear hb WY hrw
  simp only [List.length_cons, List.length_nil]
  have b6 := ((Below.refl w5.heap.size w5).alloc (Nat.le_refl _) (.cells #[.int .i64 2, .int .i64 2, .int .u64 3, .int .i64 1, .int .u64 0] 30)).alloc (by simp) (.cells #[.int .i64 3, .int .i64 2, .int .u64 5, .int .i64 1, .int .u64 1] 30)
  have Xb : Hid (IsB ((w5.alloc (.cells #[.int .i64 2, .int .i64 2, .int .u64 3, .int .i64 1, .int .u64 0] 30)).alloc (.cells #[.int .i64 3, .int .i64 2, .int .u64 5, .int .i64 1, .int .u64 1] 30)) w5.heap.size #[.int .i64 2, .int .i64 2, .int .u64 3, .int .i64 1, .int .u64 0] 30) := (IsB.new w5 #[.int .i64 2, .int .i64 2, .int .u64 3, .int .i64 1, .int .u64 0] _).below ((Below.refl _ _).alloc (Nat.le_refl _) _)
  have Yb : Hid (IsB ((w5.alloc (.cells #[.int .i64 2, .int .i64 2, .int .u64 3, .int .i64 1, .int .u64 0] 30)).alloc (.cells #[.int .i64 3, .int .i64 2, .int .u64 5, .int .i64 1, .int .u64 1] 30)) (w5.heap.size + 1) #[.int .i64 3, .int .i64 2, .int .u64 5, .int .i64 1, .int .u64 1] 30) := by
    have := IsB.new (w5.alloc (.cells #[.int .i64 2, .int .i64 2, .int .u64 3, .int .i64 1, .int .u64 0] 30)) #[.int .i64 3, .int .i64 2, .int .u64 5, .int .i64 1, .int .u64 1] 30
    rwa [World.size_alloc] at this
  replace V3 := hide (V3.out.below b6)
  replace Nb := hide (Nb.out.below b6)
  replace B := hide (B.out.trans (b6.mono B.out.size))
  clear b6
  obtain ⟨va, vc, rfl, -, -⟩ := V3.out.shape
  simp only [List.length_cons, List.length_nil] at V3 ⊢
  go_wp2_with fail
  generalize ((w5.alloc (.cells #[.int .i64 2, .int .i64 2, .int .u64 3, .int .i64 1, .int .u64 0] 30)).alloc (.cells #[.int .i64 3, .int .i64 2, .int .u64 5, .int .i64 1, .int .u64 1] 30)) = W6 at *
  generalize w5.heap.size = XB at Xb Yb ⊢
  replace V3 := hide (V3.out.below ((Below.refl _ _).drew))
  replace Nb := hide (Nb.out.below ((Below.refl _ _).drew))
  replace Xb := hide (Xb.out.below ((Below.refl _ _).drew))
  replace Yb := hide (Yb.out.below ((Below.refl _ _).drew))
  replace B := hide B.out.drew
  refine regionL 37 (fun w' => IsB w' N #[.int .i64 2, .int .i64 2, .int .u64 3, .int .i64 1, .int .u64 0, .int .i64 3, .int .i64 2, .int .u64 5, .int .i64 1, .int .u64 1, .int .i64 4, .int .i64 2, .int .u64 9, .int .i64 1, .int .u64 0] 30 ∧ IsB w' XB #[.int .i64 2, .int .i64 2, .int .u64 3, .int .i64 1, .int .u64 0] 30 ∧ IsB w' (XB + 1) #[.int .i64 3, .int .i64 2, .int .u64 5, .int .i64 1, .int .u64 1] 30) mixed ⟨Nb.out, Xb.out, Yb.out⟩ (fun hHeld => ?_)
  generalize W6.drew = WD at *
  refine pickA (v := ?_) 0 (some 23) rfl rfl (by kernel_rfl) (by kernel_rfl) (by kernel_rfl) (by decide) (fun _ _ _ h => h) (by rfl) ?_ (by assumption) ?_
  rotate_left
  · intro w'
    go_simp
    try with_reducible rfl
  try simp only [Act.put, List.setIfInBounds_toArray, List.set_cons_zero, List.set_cons_succ]
  refine pickA (v := ?_) 1 (some 24) rfl rfl (by kernel_rfl) (by kernel_rfl) (by kernel_rfl) (by decide) (fun _ _ _ h => h) (by rfl) ?_ (by assumption) ?_
  rotate_left
  · intro w'
    go_simp
    try with_reducible rfl
  try simp only [Act.put, List.setIfInBounds_toArray, List.set_cons_zero, List.set_cons_succ]
  refine pickA (v := ?_) 2 (some 25) rfl rfl (by kernel_rfl) (by kernel_rfl) (by kernel_rfl) (by decide) (fun _ _ _ h => h) (by rfl) ?_ (by assumption) ?_
  rotate_left
  · intro w'
    go_simp
    try with_reducible rfl
  try simp only [Act.put, List.setIfInBounds_toArray, List.set_cons_zero, List.set_cons_succ]
  refine pickA (v := ?_) 3 (some 26) rfl rfl (by kernel_rfl) (by kernel_rfl) (by kernel_rfl) (by decide) (fun _ _ _ h => h) (by rfl) ?_ (by assumption) ?_
  rotate_left
  · intro w'
    go_simp
    try with_reducible rfl
  try simp only [Act.put, List.setIfInBounds_toArray, List.set_cons_zero, List.set_cons_succ]
  refine pickA (v := ?_) 4 (some 27) rfl rfl (by kernel_rfl) (by kernel_rfl) (by kernel_rfl) (by decide) (fun _ _ _ h => h) (by rfl) ?_ (by assumption) ?_
  rotate_left
  · intro w'
    go_simp
    try with_reducible rfl
  try simp only [Act.put, List.setIfInBounds_toArray, List.set_cons_zero, List.set_cons_succ]
  refine pickA (v := ?_) 5 (some 28) rfl rfl (by kernel_rfl) (by kernel_rfl) (by kernel_rfl) (by decide) (fun _ _ _ h => h) (by rfl) ?_ (by assumption) ?_
  rotate_left
  · intro w'
    go_simp
    try with_reducible rfl
  try simp only [Act.put, List.setIfInBounds_toArray, List.set_cons_zero, List.set_cons_succ]
  refine pickA (v := ?_) 6 (some 29) rfl rfl (by kernel_rfl) (by kernel_rfl) (by kernel_rfl) (by decide) (fun _ _ _ h => h) (by rfl) ?_ (by assumption) ?_
  rotate_left
  · intro w'
    go_simp
    try with_reducible rfl
  try simp only [Act.put, List.setIfInBounds_toArray, List.set_cons_zero, List.set_cons_succ]
  refine pickA (v := ?_) 7 (some 30) rfl rfl (by kernel_rfl) (by kernel_rfl) (by kernel_rfl) (by decide) (fun _ _ _ h => h) (by rfl) ?_ (by assumption) ?_
  rotate_left
  · intro w'
    go_simp
    try with_reducible rfl
  try simp only [Act.put, List.setIfInBounds_toArray, List.set_cons_zero, List.set_cons_succ]
  refine pickA (v := ?_) 8 (some 31) rfl rfl (by kernel_rfl) (by kernel_rfl) (by kernel_rfl) (by decide) (fun _ _ _ h => h) (by rfl) ?_ (by assumption) ?_
  rotate_left
  · intro w'
    go_simp
    try with_reducible rfl
  try simp only [Act.put, List.setIfInBounds_toArray, List.set_cons_zero, List.set_cons_succ]
  refine pickA (v := ?_) 9 (some 32) rfl rfl (by kernel_rfl) (by kernel_rfl) (by kernel_rfl) (by decide) (fun _ _ _ h => h) (by rfl) ?_ (by assumption) ?_
  rotate_left
  · intro w'
    go_simp
    try with_reducible rfl
  try simp only [Act.put, List.setIfInBounds_toArray, List.set_cons_zero, List.set_cons_succ]
  refine pickL (v := .agg #[.int .i64 2, .int .i64 2, .int .u64 3, .int .i64 1, .int .u64 0]) 10 (some 33) rfl rfl (by kernel_rfl) (by kernel_rfl) (by kernel_rfl) (by decide) (by kernel_rfl) (by kernel_rfl) (fun _ _ _ h => h) (by rfl) ?_ (by assumption) ?_
  · intro w' hSw
    obtain ⟨u0, u1, u2⟩ := hSw
    have f0 := u0.cell 0
    have f1 := u0.cell 1
    have f2 := u0.cell 2
    have f3 := u0.cell 3
    have f4 := u0.cell 4
    simp at f0 f1 f2 f3 f4
    go_simp
  try simp only [Act.put, List.setIfInBounds_toArray, List.set_cons_zero, List.set_cons_succ]
  refine pickA (v := ?_) 11 (some 34) rfl rfl (by kernel_rfl) (by kernel_rfl) (by kernel_rfl) (by decide) (fun _ _ _ h => h) (by rfl) ?_ (by assumption) ?_
  rotate_left
  · intro w'
    go_simp
    try with_reducible rfl
  try simp only [Act.put, List.setIfInBounds_toArray, List.set_cons_zero, List.set_cons_succ]
  refine pickA (v := ?_) 12 (some 35) rfl rfl (by kernel_rfl) (by kernel_rfl) (by kernel_rfl) (by decide) (fun _ _ _ h => h) (by rfl) ?_ (by assumption) ?_
  rotate_left
  · intro w'
    go_simp
    try with_reducible rfl
  try simp only [Act.put, List.setIfInBounds_toArray, List.set_cons_zero, List.set_cons_succ]
  refine pickL (v := .agg #[.int .i64 4, .int .i64 2, .int .u64 9, .int .i64 1, .int .u64 0]) 13 (some 36) rfl rfl (by kernel_rfl) (by kernel_rfl) (by kernel_rfl) (by decide) (by kernel_rfl) (by kernel_rfl) (fun _ _ _ h => h) (by rfl) ?_ (by assumption) ?_
  · intro w' hSw
    obtain ⟨u0, u1, u2⟩ := hSw
    have f0 := u0.cell 10
    have f1 := u0.cell 11
    have f2 := u0.cell 12
    have f3 := u0.cell 13
    have f4 := u0.cell 14
    simp at f0 f1 f2 f3 f4
    go_simp
  try simp only [Act.put, List.setIfInBounds_toArray, List.set_cons_zero, List.set_cons_succ]
  refine oneL (i := 14) (by kernel_rfl) rfl (fun K hK => ?_)
  go_simp
  have b7 := (Below.refl WD.heap.size WD).alloc (Nat.le_refl _) (.cells #[.int .i64 2, .int .i64 2, .int .u64 3, .int .i64 1, .int .u64 0, .int .i64 4, .int .i64 2, .int .u64 9, .int .i64 1, .int .u64 0] 30)
  have Cb := hide (IsB.new WD #[.int .i64 2, .int .i64 2, .int .u64 3, .int .i64 1, .int .u64 0, .int .i64 4, .int .i64 2, .int .u64 9, .int .i64 1, .int .u64 0] 30)
  replace V3 := hide (V3.out.below b7)
  replace Nb := hide (Nb.out.below b7)
  replace Xb := hide (Xb.out.below b7)
  replace Yb := hide (Yb.out.below b7)
  replace B := hide (B.out.trans (b7.mono B.out.size))
  clear b7
  refine hK.out _ _ ?_ ?_
  · exact ⟨Nb.out, Xb.out, Yb.out⟩
  clear hK K
  try simp only [Act.put, List.setIfInBounds_toArray, List.set_cons_zero, List.set_cons_succ]
  generalize WD.alloc (.cells #[.int .i64 2, .int .i64 2, .int .u64 3, .int .i64 1, .int .u64 0, .int .i64 4, .int .i64 2, .int .u64 9, .int .i64 1, .int .u64 0] 30) = W7 at *
  generalize WD.heap.size = CB at Cb ⊢
  clear hHeld
  have hHeld : (fun w' => IsB w' N #[.int .i64 2, .int .i64 2, .int .u64 3, .int .i64 1, .int .u64 0, .int .i64 3, .int .i64 2, .int .u64 5, .int .i64 1, .int .u64 1, .int .i64 4, .int .i64 2, .int .u64 9, .int .i64 1, .int .u64 0] 30 ∧ IsB w' XB #[.int .i64 2, .int .i64 2, .int .u64 3, .int .i64 1, .int .u64 0] 30 ∧ IsB w' (XB + 1) #[.int .i64 3, .int .i64 2, .int .u64 5, .int .i64 1, .int .u64 1] 30) W7 := ⟨Nb.out, Xb.out, Yb.out⟩
  have SY := hide (same_yes (.slice va 2 vc) (.slice (some ⟨CB, 0, none⟩) 2 2) [⟨2, 2, 3, 1, 0⟩, ⟨4, 2, 9, 1, 0⟩] (by simp) W7 V3.out (Or.inr ⟨CB, 0, 2, rfl, by simp, by unfold maxLen; omega, Cb.out.lt, fun j u hu => by rw [Nat.zero_add, Cb.out.cell j, ← hu]; simp [rfs]⟩))
  refine oneL (i := 15) (by kernel_rfl) rfl (fun K hK => ?_)
  go_simp
  refine SY.out.mono ?_
  rintro e w8 ⟨rfl, hb⟩
  replace Nb := hide (Nb.out.below hb)
  replace Xb := hide (Xb.out.below hb)
  replace Yb := hide (Yb.out.below hb)
  replace B := hide (B.out.trans (hb.mono B.out.size))
  clear hb SY
  refine hK.out _ _ ?_ ?_
  · exact ⟨Nb.out, Xb.out, Yb.out⟩
  clear hK K
  try simp only [Act.put, List.setIfInBounds_toArray, List.set_cons_zero, List.set_cons_succ]
  clear hHeld
  have hHeld : (fun w' => IsB w' N #[.int .i64 2, .int .i64 2, .int .u64 3, .int .i64 1, .int .u64 0, .int .i64 3, .int .i64 2, .int .u64 5, .int .i64 1, .int .u64 1, .int .i64 4, .int .i64 2, .int .u64 9, .int .i64 1, .int .u64 0] 30 ∧ IsB w' XB #[.int .i64 2, .int .i64 2, .int .u64 3, .int .i64 1, .int .u64 0] 30 ∧ IsB w' (XB + 1) #[.int .i64 3, .int .i64 2, .int .u64 5, .int .i64 1, .int .u64 1] 30) w8 := ⟨Nb.out, Xb.out, Yb.out⟩
  refine pickA (v := ?_) 16 (some 39) rfl rfl (by kernel_rfl) (by kernel_rfl) (by kernel_rfl) (by decide) (fun _ _ _ h => h) (by rfl) ?_ (by assumption) ?_
  rotate_left
  · intro w'
    go_simp
    try with_reducible rfl
  try simp only [Act.put, List.setIfInBounds_toArray, List.set_cons_zero, List.set_cons_succ]
  refine pickA (v := ?_) 17 (some 40) rfl rfl (by kernel_rfl) (by kernel_rfl) (by kernel_rfl) (by decide) (fun _ _ _ h => h) (by rfl) ?_ (by assumption) ?_
  rotate_left
  · intro w'
    go_simp
    try with_reducible rfl
  try simp only [Act.put, List.setIfInBounds_toArray, List.set_cons_zero, List.set_cons_succ]
  refine pickA (v := ?_) 18 (some 41) rfl rfl (by kernel_rfl) (by kernel_rfl) (by kernel_rfl) (by decide) (fun _ _ _ h => h) (by rfl) ?_ (by assumption) ?_
  rotate_left
  · intro w'
    go_simp
    try with_reducible rfl
  try simp only [Act.put, List.setIfInBounds_toArray, List.set_cons_zero, List.set_cons_succ]
  refine pickA (v := ?_) 19 (some 42) rfl rfl (by kernel_rfl) (by kernel_rfl) (by kernel_rfl) (by decide) (fun _ _ _ h => h) (by rfl) ?_ (by assumption) ?_
  rotate_left
  · intro w'
    go_simp
    try with_reducible rfl
  try simp only [Act.put, List.setIfInBounds_toArray, List.set_cons_zero, List.set_cons_succ]
  refine pickA (v := ?_) 20 (some 43) rfl rfl (by kernel_rfl) (by kernel_rfl) (by kernel_rfl) (by decide) (fun _ _ _ h => h) (by rfl) ?_ (by assumption) ?_
  rotate_left
  · intro w'
    go_simp
    try with_reducible rfl
  try simp only [Act.put, List.setIfInBounds_toArray, List.set_cons_zero, List.set_cons_succ]
  refine pickA (v := ?_) 21 (some 44) rfl rfl (by kernel_rfl) (by kernel_rfl) (by kernel_rfl) (by decide) (fun _ _ _ h => h) (by rfl) ?_ (by assumption) ?_
  rotate_left
  · intro w'
    go_simp
    try with_reducible rfl
  try simp only [Act.put, List.setIfInBounds_toArray, List.set_cons_zero, List.set_cons_succ]
  refine pickA (v := ?_) 22 (some 45) rfl rfl (by kernel_rfl) (by kernel_rfl) (by kernel_rfl) (by decide) (fun _ _ _ h => h) (by rfl) ?_ (by assumption) ?_
  rotate_left
  · intro w'
    go_simp
    try with_reducible rfl
  try simp only [Act.put, List.setIfInBounds_toArray, List.set_cons_zero, List.set_cons_succ]
  refine pickL (v := .agg #[.int .i64 2, .int .i64 2, .int .u64 3, .int .i64 1, .int .u64 0]) 23 (some 46) rfl rfl (by kernel_rfl) (by kernel_rfl) (by kernel_rfl) (by decide) (by kernel_rfl) (by kernel_rfl) (fun _ _ _ h => h) (by rfl) ?_ (by assumption) ?_
  · intro w' hSw
    obtain ⟨u0, u1, u2⟩ := hSw
    exact exec_load rfl rfl (load_ref u1 rfl)
  try simp only [Act.put, List.setIfInBounds_toArray, List.set_cons_zero, List.set_cons_succ]
  refine pickA (v := ?_) 24 (some 47) rfl rfl (by kernel_rfl) (by kernel_rfl) (by kernel_rfl) (by decide) (fun _ _ _ h => h) (by rfl) ?_ (by assumption) ?_
  rotate_left
  · intro w'
    go_simp
    try with_reducible rfl
  try simp only [Act.put, List.setIfInBounds_toArray, List.set_cons_zero, List.set_cons_succ]
  refine pickA (v := ?_) 25 (some 48) rfl rfl (by kernel_rfl) (by kernel_rfl) (by kernel_rfl) (by decide) (fun _ _ _ h => h) (by rfl) ?_ (by assumption) ?_
  rotate_left
  · intro w'
    go_simp
    try with_reducible rfl
  try simp only [Act.put, List.setIfInBounds_toArray, List.set_cons_zero, List.set_cons_succ]
  refine pickL (v := .agg #[.int .i64 2, .int .i64 2, .int .u64 3, .int .i64 1, .int .u64 0]) 26 (some 49) rfl rfl (by kernel_rfl) (by kernel_rfl) (by kernel_rfl) (by decide) (by kernel_rfl) (by kernel_rfl) (fun _ _ _ h => h) (by rfl) ?_ (by assumption) ?_
  · intro w' hSw
    obtain ⟨u0, u1, u2⟩ := hSw
    have f0 := u0.cell 0
    have f1 := u0.cell 1
    have f2 := u0.cell 2
    have f3 := u0.cell 3
    have f4 := u0.cell 4
    simp at f0 f1 f2 f3 f4
    go_simp
  try simp only [Act.put, List.setIfInBounds_toArray, List.set_cons_zero, List.set_cons_succ]
  refine pickA (v := .bool true) 27 (some 50) rfl rfl (by kernel_rfl) (by kernel_rfl) (by kernel_rfl) (by decide) (fun _ _ _ h => h) (by rfl) ?_ (by assumption) ?_
  · intro w'
    exact exec_bin rguard rfl rfl rfl (by rw [eqr]; rfl)
  try simp only [Act.put, List.setIfInBounds_toArray, List.set_cons_zero, List.set_cons_succ]
  refine pickA (v := ?_) 28 (some 51) rfl rfl (by kernel_rfl) (by kernel_rfl) (by kernel_rfl) (by decide) (fun _ _ _ h => h) (by rfl) ?_ (by assumption) ?_
  rotate_left
  · intro w'
    go_simp
    try with_reducible rfl
  try simp only [Act.put, List.setIfInBounds_toArray, List.set_cons_zero, List.set_cons_succ]
  refine pickA (v := ?_) 29 (some 52) rfl rfl (by kernel_rfl) (by kernel_rfl) (by kernel_rfl) (by decide) (fun _ _ _ h => h) (by rfl) ?_ (by assumption) ?_
  rotate_left
  · intro w'
    go_simp
    try with_reducible rfl
  try simp only [Act.put, List.setIfInBounds_toArray, List.set_cons_zero, List.set_cons_succ]
  refine pickL (v := .agg #[.int .i64 3, .int .i64 2, .int .u64 5, .int .i64 1, .int .u64 1]) 30 (some 53) rfl rfl (by kernel_rfl) (by kernel_rfl) (by kernel_rfl) (by decide) (by kernel_rfl) (by kernel_rfl) (fun _ _ _ h => h) (by rfl) ?_ (by assumption) ?_
  · intro w' hSw
    obtain ⟨u0, u1, u2⟩ := hSw
    exact exec_load rfl rfl (load_ref u2 rfl)
  try simp only [Act.put, List.setIfInBounds_toArray, List.set_cons_zero, List.set_cons_succ]
  refine pickA (v := ?_) 31 (some 54) rfl rfl (by kernel_rfl) (by kernel_rfl) (by kernel_rfl) (by decide) (fun _ _ _ h => h) (by rfl) ?_ (by assumption) ?_
  rotate_left
  · intro w'
    go_simp
    try with_reducible rfl
  try simp only [Act.put, List.setIfInBounds_toArray, List.set_cons_zero, List.set_cons_succ]
  refine pickA (v := ?_) 32 (some 55) rfl rfl (by kernel_rfl) (by kernel_rfl) (by kernel_rfl) (by decide) (fun _ _ _ h => h) (by rfl) ?_ (by assumption) ?_
  rotate_left
  · intro w'
    go_simp
    try with_reducible rfl
  try simp only [Act.put, List.setIfInBounds_toArray, List.set_cons_zero, List.set_cons_succ]
  refine pickL (v := .agg #[.int .i64 3, .int .i64 2, .int .u64 5, .int .i64 1, .int .u64 1]) 33 (some 56) rfl rfl (by kernel_rfl) (by kernel_rfl) (by kernel_rfl) (by decide) (by kernel_rfl) (by kernel_rfl) (fun _ _ _ h => h) (by rfl) ?_ (by assumption) ?_
  · intro w' hSw
    obtain ⟨u0, u1, u2⟩ := hSw
    have f0 := u0.cell 5
    have f1 := u0.cell 6
    have f2 := u0.cell 7
    have f3 := u0.cell 8
    have f4 := u0.cell 9
    simp at f0 f1 f2 f3 f4
    go_simp
  try simp only [Act.put, List.setIfInBounds_toArray, List.set_cons_zero, List.set_cons_succ]
  refine pickA (v := .bool true) 34 (some 57) rfl rfl (by kernel_rfl) (by kernel_rfl) (by kernel_rfl) (by decide) (fun _ _ _ h => h) (by rfl) ?_ (by assumption) ?_
  · intro w'
    exact exec_bin rguard rfl rfl rfl (by rw [eqr]; rfl)
  try simp only [Act.put, List.setIfInBounds_toArray, List.set_cons_zero, List.set_cons_succ]
  refine pickA (v := ?_) 35 (some 58) rfl rfl (by kernel_rfl) (by kernel_rfl) (by kernel_rfl) (by decide) (fun _ _ _ h => h) (by rfl) ?_ (by assumption) ?_
  rotate_left
  · intro w'
    go_simp
    try with_reducible rfl
  try simp only [Act.put, List.setIfInBounds_toArray, List.set_cons_zero, List.set_cons_succ]
  refine pickA (v := ?_) 36 (some 0) rfl rfl (by kernel_rfl) (by kernel_rfl) (by kernel_rfl) (by decide) (fun _ _ _ h => h) (by rfl) ?_ (by assumption) ?_
  rotate_left
  · intro w'
    go_simp
    try with_reducible rfl
  try simp only [Act.put, List.setIfInBounds_toArray, List.set_cons_zero]
  refine doneL (by kernel_rfl) ?_ _
  clear hHeld
  go_wp2
  go_ret
  exact ⟨rfl, B.out⟩

end Go.Proofs.YtfcmmchppcffmaaDoor
