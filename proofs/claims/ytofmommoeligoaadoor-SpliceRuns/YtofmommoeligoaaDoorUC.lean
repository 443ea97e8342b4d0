/- The document's splice in memory; its then, free, end. -/
import Derived.Test.YtofmommoeligoaaDoorTW
namespace Go.Proofs.YtofmommoeligoaaDoor
open Go.RowKit Go.Maps Go.ChangeMaps

section
variable {w : World} {d : Nat} {D : Ds} (I : IsB w d (dsL D).toArray 94)
include I
theorem dl_w : (Instr.loadAt 24 (.pointer (some ⟨d, 0, none⟩))).run Tryd.prog w = .ok (.agg #[.int .i64 (D.wl), .int .u64 (D.wb)]) w := load_mid I 0 _ [.int .i64 D.wl, .int .u64 D.wb] _ rfl Tryd.underlying24 rfl (by kernel_rfl)
theorem dl_me : (Instr.loadAt 29 (.pointer (some ⟨d, 2, none⟩))).run Tryd.prog w = .ok (.agg D.me.cells) w := load_mid I 2 _ D.me.cs _ rfl Tryd.underlying29 rfl (by kernel_rfl)
theorem dl_mek : (Instr.loadAt 27 (.pointer (some ⟨d, 3, none⟩))).run Tryd.prog w = .ok (.agg #[.int .i64 (D.me.rk), .int .u64 (D.me.kn)]) w := load_mid I 3 _ [.int .i64 D.me.rk, .int .u64 D.me.kn] _ rfl Tryd.underlying27 rfl (by kernel_rfl)
theorem dl_p : (Instr.loadAt 29 (.pointer (some ⟨d, 16, none⟩))).run Tryd.prog w = .ok (.agg D.p.cells) w := load_mid I 16 _ D.p.cs _ rfl Tryd.underlying29 rfl (by kernel_rfl)
theorem dl_pk : (Instr.loadAt 27 (.pointer (some ⟨d, 17, none⟩))).run Tryd.prog w = .ok (.agg #[.int .i64 (D.p.rk), .int .u64 (D.p.kn)]) w := load_mid I 17 _ [.int .i64 D.p.rk, .int .u64 D.p.kn] _ rfl Tryd.underlying27 rfl (by kernel_rfl)
theorem dl_la : (Instr.loadAt 29 (.pointer (some ⟨d, 21, none⟩))).run Tryd.prog w = .ok (.agg D.la.cells) w := load_mid I 21 _ D.la.cs _ rfl Tryd.underlying29 rfl (by kernel_rfl)
theorem dl_lak : (Instr.loadAt 27 (.pointer (some ⟨d, 22, none⟩))).run Tryd.prog w = .ok (.agg #[.int .i64 (D.la.rk), .int .u64 (D.la.kn)]) w := load_mid I 22 _ [.int .i64 D.la.rk, .int .u64 D.la.kn] _ rfl Tryd.underlying27 rfl (by kernel_rfl)
theorem dl_r : (Instr.loadAt 29 (.pointer (some ⟨d, 27, none⟩))).run Tryd.prog w = .ok (.agg D.r.cells) w := load_mid I 27 _ D.r.cs _ rfl Tryd.underlying29 rfl (by kernel_rfl)
theorem dl_rk : (Instr.loadAt 27 (.pointer (some ⟨d, 28, none⟩))).run Tryd.prog w = .ok (.agg #[.int .i64 (D.r.rk), .int .u64 (D.r.kn)]) w := load_mid I 28 _ [.int .i64 D.r.rk, .int .u64 D.r.kn] _ rfl Tryd.underlying27 rfl (by kernel_rfl)
theorem dl_owner : (Instr.loadAt 31 (.pointer (some ⟨d, 12, none⟩))).run Tryd.prog w = .ok (.agg #[.int .i64 D.oa, .int .i64 D.oo]) w := load_mid I 12 _ [.int .i64 D.oa, .int .i64 D.oo] _ rfl Tryd.underlying31 rfl (by kernel_rfl)
theorem dl_res : (Instr.loadAt 51 (.pointer (some ⟨d, 33, none⟩))).run Tryd.prog w = .ok (.agg (rsL D.e D.rl D.rr).toArray) w := load_mid I 33 _ (rsL D.e D.rl D.rr) _ rfl Tryd.underlying51 rfl (by kernel_rfl)
theorem dc_wl : w.cell? ⟨d, 0, none⟩ = some (.int .i64 D.wl) := I.cell 0
theorem dc_meid : w.cell? ⟨d, 2, none⟩ = some (.int .i64 D.me.id) := I.cell 2
theorem dc_st : w.cell? ⟨d, 14, none⟩ = some (.int .i64 D.st) := I.cell 14
theorem dc_th : w.cell? ⟨d, 15, none⟩ = some (.int .i64 D.th) := I.cell 15
theorem dc_has : w.cell? ⟨d, 26, none⟩ = some (.bool D.has) := I.cell 26
theorem dc_pd : w.cell? ⟨d, 32, none⟩ = some (.bool D.pd) := I.cell 32
theorem ds_p (r : Rf) : ∃ w', (Instr.storeAt 29 (.pointer (some ⟨d, 16, none⟩)) (.agg r.cells)).run Tryd.prog w = .ok () w' ∧ IsB w' d (dsL { D with p := r }).toArray 94 ∧ Kp [d] w w' :=
  store_mid I 16 _ r.cs (by simp [dsL, Rf.cs]) (by kernel_rfl) (by simp [Rf.cs, Value.oneCell'])
theorem ds_la (r : Rf) : ∃ w', (Instr.storeAt 29 (.pointer (some ⟨d, 21, none⟩)) (.agg r.cells)).run Tryd.prog w = .ok () w' ∧ IsB w' d (dsL { D with la := r }).toArray 94 ∧ Kp [d] w w' :=
  store_mid I 21 _ r.cs (by simp [dsL, Rf.cs]) (by kernel_rfl) (by simp [Rf.cs, Value.oneCell'])
theorem ds_r (r : Rf) : ∃ w', (Instr.storeAt 29 (.pointer (some ⟨d, 27, none⟩)) (.agg r.cells)).run Tryd.prog w = .ok () w' ∧ IsB w' d (dsL { D with r := r }).toArray 94 ∧ Kp [d] w w' :=
  store_mid I 27 _ r.cs (by simp [dsL, Rf.cs]) (by kernel_rfl) (by simp [Rf.cs, Value.oneCell'])
theorem ds_rl (r : Rf) : ∃ w', (Instr.storeAt 29 (.pointer (some ⟨d, 37, none⟩)) (.agg r.cells)).run Tryd.prog w = .ok () w' ∧ IsB w' d (dsL { D with rl := r }).toArray 94 ∧ Kp [d] w w' :=
  store_mid I 37 _ r.cs (by simp [dsL, Rf.cs]) (by kernel_rfl) (by simp [Rf.cs, Value.oneCell'])
theorem ds_rr (r : Rf) : ∃ w', (Instr.storeAt 29 (.pointer (some ⟨d, 42, none⟩)) (.agg r.cells)).run Tryd.prog w = .ok () w' ∧ IsB w' d (dsL { D with rr := r }).toArray 94 ∧ Kp [d] w w' :=
  store_mid I 42 _ r.cs (by simp [dsL, Rf.cs]) (by kernel_rfl) (by simp [Rf.cs, Value.oneCell'])
theorem ds_res (e : Int) (l r : Rf) : ∃ w', (Instr.storeAt 51 (.pointer (some ⟨d, 33, none⟩)) (.agg (rsL e l r).toArray)).run Tryd.prog w = .ok () w' ∧ IsB w' d (dsL { D with e := e, rl := l, rr := r }).toArray 94 ∧ Kp [d] w w' :=
  store_mid I 33 _ (rsL e l r) (by simp [dsL, rsL]) (by kernel_rfl) (by simp [rsL, Value.oneCell'])
theorem ds_st (k : Int) : ∃ w', (Instr.storeAt 3 (.pointer (some ⟨d, 14, none⟩)) (.int .i64 k)).run Tryd.prog w = .ok () w' ∧ IsB w' d (dsL { D with st := k }).toArray 94 ∧ Kp [d] w w' :=
  store_one I 14 _ (.int .i64 k) (by simp [dsL]) (by kernel_rfl) rfl rfl
theorem ds_th (k : Int) : ∃ w', (Instr.storeAt 3 (.pointer (some ⟨d, 15, none⟩)) (.int .i64 k)).run Tryd.prog w = .ok () w' ∧ IsB w' d (dsL { D with th := k }).toArray 94 ∧ Kp [d] w w' :=
  store_one I 15 _ (.int .i64 k) (by simp [dsL]) (by kernel_rfl) rfl rfl
theorem ds_has (f : Bool) : ∃ w', (Instr.storeAt 4 (.pointer (some ⟨d, 26, none⟩)) (.bool f)).run Tryd.prog w = .ok () w' ∧ IsB w' d (dsL { D with has := f }).toArray 94 ∧ Kp [d] w w' :=
  store_one I 26 _ (.bool f) (by simp [dsL]) (by kernel_rfl) rfl rfl
theorem ds_pd (f : Bool) : ∃ w', (Instr.storeAt 4 (.pointer (some ⟨d, 32, none⟩)) (.bool f)).run Tryd.prog w = .ok () w' ∧ IsB w' d (dsL { D with pd := f }).toArray 94 ∧ Kp [d] w w' :=
  store_one I 32 _ (.bool f) (by simp [dsL]) (by kernel_rfl) rfl rfl
end

/-- What comes behind Free, or behind a wait. -/
def Ds.go (D : Ds) : Ds := if D.th = 3 then { D with st := 11 } else if D.th = 2 then { D with st := 10, th := 1 } else if D.th = 4 then { D with la := D.p, has := true, p := D.r, st := 1 } else if D.th = 5 then { D with p := D.la, has := false, st := 1 } else { D with st := 1 }

set_option maxHeartbeats 2000000 in
set_option maxRecDepth 100000 in
theorem go_3 (d : Nat) (D : Ds) (ht : D.th = 3) (w : World) (I : IsB w d (dsL D).toArray 94) : Calls Tryd.prog 37 #[.pointer (some ⟨d, 0, none⟩)] w fun e' w' => e' = .returned (.tuple #[]) ∧ IsB w' d (dsL ({ D with st := 11 })).toArray 94 ∧ Kp [d] w w' := by
  have y15 := dc_th I
  rw [ht] at y15
  clear ht
  obtain ⟨w2, hs2, I2, k2⟩ := ds_st I 11
  have HS2 := hide hs2
  have F := hide I2
  have KF := hide k2
  clear hs2 I2 k2 I
  go_enter Tryd.func37, Tryd.ntmps37
  go_wp2_with (first | (focus ((with_reducible refine wpList_store_w ?_ 3 (.tmp 13) (.const (.int .i64 11)) ?_ ?_ ?_ HS2.out ?_); rotate_left; rfl; rfl; rfl; rotate_left; rfl)))
  refine bodyPost_end (results_none rfl _ _ _) rfl ?_
  exact ⟨rfl, F.out, KF.out⟩

set_option maxHeartbeats 2000000 in
set_option maxRecDepth 100000 in
theorem go_2 (d : Nat) (D : Ds) (ht : D.th = 2) (w : World) (I : IsB w d (dsL D).toArray 94) : Calls Tryd.prog 37 #[.pointer (some ⟨d, 0, none⟩)] w fun e' w' => e' = .returned (.tuple #[]) ∧ IsB w' d (dsL ({ D with st := 10, th := 1 })).toArray 94 ∧ Kp [d] w w' := by
  have y15 := dc_th I
  rw [ht] at y15
  clear ht
  obtain ⟨w2, hs2, I2, k2⟩ := ds_st I 10
  have HS2 := hide hs2
  obtain ⟨w3, hs3, I3, k3⟩ := ds_th I2 1
  have HS3 := hide hs3
  have F := hide I3
  have KF := hide (k2.tr k3)
  clear hs2 I2 k2 hs3 I3 k3 I
  go_enter Tryd.func37, Tryd.ntmps37
  go_wp2_with (first | (focus ((with_reducible refine wpList_store_w ?_ 3 (.tmp 19) (.const (.int .i64 10)) ?_ ?_ ?_ HS2.out ?_); rotate_left; rfl; rfl; rfl; rotate_left; rfl)) | (focus ((with_reducible refine wpList_store_w ?_ 3 (.tmp 21) (.const (.int .i64 1)) ?_ ?_ ?_ HS3.out ?_); rotate_left; rfl; rfl; rfl; rotate_left; rfl)))
  refine bodyPost_end (results_none rfl _ _ _) rfl ?_
  exact ⟨rfl, F.out, KF.out⟩

set_option maxHeartbeats 2000000 in
set_option maxRecDepth 100000 in
theorem go_5 (d : Nat) (D : Ds) (ht : D.th = 5) (w : World) (I : IsB w d (dsL D).toArray 94) : Calls Tryd.prog 37 #[.pointer (some ⟨d, 0, none⟩)] w fun e' w' => e' = .returned (.tuple #[]) ∧ IsB w' d (dsL ({ D with p := D.la, has := false, st := 1 })).toArray 94 ∧ Kp [d] w w' := by
  have y15 := dc_th I
  rw [ht] at y15
  clear ht
  have LL := hide (dl_la I)
  obtain ⟨w2, hs2, I2, k2⟩ := ds_p I D.la
  have HS2 := hide hs2
  obtain ⟨w3, hs3, I3, k3⟩ := ds_has I2 false
  have HS3 := hide hs3
  obtain ⟨w4, hs4, I4, k4⟩ := ds_st I3 1
  have HS4 := hide hs4
  have F := hide I4
  have KF := hide (k2.tr (k3.tr k4))
  clear hs2 I2 k2 hs3 I3 k3 hs4 I4 k4 I
  go_enter Tryd.func37, Tryd.ntmps37
  go_wp2_with (first | (focus ((with_reducible refine wpList_load_w ?_ 29 (.tmp 50) ?_ ?_ LL.out ?_); rotate_left; rfl; rfl; rotate_left; rfl)) | (focus ((with_reducible refine wpList_store_w ?_ 29 (.tmp 53) (.tmp 51) ?_ ?_ ?_ HS2.out ?_); rotate_left; rfl; rfl; rfl; rotate_left; rfl)) | (focus ((with_reducible refine wpList_store_w ?_ 4 (.tmp 55) (.const (.bool false)) ?_ ?_ ?_ HS3.out ?_); rotate_left; rfl; rfl; rfl; rotate_left; rfl)) | (focus ((with_reducible refine wpList_store_w ?_ 3 (.tmp 58) (.const (.int .i64 1)) ?_ ?_ ?_ HS4.out ?_); rotate_left; rfl; rfl; rfl; rotate_left; rfl)))
  refine bodyPost_end (results_none rfl _ _ _) rfl ?_
  exact ⟨rfl, F.out, KF.out⟩

set_option maxHeartbeats 2000000 in
set_option maxRecDepth 100000 in
theorem go_1 (d : Nat) (D : Ds) (ht : D.th = 1) (w : World) (I : IsB w d (dsL D).toArray 94) : Calls Tryd.prog 37 #[.pointer (some ⟨d, 0, none⟩)] w fun e' w' => e' = .returned (.tuple #[]) ∧ IsB w' d (dsL ({ D with st := 1 })).toArray 94 ∧ Kp [d] w w' := by
  have y15 := dc_th I
  rw [ht] at y15
  clear ht
  obtain ⟨w2, hs2, I2, k2⟩ := ds_st I 1
  have HS2 := hide hs2
  have F := hide I2
  have KF := hide k2
  clear hs2 I2 k2 I
  go_enter Tryd.func37, Tryd.ntmps37
  go_wp2_with (first | (focus ((with_reducible refine wpList_store_w ?_ 3 (.tmp 8) (.const (.int .i64 1)) ?_ ?_ ?_ HS2.out ?_); rotate_left; rfl; rfl; rfl; rotate_left; rfl)))
  refine bodyPost_end (results_none rfl _ _ _) rfl ?_
  exact ⟨rfl, F.out, KF.out⟩

set_option maxHeartbeats 2000000 in
set_option maxRecDepth 100000 in
theorem go_4 (d : Nat) (D : Ds) (ht : D.th = 4) (w : World) (I : IsB w d (dsL D).toArray 94) : Calls Tryd.prog 37 #[.pointer (some ⟨d, 0, none⟩)] w fun e' w' => e' = .returned (.tuple #[]) ∧ IsB w' d (dsL ({ D with la := D.p, has := true, p := D.r, st := 1 })).toArray 94 ∧ Kp [d] w w' := by
  have mixed : Tryd.prog.follows .mixedOrders = true := by kernel_rfl
  have y15 := dc_th I
  rw [ht] at y15
  clear ht
  have ID := hide (I.below ((Below.refl _ _).drew))
  have kd : Kp [d] w w.drew := (Kp.refl _ _).drew
  obtain ⟨w2, hs2, I2, k2⟩ := ds_la ID.out D.p
  have HS2 := hide hs2
  obtain ⟨w3, hs3, I3, k3⟩ := ds_has I2 true
  have HS3 := hide hs3
  obtain ⟨w4, hs4, I4, k4⟩ := ds_p I3 D.r
  have HS4 := hide hs4
  obtain ⟨w5, hs5, I5, k5⟩ := ds_st I4 1
  have HS5 := hide hs5
  have F := hide I5
  have KF := hide (kd.tr (k2.tr (k3.tr (k4.tr k5))))
  have P2 := hide (dl_p I2)
  have R2 := hide (dl_r I2)
  have P3 := hide (dl_p I3)
  have R3 := hide (dl_r I3)
  have PD0 := hide (dl_p ID.out)
  have RD0 := hide (dl_r ID.out)
  clear hs2 hs3 hs4 hs5 k2 k3 k4 k5 kd I2 I3 I4 I5 I
  go_enter Tryd.func37, Tryd.ntmps37
  go_wp2_with fail
  refine regionL 19 (fun w' => (Instr.loadAt 29 (.pointer (some ⟨d, 16, none⟩))).run Tryd.prog w' = .ok (.agg D.p.cells) w' ∧ (Instr.loadAt 29 (.pointer (some ⟨d, 27, none⟩))).run Tryd.prog w' = .ok (.agg D.r.cells) w') mixed ⟨PD0.out, RD0.out⟩ (fun hHeld => ?_)
  generalize w.drew = WD at *
  refine pickA (v := ?_) 0 (some 24) rfl rfl (by kernel_rfl) (by kernel_rfl) (by kernel_rfl) (by decide) (fun _ _ _ h => h) (by rfl) ?_ (by assumption) ?_
  rotate_left
  · intro w'
    go_simp
    try with_reducible rfl
  try simp only [Act.put, List.setIfInBounds_toArray, List.set_cons_zero, List.set_cons_succ]
  refine pickA (v := ?_) 1 (some 25) rfl rfl (by kernel_rfl) (by kernel_rfl) (by kernel_rfl) (by decide) (fun _ _ _ h => h) (by rfl) ?_ (by assumption) ?_
  rotate_left
  · intro w'
    go_simp
    try with_reducible rfl
  try simp only [Act.put, List.setIfInBounds_toArray, List.set_cons_zero, List.set_cons_succ]
  refine pickA (v := ?_) 2 (some 26) rfl rfl (by kernel_rfl) (by kernel_rfl) (by kernel_rfl) (by decide) (fun _ _ _ h => h) (by rfl) ?_ (by assumption) ?_
  rotate_left
  · intro w'
    go_simp
    try with_reducible rfl
  try simp only [Act.put, List.setIfInBounds_toArray, List.set_cons_zero, List.set_cons_succ]
  refine pickA (v := ?_) 3 (some 27) rfl rfl (by kernel_rfl) (by kernel_rfl) (by kernel_rfl) (by decide) (fun _ _ _ h => h) (by rfl) ?_ (by assumption) ?_
  rotate_left
  · intro w'
    go_simp
    try with_reducible rfl
  try simp only [Act.put, List.setIfInBounds_toArray, List.set_cons_zero, List.set_cons_succ]
  refine pickA (v := ?_) 4 (some 28) rfl rfl (by kernel_rfl) (by kernel_rfl) (by kernel_rfl) (by decide) (fun _ _ _ h => h) (by rfl) ?_ (by assumption) ?_
  rotate_left
  · intro w'
    go_simp
    try with_reducible rfl
  try simp only [Act.put, List.setIfInBounds_toArray, List.set_cons_zero, List.set_cons_succ]
  refine pickA (v := ?_) 5 (some 29) rfl rfl (by kernel_rfl) (by kernel_rfl) (by kernel_rfl) (by decide) (fun _ _ _ h => h) (by rfl) ?_ (by assumption) ?_
  rotate_left
  · intro w'
    go_simp
    try with_reducible rfl
  try simp only [Act.put, List.setIfInBounds_toArray, List.set_cons_zero, List.set_cons_succ]
  refine pickL (v := .agg D.p.cells) 6 (some 30) rfl rfl (by kernel_rfl) (by kernel_rfl) (by kernel_rfl) (by decide) (by kernel_rfl) (by kernel_rfl) (fun _ _ _ h => h) (by rfl) ?_ (by assumption) ?_
  · intro w' hSw
    obtain ⟨q0, q1⟩ := hSw
    exact exec_load rfl rfl q0
  try simp only [Act.put, List.setIfInBounds_toArray, List.set_cons_zero, List.set_cons_succ]
  refine pickA (v := ?_) 7 (some 31) rfl rfl (by kernel_rfl) (by kernel_rfl) (by kernel_rfl) (by decide) (fun _ _ _ h => h) (by rfl) ?_ (by assumption) ?_
  rotate_left
  · intro w'
    go_simp
    try with_reducible rfl
  try simp only [Act.put, List.setIfInBounds_toArray, List.set_cons_zero, List.set_cons_succ]
  refine pickA (v := ?_) 8 (some 32) rfl rfl (by kernel_rfl) (by kernel_rfl) (by kernel_rfl) (by decide) (fun _ _ _ h => h) (by rfl) ?_ (by assumption) ?_
  rotate_left
  · intro w'
    go_simp
    try with_reducible rfl
  try simp only [Act.put, List.setIfInBounds_toArray, List.set_cons_zero, List.set_cons_succ]
  refine pickA (v := ?_) 9 (some 33) rfl rfl (by kernel_rfl) (by kernel_rfl) (by kernel_rfl) (by decide) (fun _ _ _ h => h) (by rfl) ?_ (by assumption) ?_
  rotate_left
  · intro w'
    go_simp
    try with_reducible rfl
  try simp only [Act.put, List.setIfInBounds_toArray, List.set_cons_zero, List.set_cons_succ]
  refine pickL (v := .agg D.r.cells) 10 (some 34) rfl rfl (by kernel_rfl) (by kernel_rfl) (by kernel_rfl) (by decide) (by kernel_rfl) (by kernel_rfl) (fun _ _ _ h => h) (by rfl) ?_ (by assumption) ?_
  · intro w' hSw
    obtain ⟨q0, q1⟩ := hSw
    exact exec_load rfl rfl q1
  try simp only [Act.put, List.setIfInBounds_toArray, List.set_cons_zero, List.set_cons_succ]
  refine pickA (v := ?_) 11 (some 35) rfl rfl (by kernel_rfl) (by kernel_rfl) (by kernel_rfl) (by decide) (fun _ _ _ h => h) (by rfl) ?_ (by assumption) ?_
  rotate_left
  · intro w'
    go_simp
    try with_reducible rfl
  try simp only [Act.put, List.setIfInBounds_toArray, List.set_cons_zero, List.set_cons_succ]
  refine pickA (v := ?_) 12 (some 36) rfl rfl (by kernel_rfl) (by kernel_rfl) (by kernel_rfl) (by decide) (fun _ _ _ h => h) (by rfl) ?_ (by assumption) ?_
  rotate_left
  · intro w'
    go_simp
    try with_reducible rfl
  try simp only [Act.put, List.setIfInBounds_toArray, List.set_cons_zero, List.set_cons_succ]
  refine oneL (i := 13) (by kernel_rfl) rfl (fun K hK => ?_)
  refine step_store_w rfl 29 (.tmp 36) (.tmp 30) rfl rfl rfl HS2.out ?_
  refine hK.out _ _ ?_ ?_
  · exact ⟨P2.out, R2.out⟩
  clear hK K
  try simp only [Act.put, List.setIfInBounds_toArray]
  clear hHeld
  have hHeld : (fun w' => (Instr.loadAt 29 (.pointer (some ⟨d, 16, none⟩))).run Tryd.prog w' = .ok (.agg D.p.cells) w' ∧ (Instr.loadAt 29 (.pointer (some ⟨d, 27, none⟩))).run Tryd.prog w' = .ok (.agg D.r.cells) w') w2 := ⟨P2.out, R2.out⟩
  refine pickA (v := ?_) 14 (some 37) rfl rfl (by kernel_rfl) (by kernel_rfl) (by kernel_rfl) (by decide) (fun _ _ _ h => h) (by rfl) ?_ (by assumption) ?_
  rotate_left
  · intro w'
    go_simp
    try with_reducible rfl
  try simp only [Act.put]
  refine pickA (v := ?_) 15 (some 38) rfl rfl (by kernel_rfl) (by kernel_rfl) (by kernel_rfl) (by decide) (fun _ _ _ h => h) (by rfl) ?_ (by assumption) ?_
  rotate_left
  · intro w'
    go_simp
    try with_reducible rfl
  try simp only [Act.put]
  refine oneL (i := 16) (by kernel_rfl) rfl (fun K hK => ?_)
  refine step_store_w rfl 4 (.tmp 38) (.const (.bool true)) rfl rfl rfl HS3.out ?_
  refine hK.out _ _ ?_ ?_
  · exact ⟨P3.out, R3.out⟩
  clear hK K
  try simp only [Act.put]
  clear hHeld
  have hHeld : (fun w' => (Instr.loadAt 29 (.pointer (some ⟨d, 16, none⟩))).run Tryd.prog w' = .ok (.agg D.p.cells) w' ∧ (Instr.loadAt 29 (.pointer (some ⟨d, 27, none⟩))).run Tryd.prog w' = .ok (.agg D.r.cells) w') w3 := ⟨P3.out, R3.out⟩
  refine pickA (v := ?_) 17 (some 39) rfl rfl (by kernel_rfl) (by kernel_rfl) (by kernel_rfl) (by decide) (fun _ _ _ h => h) (by rfl) ?_ (by assumption) ?_
  rotate_left
  · intro w'
    go_simp
    try with_reducible rfl
  try simp only [Act.put]
  refine pickA (v := ?_) 18 (some 40) rfl rfl (by kernel_rfl) (by kernel_rfl) (by kernel_rfl) (by decide) (fun _ _ _ h => h) (by rfl) ?_ (by assumption) ?_
  rotate_left
  · intro w'
    go_simp
    try with_reducible rfl
  try simp only [Act.put]
  refine lateL (i := 19) (by kernel_rfl) rfl (by decide) (by kernel_rfl) (fun K hK => ?_)
  refine step_store_w rfl 29 (.tmp 40) (.tmp 34) rfl rfl rfl HS4.out ?_
  refine hK.out _ _ ?_
  clear hK K
  try simp only [Act.put]
  refine doneL (by kernel_rfl) ?_ _
  clear hHeld
  clear ID
  go_wp2_with (first | (focus ((with_reducible refine wpList_store_w ?_ 3 (.tmp 43) (.const (.int .i64 1)) ?_ ?_ ?_ HS5.out ?_); rotate_left; rfl; rfl; rfl; rotate_left; rfl)))
  refine bodyPost_end (results_none rfl _ _ _) rfl ?_
  exact ⟨rfl, F.out, KF.out⟩

theorem go_any (d : Nat) (D : Ds) (ht : D.th = 1 ∨ D.th = 2 ∨ D.th = 3 ∨ D.th = 4 ∨ D.th = 5) (w : World) (I : IsB w d (dsL D).toArray 94) : Calls Tryd.prog 37 #[.pointer (some ⟨d, 0, none⟩)] w fun e' w' => e' = .returned (.tuple #[]) ∧ IsB w' d (dsL D.go).toArray 94 ∧ Kp [d] w w' := by
  unfold Ds.go
  rcases ht with h | h | h | h | h
  · rw [if_neg (by omega), if_neg (by omega), if_neg (by omega), if_neg (by omega)]; exact go_1 d D h w I
  · rw [if_neg (by omega), if_pos h]; exact go_2 d D h w I
  · rw [if_pos h]; exact go_3 d D h w I
  · rw [if_neg (by omega), if_neg (by omega), if_pos h]; exact go_4 d D h w I
  · rw [if_neg (by omega), if_neg (by omega), if_neg (by omega), if_pos h]; exact go_5 d D h w I

/-- Free, then something. -/
def Ds.free (D : Ds) (h : Int) : Ds := if D.pd = true then ({ D with th := h } : Ds).go else { D with th := h, st := 9 }

set_option maxHeartbeats 2000000 in
set_option maxRecDepth 100000 in
theorem dfree_keep (d : Nat) (D : Ds) (h : Int) (hd : D.pd = false) (w : World) (I : IsB w d (dsL D).toArray 94) : Calls Tryd.prog 47 #[.pointer (some ⟨d, 0, none⟩), .int .i64 h] w fun e' w' => e' = .returned (.tuple #[]) ∧ IsB w' d (dsL ({ D with th := h, st := 9 })).toArray 94 ∧ Kp [d] w w' := by
  obtain ⟨w2, hs2, I2, k2⟩ := ds_th I h
  obtain ⟨w3, hs3, I3, k3⟩ := ds_st I2 9
  have y32 : w2.cell? ⟨d, 32, none⟩ = some (.bool D.pd) := I2.cell 32
  rw [hd] at y32
  have HS2 := hide hs2
  have HS3 := hide hs3
  have F := hide I3
  have KF := hide (k2.tr k3)
  clear hs2 hs3 I2 I3 k2 k3 I hd
  go_enter Tryd.func47, Tryd.ntmps47
  go_wp2_with (first | (focus ((with_reducible refine wpList_store_w ?_ 3 (.tmp 7) (.tmp 5) ?_ ?_ ?_ HS2.out ?_); rotate_left; rfl; rfl; rfl; rotate_left; rfl)) | (focus ((with_reducible refine wpList_store_w ?_ 3 (.tmp 16) (.const (.int .i64 9)) ?_ ?_ ?_ HS3.out ?_); rotate_left; rfl; rfl; rfl; rotate_left; rfl)))
  refine bodyPost_end (results_none rfl _ _ _) rfl ?_
  exact ⟨rfl, F.out, KF.out⟩

set_option maxHeartbeats 2000000 in
set_option maxRecDepth 100000 in
theorem dfree_dead (d : Nat) (D : Ds) (h : Int) (hd : D.pd = true) (hh : h = 2 ∨ h = 3 ∨ h = 4) (w : World) (I : IsB w d (dsL D).toArray 94) : Calls Tryd.prog 47 #[.pointer (some ⟨d, 0, none⟩), .int .i64 h] w fun e' w' => e' = .returned (.tuple #[]) ∧ IsB w' d (dsL (({ D with th := h } : Ds).go)).toArray 94 ∧ Kp [d] w w' := by
  obtain ⟨w2, hs2, I2, k2⟩ := ds_th I h
  have y32 : w2.cell? ⟨d, 32, none⟩ = some (.bool D.pd) := I2.cell 32
  rw [hd] at y32
  have HS2 := hide hs2
  have CT := hide (go_any d { D with th := h } (show h = 1 ∨ h = 2 ∨ h = 3 ∨ h = 4 ∨ h = 5 by omega) w2 I2)
  have K2 := hide k2
  generalize ({ D with th := h } : Ds).go = E at *
  clear hs2 I2 k2 I hd hh
  go_enter Tryd.func47, Tryd.ntmps47
  go_wp2_with (first | (focus ((with_reducible refine wpList_store_w ?_ 3 (.tmp 7) (.tmp 5) ?_ ?_ ?_ HS2.out ?_); rotate_left; rfl; rfl; rfl; rotate_left; rfl)))
  refine CT.out.mono ?_
  rintro e' w6 ⟨rfl, X6, K6⟩
  have F6 := hide X6
  have K7 := hide (K2.out.tr K6)
  clear X6 K6 CT
  go_wp2
  refine bodyPost_ret (results_none rfl _ _ _) rfl ?_
  exact ⟨rfl, F6.out, K7.out⟩

theorem dfree_any (d : Nat) (D : Ds) (h : Int) (hh : h = 2 ∨ h = 3 ∨ h = 4) (w : World) (I : IsB w d (dsL D).toArray 94) : Calls Tryd.prog 47 #[.pointer (some ⟨d, 0, none⟩), .int .i64 h] w fun e' w' => e' = .returned (.tuple #[]) ∧ IsB w' d (dsL (D.free h)).toArray 94 ∧ Kp [d] w w' := by
  unfold Ds.free
  by_cases hd : D.pd = true
  · rw [if_pos hd]; exact dfree_dead d D h hd hh w I
  · rw [if_neg hd]; exact dfree_keep d D h (by simpa using hd) w I

/-- Free, then the end. -/
def Ds.fin (D : Ds) (e : Int) : Ds := if e = 0 ∨ e = 100 then ({ D with e := e, rl := D.p, rr := D.r } : Ds).free 3 else ({ D with e := e, rl := zr, rr := zr } : Ds).free 3

set_option maxHeartbeats 2000000 in
set_option maxRecDepth 100000 in
theorem dend_no (d : Nat) (D : Ds) (e : Int) (h0 : ¬e = 0) (h1 : ¬e = 100) (w : World) (I : IsB w d (dsL D).toArray 94) : Calls Tryd.prog 46 #[.pointer (some ⟨d, 0, none⟩), .int .i64 e] w fun e' w' => e' = .returned (.tuple #[]) ∧ IsB w' d (dsL (({ D with e := e, rl := zr, rr := zr } : Ds).free 3)).toArray 94 ∧ Kp [d] w w' := by
  obtain ⟨w2, hs2, I2, k2⟩ := ds_res I e zr zr
  have HS2 := hide hs2
  have KZ := hide k2
  have CT := hide (dfree_any d { D with e := e, rl := zr, rr := zr } 3 (Or.inr (Or.inl rfl)) w2 I2)
  generalize ({ D with e := e, rl := zr, rr := zr } : Ds).free 3 = E at *
  have e0 : (e == 0) = false := by simpa using h0
  have e1 : (e == 100) = false := by simpa using h1
  clear hs2 I2 k2 I
  go_enter Tryd.func46, Tryd.ntmps46
  go_wp2_with (first | (focus ((with_reducible refine wpList_store_w ?_ 51 (.tmp 8) (.tmp 6) ?_ ?_ ?_ HS2.out ?_); rotate_left; rfl; rfl; rfl; rotate_left; rfl)))
  refine CT.out.mono ?_
  rintro e' w6 ⟨rfl, X6, K6⟩
  have F6 := hide X6
  have K7 := hide (KZ.out.tr K6)
  clear X6 K6 CT
  go_wp2
  refine bodyPost_end (results_none rfl _ _ _) rfl ?_
  exact ⟨rfl, F6.out, K7.out⟩

set_option maxHeartbeats 2000000 in
set_option maxRecDepth 100000 in
theorem dend_0 (d : Nat) (D : Ds)  (w : World) (I : IsB w d (dsL D).toArray 94) : Calls Tryd.prog 46 #[.pointer (some ⟨d, 0, none⟩), .int .i64 0] w fun e' w' => e' = .returned (.tuple #[]) ∧ IsB w' d (dsL (({ D with e := 0, rl := D.p, rr := D.r } : Ds).free 3)).toArray 94 ∧ Kp [d] w w' := by
  have mixed : Tryd.prog.follows .mixedOrders = true := by kernel_rfl
  obtain ⟨w2, hs2, I2, k2⟩ := ds_res I 0 zr zr
  have ID := hide (I2.below ((Below.refl _ _).drew))
  have kd : Kp [d] w2 w2.drew := (Kp.refl _ _).drew
  obtain ⟨w3, hs3, I3, k3⟩ := ds_rl ID.out D.p
  obtain ⟨w4, hs4, I4, k4⟩ := ds_rr I3 D.r
  have HS2 := hide hs2
  have HS3 := hide hs3
  have HS4 := hide hs4
  have P3 := hide (dl_p I3)
  have R3 := hide (dl_r I3)
  have PD0 := hide (dl_p ID.out)
  have RD0 := hide (dl_r ID.out)
  have KZ := hide (k2.tr (kd.tr (k3.tr k4)))
  have CT := hide (dfree_any d { D with e := 0, rl := D.p, rr := D.r } 3 (Or.inr (Or.inl rfl)) w4 I4)
  generalize ({ D with e := 0, rl := D.p, rr := D.r } : Ds).free 3 = E at *
  clear hs2 hs3 hs4 I2 I3 I4 k2 k3 k4 kd I
  go_enter Tryd.func46, Tryd.ntmps46
  go_wp2_with (first | (focus ((with_reducible refine wpList_store_w ?_ 51 (.tmp 8) (.tmp 6) ?_ ?_ ?_ HS2.out ?_); rotate_left; rfl; rfl; rfl; rotate_left; rfl)))
  refine regionL 17 (fun w' => (Instr.loadAt 29 (.pointer (some ⟨d, 16, none⟩))).run Tryd.prog w' = .ok (.agg D.p.cells) w' ∧ (Instr.loadAt 29 (.pointer (some ⟨d, 27, none⟩))).run Tryd.prog w' = .ok (.agg D.r.cells) w') mixed ⟨PD0.out, RD0.out⟩ (fun hHeld => ?_)
  generalize w2.drew = WD at *
  refine pickA (v := ?_) 0 (some 15) rfl rfl (by kernel_rfl) (by kernel_rfl) (by kernel_rfl) (by decide) (fun _ _ _ h => h) (by rfl) ?_ (by assumption) ?_
  rotate_left
  · intro w'
    go_simp
    try with_reducible rfl
  try simp only [Act.put, List.setIfInBounds_toArray, List.set_cons_zero, List.set_cons_succ]
  refine pickA (v := ?_) 1 (some 16) rfl rfl (by kernel_rfl) (by kernel_rfl) (by kernel_rfl) (by decide) (fun _ _ _ h => h) (by rfl) ?_ (by assumption) ?_
  rotate_left
  · intro w'
    go_simp
    try with_reducible rfl
  try simp only [Act.put, List.setIfInBounds_toArray, List.set_cons_zero, List.set_cons_succ]
  refine pickA (v := ?_) 2 (some 17) rfl rfl (by kernel_rfl) (by kernel_rfl) (by kernel_rfl) (by decide) (fun _ _ _ h => h) (by rfl) ?_ (by assumption) ?_
  rotate_left
  · intro w'
    go_simp
    try with_reducible rfl
  try simp only [Act.put, List.setIfInBounds_toArray, List.set_cons_zero, List.set_cons_succ]
  refine pickA (v := ?_) 3 (some 18) rfl rfl (by kernel_rfl) (by kernel_rfl) (by kernel_rfl) (by decide) (fun _ _ _ h => h) (by rfl) ?_ (by assumption) ?_
  rotate_left
  · intro w'
    go_simp
    try with_reducible rfl
  try simp only [Act.put, List.setIfInBounds_toArray, List.set_cons_zero, List.set_cons_succ]
  refine pickA (v := ?_) 4 (some 19) rfl rfl (by kernel_rfl) (by kernel_rfl) (by kernel_rfl) (by decide) (fun _ _ _ h => h) (by rfl) ?_ (by assumption) ?_
  rotate_left
  · intro w'
    go_simp
    try with_reducible rfl
  try simp only [Act.put, List.setIfInBounds_toArray, List.set_cons_zero, List.set_cons_succ]
  refine pickL (v := .agg D.p.cells) 5 (some 20) rfl rfl (by kernel_rfl) (by kernel_rfl) (by kernel_rfl) (by decide) (by kernel_rfl) (by kernel_rfl) (fun _ _ _ h => h) (by rfl) ?_ (by assumption) ?_
  · intro w' hSw
    obtain ⟨q0, q1⟩ := hSw
    exact exec_load rfl rfl q0
  try simp only [Act.put, List.setIfInBounds_toArray, List.set_cons_zero, List.set_cons_succ]
  refine pickA (v := ?_) 6 (some 21) rfl rfl (by kernel_rfl) (by kernel_rfl) (by kernel_rfl) (by decide) (fun _ _ _ h => h) (by rfl) ?_ (by assumption) ?_
  rotate_left
  · intro w'
    go_simp
    try with_reducible rfl
  try simp only [Act.put, List.setIfInBounds_toArray, List.set_cons_zero, List.set_cons_succ]
  refine pickA (v := ?_) 7 (some 22) rfl rfl (by kernel_rfl) (by kernel_rfl) (by kernel_rfl) (by decide) (fun _ _ _ h => h) (by rfl) ?_ (by assumption) ?_
  rotate_left
  · intro w'
    go_simp
    try with_reducible rfl
  try simp only [Act.put, List.setIfInBounds_toArray, List.set_cons_zero, List.set_cons_succ]
  refine pickA (v := ?_) 8 (some 23) rfl rfl (by kernel_rfl) (by kernel_rfl) (by kernel_rfl) (by decide) (fun _ _ _ h => h) (by rfl) ?_ (by assumption) ?_
  rotate_left
  · intro w'
    go_simp
    try with_reducible rfl
  try simp only [Act.put, List.setIfInBounds_toArray, List.set_cons_zero, List.set_cons_succ]
  refine pickL (v := .agg D.r.cells) 9 (some 24) rfl rfl (by kernel_rfl) (by kernel_rfl) (by kernel_rfl) (by decide) (by kernel_rfl) (by kernel_rfl) (fun _ _ _ h => h) (by rfl) ?_ (by assumption) ?_
  · intro w' hSw
    obtain ⟨q0, q1⟩ := hSw
    exact exec_load rfl rfl q1
  try simp only [Act.put, List.setIfInBounds_toArray, List.set_cons_zero, List.set_cons_succ]
  refine pickA (v := ?_) 10 (some 25) rfl rfl (by kernel_rfl) (by kernel_rfl) (by kernel_rfl) (by decide) (fun _ _ _ h => h) (by rfl) ?_ (by assumption) ?_
  rotate_left
  · intro w'
    go_simp
    try with_reducible rfl
  try simp only [Act.put, List.setIfInBounds_toArray, List.set_cons_zero, List.set_cons_succ]
  refine pickA (v := ?_) 11 (some 26) rfl rfl (by kernel_rfl) (by kernel_rfl) (by kernel_rfl) (by decide) (fun _ _ _ h => h) (by rfl) ?_ (by assumption) ?_
  rotate_left
  · intro w'
    go_simp
    try with_reducible rfl
  try simp only [Act.put, List.setIfInBounds_toArray, List.set_cons_zero, List.set_cons_succ]
  refine pickA (v := ?_) 12 (some 27) rfl rfl (by kernel_rfl) (by kernel_rfl) (by kernel_rfl) (by decide) (fun _ _ _ h => h) (by rfl) ?_ (by assumption) ?_
  rotate_left
  · intro w'
    go_simp
    try with_reducible rfl
  try simp only [Act.put, List.setIfInBounds_toArray, List.set_cons_zero, List.set_cons_succ]
  refine oneL (i := 13) (by kernel_rfl) rfl (fun K hK => ?_)
  refine step_store_w rfl 29 (.tmp 27) (.tmp 20) rfl rfl rfl HS3.out ?_
  refine hK.out _ _ ?_ ?_
  · exact ⟨P3.out, R3.out⟩
  clear hK K
  try simp only [Act.put, List.setIfInBounds_toArray]
  clear hHeld
  have hHeld : (fun w' => (Instr.loadAt 29 (.pointer (some ⟨d, 16, none⟩))).run Tryd.prog w' = .ok (.agg D.p.cells) w' ∧ (Instr.loadAt 29 (.pointer (some ⟨d, 27, none⟩))).run Tryd.prog w' = .ok (.agg D.r.cells) w') w3 := ⟨P3.out, R3.out⟩
  refine pickA (v := ?_) 14 (some 28) rfl rfl (by kernel_rfl) (by kernel_rfl) (by kernel_rfl) (by decide) (fun _ _ _ h => h) (by rfl) ?_ (by assumption) ?_
  rotate_left
  · intro w'
    go_simp
    try with_reducible rfl
  try simp only [Act.put]
  refine pickA (v := ?_) 15 (some 29) rfl rfl (by kernel_rfl) (by kernel_rfl) (by kernel_rfl) (by decide) (fun _ _ _ h => h) (by rfl) ?_ (by assumption) ?_
  rotate_left
  · intro w'
    go_simp
    try with_reducible rfl
  try simp only [Act.put]
  refine pickA (v := ?_) 16 (some 30) rfl rfl (by kernel_rfl) (by kernel_rfl) (by kernel_rfl) (by decide) (fun _ _ _ h => h) (by rfl) ?_ (by assumption) ?_
  rotate_left
  · intro w'
    go_simp
    try with_reducible rfl
  try simp only [Act.put]
  refine lateL (i := 17) (by kernel_rfl) rfl (by decide) (by kernel_rfl) (fun K hK => ?_)
  refine step_store_w rfl 29 (.tmp 30) (.tmp 24) rfl rfl rfl HS4.out ?_
  refine hK.out _ _ ?_
  clear hK K
  try simp only [Act.put]
  refine doneL (by kernel_rfl) ?_ _
  clear hHeld
  clear ID
  go_wp2_with fail
  refine CT.out.mono ?_
  rintro e' w6 ⟨rfl, X6, K6⟩
  have F6 := hide X6
  have K7 := hide (KZ.out.tr K6)
  clear X6 K6 CT
  go_wp2
  refine bodyPost_end (results_none rfl _ _ _) rfl ?_
  exact ⟨rfl, F6.out, K7.out⟩

set_option maxHeartbeats 2000000 in
set_option maxRecDepth 100000 in
theorem dend_100 (d : Nat) (D : Ds)  (w : World) (I : IsB w d (dsL D).toArray 94) : Calls Tryd.prog 46 #[.pointer (some ⟨d, 0, none⟩), .int .i64 100] w fun e' w' => e' = .returned (.tuple #[]) ∧ IsB w' d (dsL (({ D with e := 100, rl := D.p, rr := D.r } : Ds).free 3)).toArray 94 ∧ Kp [d] w w' := by
  have mixed : Tryd.prog.follows .mixedOrders = true := by kernel_rfl
  obtain ⟨w2, hs2, I2, k2⟩ := ds_res I 100 zr zr
  have ID := hide (I2.below ((Below.refl _ _).drew))
  have kd : Kp [d] w2 w2.drew := (Kp.refl _ _).drew
  obtain ⟨w3, hs3, I3, k3⟩ := ds_rl ID.out D.p
  obtain ⟨w4, hs4, I4, k4⟩ := ds_rr I3 D.r
  have HS2 := hide hs2
  have HS3 := hide hs3
  have HS4 := hide hs4
  have P3 := hide (dl_p I3)
  have R3 := hide (dl_r I3)
  have PD0 := hide (dl_p ID.out)
  have RD0 := hide (dl_r ID.out)
  have KZ := hide (k2.tr (kd.tr (k3.tr k4)))
  have CT := hide (dfree_any d { D with e := 100, rl := D.p, rr := D.r } 3 (Or.inr (Or.inl rfl)) w4 I4)
  generalize ({ D with e := 100, rl := D.p, rr := D.r } : Ds).free 3 = E at *
  clear hs2 hs3 hs4 I2 I3 I4 k2 k3 k4 kd I
  go_enter Tryd.func46, Tryd.ntmps46
  go_wp2_with (first | (focus ((with_reducible refine wpList_store_w ?_ 51 (.tmp 8) (.tmp 6) ?_ ?_ ?_ HS2.out ?_); rotate_left; rfl; rfl; rfl; rotate_left; rfl)))
  refine regionL 17 (fun w' => (Instr.loadAt 29 (.pointer (some ⟨d, 16, none⟩))).run Tryd.prog w' = .ok (.agg D.p.cells) w' ∧ (Instr.loadAt 29 (.pointer (some ⟨d, 27, none⟩))).run Tryd.prog w' = .ok (.agg D.r.cells) w') mixed ⟨PD0.out, RD0.out⟩ (fun hHeld => ?_)
  generalize w2.drew = WD at *
  refine pickA (v := ?_) 0 (some 15) rfl rfl (by kernel_rfl) (by kernel_rfl) (by kernel_rfl) (by decide) (fun _ _ _ h => h) (by rfl) ?_ (by assumption) ?_
  rotate_left
  · intro w'
    go_simp
    try with_reducible rfl
  try simp only [Act.put, List.setIfInBounds_toArray, List.set_cons_zero, List.set_cons_succ]
  refine pickA (v := ?_) 1 (some 16) rfl rfl (by kernel_rfl) (by kernel_rfl) (by kernel_rfl) (by decide) (fun _ _ _ h => h) (by rfl) ?_ (by assumption) ?_
  rotate_left
  · intro w'
    go_simp
    try with_reducible rfl
  try simp only [Act.put, List.setIfInBounds_toArray, List.set_cons_zero, List.set_cons_succ]
  refine pickA (v := ?_) 2 (some 17) rfl rfl (by kernel_rfl) (by kernel_rfl) (by kernel_rfl) (by decide) (fun _ _ _ h => h) (by rfl) ?_ (by assumption) ?_
  rotate_left
  · intro w'
    go_simp
    try with_reducible rfl
  try simp only [Act.put, List.setIfInBounds_toArray, List.set_cons_zero, List.set_cons_succ]
  refine pickA (v := ?_) 3 (some 18) rfl rfl (by kernel_rfl) (by kernel_rfl) (by kernel_rfl) (by decide) (fun _ _ _ h => h) (by rfl) ?_ (by assumption) ?_
  rotate_left
  · intro w'
    go_simp
    try with_reducible rfl
  try simp only [Act.put, List.setIfInBounds_toArray, List.set_cons_zero, List.set_cons_succ]
  refine pickA (v := ?_) 4 (some 19) rfl rfl (by kernel_rfl) (by kernel_rfl) (by kernel_rfl) (by decide) (fun _ _ _ h => h) (by rfl) ?_ (by assumption) ?_
  rotate_left
  · intro w'
    go_simp
    try with_reducible rfl
  try simp only [Act.put, List.setIfInBounds_toArray, List.set_cons_zero, List.set_cons_succ]
  refine pickL (v := .agg D.p.cells) 5 (some 20) rfl rfl (by kernel_rfl) (by kernel_rfl) (by kernel_rfl) (by decide) (by kernel_rfl) (by kernel_rfl) (fun _ _ _ h => h) (by rfl) ?_ (by assumption) ?_
  · intro w' hSw
    obtain ⟨q0, q1⟩ := hSw
    exact exec_load rfl rfl q0
  try simp only [Act.put, List.setIfInBounds_toArray, List.set_cons_zero, List.set_cons_succ]
  refine pickA (v := ?_) 6 (some 21) rfl rfl (by kernel_rfl) (by kernel_rfl) (by kernel_rfl) (by decide) (fun _ _ _ h => h) (by rfl) ?_ (by assumption) ?_
  rotate_left
  · intro w'
    go_simp
    try with_reducible rfl
  try simp only [Act.put, List.setIfInBounds_toArray, List.set_cons_zero, List.set_cons_succ]
  refine pickA (v := ?_) 7 (some 22) rfl rfl (by kernel_rfl) (by kernel_rfl) (by kernel_rfl) (by decide) (fun _ _ _ h => h) (by rfl) ?_ (by assumption) ?_
  rotate_left
  · intro w'
    go_simp
    try with_reducible rfl
  try simp only [Act.put, List.setIfInBounds_toArray, List.set_cons_zero, List.set_cons_succ]
  refine pickA (v := ?_) 8 (some 23) rfl rfl (by kernel_rfl) (by kernel_rfl) (by kernel_rfl) (by decide) (fun _ _ _ h => h) (by rfl) ?_ (by assumption) ?_
  rotate_left
  · intro w'
    go_simp
    try with_reducible rfl
  try simp only [Act.put, List.setIfInBounds_toArray, List.set_cons_zero, List.set_cons_succ]
  refine pickL (v := .agg D.r.cells) 9 (some 24) rfl rfl (by kernel_rfl) (by kernel_rfl) (by kernel_rfl) (by decide) (by kernel_rfl) (by kernel_rfl) (fun _ _ _ h => h) (by rfl) ?_ (by assumption) ?_
  · intro w' hSw
    obtain ⟨q0, q1⟩ := hSw
    exact exec_load rfl rfl q1
  try simp only [Act.put, List.setIfInBounds_toArray, List.set_cons_zero, List.set_cons_succ]
  refine pickA (v := ?_) 10 (some 25) rfl rfl (by kernel_rfl) (by kernel_rfl) (by kernel_rfl) (by decide) (fun _ _ _ h => h) (by rfl) ?_ (by assumption) ?_
  rotate_left
  · intro w'
    go_simp
    try with_reducible rfl
  try simp only [Act.put, List.setIfInBounds_toArray, List.set_cons_zero, List.set_cons_succ]
  refine pickA (v := ?_) 11 (some 26) rfl rfl (by kernel_rfl) (by kernel_rfl) (by kernel_rfl) (by decide) (fun _ _ _ h => h) (by rfl) ?_ (by assumption) ?_
  rotate_left
  · intro w'
    go_simp
    try with_reducible rfl
  try simp only [Act.put, List.setIfInBounds_toArray, List.set_cons_zero, List.set_cons_succ]
  refine pickA (v := ?_) 12 (some 27) rfl rfl (by kernel_rfl) (by kernel_rfl) (by kernel_rfl) (by decide) (fun _ _ _ h => h) (by rfl) ?_ (by assumption) ?_
  rotate_left
  · intro w'
    go_simp
    try with_reducible rfl
  try simp only [Act.put, List.setIfInBounds_toArray, List.set_cons_zero, List.set_cons_succ]
  refine oneL (i := 13) (by kernel_rfl) rfl (fun K hK => ?_)
  refine step_store_w rfl 29 (.tmp 27) (.tmp 20) rfl rfl rfl HS3.out ?_
  refine hK.out _ _ ?_ ?_
  · exact ⟨P3.out, R3.out⟩
  clear hK K
  try simp only [Act.put, List.setIfInBounds_toArray]
  clear hHeld
  have hHeld : (fun w' => (Instr.loadAt 29 (.pointer (some ⟨d, 16, none⟩))).run Tryd.prog w' = .ok (.agg D.p.cells) w' ∧ (Instr.loadAt 29 (.pointer (some ⟨d, 27, none⟩))).run Tryd.prog w' = .ok (.agg D.r.cells) w') w3 := ⟨P3.out, R3.out⟩
  refine pickA (v := ?_) 14 (some 28) rfl rfl (by kernel_rfl) (by kernel_rfl) (by kernel_rfl) (by decide) (fun _ _ _ h => h) (by rfl) ?_ (by assumption) ?_
  rotate_left
  · intro w'
    go_simp
    try with_reducible rfl
  try simp only [Act.put]
  refine pickA (v := ?_) 15 (some 29) rfl rfl (by kernel_rfl) (by kernel_rfl) (by kernel_rfl) (by decide) (fun _ _ _ h => h) (by rfl) ?_ (by assumption) ?_
  rotate_left
  · intro w'
    go_simp
    try with_reducible rfl
  try simp only [Act.put]
  refine pickA (v := ?_) 16 (some 30) rfl rfl (by kernel_rfl) (by kernel_rfl) (by kernel_rfl) (by decide) (fun _ _ _ h => h) (by rfl) ?_ (by assumption) ?_
  rotate_left
  · intro w'
    go_simp
    try with_reducible rfl
  try simp only [Act.put]
  refine lateL (i := 17) (by kernel_rfl) rfl (by decide) (by kernel_rfl) (fun K hK => ?_)
  refine step_store_w rfl 29 (.tmp 30) (.tmp 24) rfl rfl rfl HS4.out ?_
  refine hK.out _ _ ?_
  clear hK K
  try simp only [Act.put]
  refine doneL (by kernel_rfl) ?_ _
  clear hHeld
  clear ID
  go_wp2_with fail
  refine CT.out.mono ?_
  rintro e' w6 ⟨rfl, X6, K6⟩
  have F6 := hide X6
  have K7 := hide (KZ.out.tr K6)
  clear X6 K6 CT
  go_wp2
  refine bodyPost_end (results_none rfl _ _ _) rfl ?_
  exact ⟨rfl, F6.out, K7.out⟩

theorem dend_any (d : Nat) (D : Ds) (e : Int) (w : World) (I : IsB w d (dsL D).toArray 94) : Calls Tryd.prog 46 #[.pointer (some ⟨d, 0, none⟩), .int .i64 e] w fun e' w' => e' = .returned (.tuple #[]) ∧ IsB w' d (dsL (D.fin e)).toArray 94 ∧ Kp [d] w w' := by
  unfold Ds.fin
  by_cases h0 : e = 0
  · subst h0; rw [if_pos (Or.inl rfl)]; exact dend_0 d D w I
  · by_cases h1 : e = 100
    · subst h1; rw [if_pos (Or.inr rfl)]; exact dend_100 d D w I
    · rw [if_neg fun h => h.elim h0 h1]; exact dend_no d D e h0 h1 w I

end Go.Proofs.YtofmommoeligoaaDoor
