/- The law ModelForms. -/
import Derived.Test.YtjcchejcbphjnaaZS
import Derived.Test.YtjcchejcbphjnaaZV
namespace Go.Proofs.Ytjcchejcbphjnaa
open Go.RowKit Go.Maps

set_option maxHeartbeats 4000000 in
set_option maxRecDepth 100000 in
theorem forms_any (v0 v1 : Value) (l0 m0 : List It) (kd key high : Int) (ca : Option Addr) (cn cc : Nat) (k : Int) (w : World) (h0 : Sl w v0 l0) (h1 : Sl w v1 m0) (hlb : ∀ it ∈ l0, it.bs.length ≤ 140737488355328) :
    Calls Try.prog 3 #[v0, v1, .agg #[.int .i64 kd, .int .u64 key, .int .u64 high, .slice ca cn cc], .int .u64 k] w fun e w' => e = .returned (.bool true) ∧ Below w.heap.size w w' := by
  have mixed : Try.prog.follows .mixedOrders = true := by kernel_rfl
  have b1 := (Below.refl w.heap.size w).alloc (Nat.le_refl _) (.cells #[.int .i64 kd, .int .u64 key, .int .u64 high, .slice ca cn cc] 27)
  have Vb := hide (IsB.new w #[.int .i64 kd, .int .u64 key, .int .u64 high, .slice ca cn cc] 27)
  have S0 := hide (h0.below b1)
  have S1 := hide (h1.below b1)
  have B := hide b1
  clear h0 h1 b1
  go_enter Try.func3, Try.ntmps3
  go_wp2_with fail
  generalize w.alloc (.cells #[.int .i64 kd, .int .u64 key, .int .u64 high, .slice ca cn cc] 27) = W1 at *
  generalize hH : w.heap.size = H at Vb ⊢
  replace hH := hide hH
  refine (few_any v0 l0 W1 S0.out).mono ?_
  intro e w2 hE
  obtain ⟨u0, rfl, hS, hw2⟩ := hE
  subst hw2
  replace S0 := hide hS
  clear hS
  have hl : (l0.take 200).length ≤ 200 := by rw [List.length_take]; omega
  have HLB : Hid (∀ it ∈ l0.take 200, it.bs.length ≤ 140737488355328) := fun it hi => hlb it (List.mem_of_mem_take hi)
  clear hlb
  generalize l0.take 200 = l at *
  go_wp2_with fail
  refine (few_any v1 m0 _ S1.out).mono ?_
  intro e w3 hE
  obtain ⟨u1, rfl, hS, hw3⟩ := hE
  subst hw3
  replace S1 := hide hS
  clear hS
  generalize m0.take 200 = m at *
  go_wp2_with fail
  refine (key_any u0 l (by omega) HLB.out k _ S0.out).mono ?_
  rintro e w4 ⟨a4, c4, rfl, hr4, hn4, hb⟩
  replace Vb := hide (Vb.out.below hb)
  replace S0 := hide (S0.out.below hb)
  replace S1 := hide (S1.out.below hb)
  replace B := hide (B.out.trans (hb.mono B.out.size))
  obtain ⟨T1, e1, t1⟩ := conv_S hr4 hn4
  replace t1 := hide t1
  clear hb hr4 hn4 HLB
  generalize hk4 : (kS k l).length = n4 at *
  go_wp2_with fail
  refine (rkey_any u0 l (by omega) k w4 S0.out).mono ?_
  intro e w5 hE
  obtain ⟨rfl, hw5⟩ := hE
  subst hw5
  obtain ⟨a5, c5, hkv, kr, kn⟩ := kV_form S0.out k
  obtain ⟨T2, e2, t2⟩ := conv_S kr kn
  replace t2 := hide t2
  rw [hkv]
  rw [hk4] at t2 ⊢
  have HTE : Hid ((T1.toList == T2.toList) = true) := by show _ = _; rw [e1, e2]; simp
  clear hkv kr kn e1 e2 hk4
  generalize kB k l = Bk at *
  have BW : Hid (Below w5.heap.size w5 w5) := Below.refl _ _
  have hll : Hid (sameL l l = true) := by show _ = _; unfold sameL; simp
  have hTe : Hid (T1.toList = T2.toList) := by have h9 := HTE.out; show _ = _; simpa using h9
  clear HTE
  go_wp2
  have b9 := (Below.refl w5.heap.size w5).drew
  replace Vb := hide (Vb.out.below b9)
  replace S0 := hide (S0.out.below b9)
  replace S1 := hide (S1.out.below b9)
  replace B := hide (B.out.trans (b9.mono B.out.size))
  replace BW := hide (BW.out.trans (b9.mono BW.out.size))
  clear b9
  refine regionL 49 (fun w' => IsB w' H #[.int .i64 kd, .int .u64 key, .int .u64 high, .slice ca cn cc] 27 ∧ (convert 25 9 (.slice a4 n4 c4)).run Try.prog w' = .ok (.string T1) w' ∧ (convert 25 9 (.slice a5 n4 c5)).run Try.prog w' = .ok (.string T2) w') mixed ⟨Vb.out, t1.out _ BW.out, t2.out _ BW.out⟩ (fun hHeld => ?_)
  refine pickA (v := ?_) 0 (some 29) rfl rfl (by kernel_rfl) (by kernel_rfl) (by kernel_rfl) (by decide) (fun _ _ _ h => h) (by rfl) ?_ (by assumption) ?_
  rotate_left
  · intro w'
    go_simp
    try with_reducible rfl
  try simp only [Act.put, List.setIfInBounds_toArray, List.set_cons_zero, List.set_cons_succ]
  refine pickA (v := ?_) 2 (some 31) rfl rfl (by kernel_rfl) (by kernel_rfl) (by kernel_rfl) (by decide) (fun _ _ _ h => h) (by rfl) ?_ (by assumption) ?_
  rotate_left
  · intro w'
    go_simp
    try with_reducible rfl
  try simp only [Act.put, List.setIfInBounds_toArray, List.set_cons_zero, List.set_cons_succ]
  refine oneL (i := 1) (by kernel_rfl) rfl (fun K hK => ?_)
  go_simp
  refine (check_any u0 l (by omega) _ S0.out).mono ?_; rintro e w6 ⟨rfl, hb⟩
  replace Vb := hide (Vb.out.below hb)
  replace S0 := hide (S0.out.below hb)
  replace S1 := hide (S1.out.below hb)
  replace B := hide (B.out.trans (hb.mono B.out.size))
  replace BW := hide (BW.out.trans (hb.mono BW.out.size))
  clear hb
  refine hK.out _ _ ?_ ?_
  · exact ⟨Vb.out, t1.out _ BW.out, t2.out _ BW.out⟩
  clear hK K
  try simp only [Act.put, List.setIfInBounds_toArray, List.set_cons_zero, List.set_cons_succ]
  clear hHeld
  have hHeld : (fun w' => IsB w' H #[.int .i64 kd, .int .u64 key, .int .u64 high, .slice ca cn cc] 27 ∧ (convert 25 9 (.slice a4 n4 c4)).run Try.prog w' = .ok (.string T1) w' ∧ (convert 25 9 (.slice a5 n4 c5)).run Try.prog w' = .ok (.string T2) w') w6 := ⟨Vb.out, t1.out _ BW.out, t2.out _ BW.out⟩
  refine oneL (i := 3) (by kernel_rfl) rfl (fun K hK => ?_)
  go_simp
  refine (rcheck_any u0 l (by omega) _ S0.out).mono ?_; rintro e w7 ⟨rfl, hb⟩
  replace Vb := hide (Vb.out.below hb)
  replace S0 := hide (S0.out.below hb)
  replace S1 := hide (S1.out.below hb)
  replace B := hide (B.out.trans (hb.mono B.out.size))
  replace BW := hide (BW.out.trans (hb.mono BW.out.size))
  clear hb
  generalize ckE l = E1 at *
  refine hK.out _ _ ?_ ?_
  · exact ⟨Vb.out, t1.out _ BW.out, t2.out _ BW.out⟩
  clear hK K
  try simp only [Act.put, List.setIfInBounds_toArray, List.set_cons_zero, List.set_cons_succ]
  clear hHeld
  have hHeld : (fun w' => IsB w' H #[.int .i64 kd, .int .u64 key, .int .u64 high, .slice ca cn cc] 27 ∧ (convert 25 9 (.slice a4 n4 c4)).run Try.prog w' = .ok (.string T1) w' ∧ (convert 25 9 (.slice a5 n4 c5)).run Try.prog w' = .ok (.string T2) w') w7 := ⟨Vb.out, t1.out _ BW.out, t2.out _ BW.out⟩
  refine pickA (v := .bool true) 4 (some 33) rfl rfl (by kernel_rfl) (by kernel_rfl) (by kernel_rfl) (by decide) (fun _ _ _ h => h) (by rfl) ?_ (by assumption) ?_
  · intro w'
    go_simp
    all_goals simp
  try simp only [Act.put, List.setIfInBounds_toArray, List.set_cons_zero, List.set_cons_succ]
  refine pickA (v := ?_) 5 (some 34) rfl rfl (by kernel_rfl) (by kernel_rfl) (by kernel_rfl) (by decide) (fun _ _ _ h => h) (by rfl) ?_ (by assumption) ?_
  rotate_left
  · intro w'
    go_simp
    try with_reducible rfl
  try simp only [Act.put, List.setIfInBounds_toArray, List.set_cons_zero, List.set_cons_succ]
  refine pickL (v := .agg #[.int .i64 kd, .int .u64 key, .int .u64 high, .slice ca cn cc]) 6 (some 35) rfl rfl (by kernel_rfl) (by kernel_rfl) (by kernel_rfl) (by decide) (by kernel_rfl) (by kernel_rfl) (fun _ _ _ h => h) (by rfl) ?_ (by assumption) ?_
  · intro w' hSw
    obtain ⟨q0, q1, q2⟩ := hSw
    exact exec_load rfl rfl (load_call q0 rfl)
  try simp only [Act.put, List.setIfInBounds_toArray, List.set_cons_zero, List.set_cons_succ]
  refine pickL (v := .agg #[.int .i64 kd, .int .u64 key, .int .u64 high, .slice ca cn cc]) 8 (some 37) rfl rfl (by kernel_rfl) (by kernel_rfl) (by kernel_rfl) (by decide) (by kernel_rfl) (by kernel_rfl) (fun _ _ _ h => h) (by rfl) ?_ (by assumption) ?_
  · intro w' hSw
    obtain ⟨q0, q1, q2⟩ := hSw
    exact exec_load rfl rfl (load_call q0 rfl)
  try simp only [Act.put, List.setIfInBounds_toArray, List.set_cons_zero, List.set_cons_succ]
  refine oneL (i := 7) (by kernel_rfl) rfl (fun K hK => ?_)
  go_simp
  refine (call_any kd key high ca cn cc _).mono ?_; rintro e w8 ⟨rfl, hb⟩
  replace Vb := hide (Vb.out.below hb)
  replace S0 := hide (S0.out.below hb)
  replace S1 := hide (S1.out.below hb)
  replace B := hide (B.out.trans (hb.mono B.out.size))
  replace BW := hide (BW.out.trans (hb.mono BW.out.size))
  clear hb
  refine hK.out _ _ ?_ ?_
  · exact ⟨Vb.out, t1.out _ BW.out, t2.out _ BW.out⟩
  clear hK K
  try simp only [Act.put, List.setIfInBounds_toArray, List.set_cons_zero, List.set_cons_succ]
  clear hHeld
  have hHeld : (fun w' => IsB w' H #[.int .i64 kd, .int .u64 key, .int .u64 high, .slice ca cn cc] 27 ∧ (convert 25 9 (.slice a4 n4 c4)).run Try.prog w' = .ok (.string T1) w' ∧ (convert 25 9 (.slice a5 n4 c5)).run Try.prog w' = .ok (.string T2) w') w8 := ⟨Vb.out, t1.out _ BW.out, t2.out _ BW.out⟩
  refine oneL (i := 9) (by kernel_rfl) rfl (fun K hK => ?_)
  go_simp
  refine (rcall_any kd key high ca cn cc _).mono ?_; rintro e w9 ⟨rfl, hb⟩
  replace Vb := hide (Vb.out.below hb)
  replace S0 := hide (S0.out.below hb)
  replace S1 := hide (S1.out.below hb)
  replace B := hide (B.out.trans (hb.mono B.out.size))
  replace BW := hide (BW.out.trans (hb.mono BW.out.size))
  clear hb
  generalize clE kd high cn = E2 at *
  refine hK.out _ _ ?_ ?_
  · exact ⟨Vb.out, t1.out _ BW.out, t2.out _ BW.out⟩
  clear hK K
  try simp only [Act.put, List.setIfInBounds_toArray, List.set_cons_zero, List.set_cons_succ]
  clear hHeld
  have hHeld : (fun w' => IsB w' H #[.int .i64 kd, .int .u64 key, .int .u64 high, .slice ca cn cc] 27 ∧ (convert 25 9 (.slice a4 n4 c4)).run Try.prog w' = .ok (.string T1) w' ∧ (convert 25 9 (.slice a5 n4 c5)).run Try.prog w' = .ok (.string T2) w') w9 := ⟨Vb.out, t1.out _ BW.out, t2.out _ BW.out⟩
  refine pickA (v := .bool true) 10 (some 39) rfl rfl (by kernel_rfl) (by kernel_rfl) (by kernel_rfl) (by decide) (fun _ _ _ h => h) (by rfl) ?_ (by assumption) ?_
  · intro w'
    go_simp
    all_goals simp
  try simp only [Act.put, List.setIfInBounds_toArray, List.set_cons_zero, List.set_cons_succ]
  refine pickA (v := ?_) 11 (some 40) rfl rfl (by kernel_rfl) (by kernel_rfl) (by kernel_rfl) (by decide) (fun _ _ _ h => h) (by rfl) ?_ (by assumption) ?_
  rotate_left
  · intro w'
    go_simp
    try with_reducible rfl
  try simp only [Act.put, List.setIfInBounds_toArray, List.set_cons_zero, List.set_cons_succ]
  refine pickA (v := ?_) 12 (some 41) rfl rfl (by kernel_rfl) (by kernel_rfl) (by kernel_rfl) (by decide) (fun _ _ _ h => h) (by rfl) ?_ (by assumption) ?_
  rotate_left
  · intro w'
    go_simp
    try with_reducible rfl
  try simp only [Act.put, List.setIfInBounds_toArray, List.set_cons_zero, List.set_cons_succ]
  refine pickL (v := .agg #[.int .i64 kd, .int .u64 key, .int .u64 high, .slice ca cn cc]) 13 (some 42) rfl rfl (by kernel_rfl) (by kernel_rfl) (by kernel_rfl) (by decide) (by kernel_rfl) (by kernel_rfl) (fun _ _ _ h => h) (by rfl) ?_ (by assumption) ?_
  · intro w' hSw
    obtain ⟨q0, q1, q2⟩ := hSw
    exact exec_load rfl rfl (load_call q0 rfl)
  try simp only [Act.put, List.setIfInBounds_toArray, List.set_cons_zero, List.set_cons_succ]
  refine pickL (v := .agg #[.int .i64 kd, .int .u64 key, .int .u64 high, .slice ca cn cc]) 15 (some 44) rfl rfl (by kernel_rfl) (by kernel_rfl) (by kernel_rfl) (by decide) (by kernel_rfl) (by kernel_rfl) (fun _ _ _ h => h) (by rfl) ?_ (by assumption) ?_
  · intro w' hSw
    obtain ⟨q0, q1, q2⟩ := hSw
    exact exec_load rfl rfl (load_call q0 rfl)
  try simp only [Act.put, List.setIfInBounds_toArray, List.set_cons_zero, List.set_cons_succ]
  refine oneL (i := 14) (by kernel_rfl) rfl (fun K hK => ?_)
  go_simp
  refine (writes_any kd key high ca cn cc _).mono ?_; rintro e w10 ⟨rfl, hb⟩
  replace Vb := hide (Vb.out.below hb)
  replace S0 := hide (S0.out.below hb)
  replace S1 := hide (S1.out.below hb)
  replace B := hide (B.out.trans (hb.mono B.out.size))
  replace BW := hide (BW.out.trans (hb.mono BW.out.size))
  clear hb
  refine hK.out _ _ ?_ ?_
  · exact ⟨Vb.out, t1.out _ BW.out, t2.out _ BW.out⟩
  clear hK K
  try simp only [Act.put, List.setIfInBounds_toArray, List.set_cons_zero, List.set_cons_succ]
  clear hHeld
  have hHeld : (fun w' => IsB w' H #[.int .i64 kd, .int .u64 key, .int .u64 high, .slice ca cn cc] 27 ∧ (convert 25 9 (.slice a4 n4 c4)).run Try.prog w' = .ok (.string T1) w' ∧ (convert 25 9 (.slice a5 n4 c5)).run Try.prog w' = .ok (.string T2) w') w10 := ⟨Vb.out, t1.out _ BW.out, t2.out _ BW.out⟩
  refine oneL (i := 16) (by kernel_rfl) rfl (fun K hK => ?_)
  go_simp
  refine (rwrites_any kd key high ca cn cc _).mono ?_; rintro e w11 ⟨rfl, hb⟩
  replace Vb := hide (Vb.out.below hb)
  replace S0 := hide (S0.out.below hb)
  replace S1 := hide (S1.out.below hb)
  replace B := hide (B.out.trans (hb.mono B.out.size))
  replace BW := hide (BW.out.trans (hb.mono BW.out.size))
  clear hb
  generalize wrB kd = E3 at *
  refine hK.out _ _ ?_ ?_
  · exact ⟨Vb.out, t1.out _ BW.out, t2.out _ BW.out⟩
  clear hK K
  try simp only [Act.put, List.setIfInBounds_toArray, List.set_cons_zero, List.set_cons_succ]
  clear hHeld
  have hHeld : (fun w' => IsB w' H #[.int .i64 kd, .int .u64 key, .int .u64 high, .slice ca cn cc] 27 ∧ (convert 25 9 (.slice a4 n4 c4)).run Try.prog w' = .ok (.string T1) w' ∧ (convert 25 9 (.slice a5 n4 c5)).run Try.prog w' = .ok (.string T2) w') w11 := ⟨Vb.out, t1.out _ BW.out, t2.out _ BW.out⟩
  refine pickA (v := .bool true) 17 (some 46) rfl rfl (by kernel_rfl) (by kernel_rfl) (by kernel_rfl) (by decide) (fun _ _ _ h => h) (by rfl) ?_ (by assumption) ?_
  · intro w'
    go_simp
    all_goals simp
  try simp only [Act.put, List.setIfInBounds_toArray, List.set_cons_zero, List.set_cons_succ]
  refine pickA (v := ?_) 18 (some 47) rfl rfl (by kernel_rfl) (by kernel_rfl) (by kernel_rfl) (by decide) (fun _ _ _ h => h) (by rfl) ?_ (by assumption) ?_
  rotate_left
  · intro w'
    go_simp
    try with_reducible rfl
  try simp only [Act.put, List.setIfInBounds_toArray, List.set_cons_zero, List.set_cons_succ]
  refine pickA (v := ?_) 19 (some 48) rfl rfl (by kernel_rfl) (by kernel_rfl) (by kernel_rfl) (by decide) (fun _ _ _ h => h) (by rfl) ?_ (by assumption) ?_
  rotate_left
  · intro w'
    go_simp
    try with_reducible rfl
  try simp only [Act.put, List.setIfInBounds_toArray, List.set_cons_zero, List.set_cons_succ]
  refine pickA (v := ?_) 20 (some 49) rfl rfl (by kernel_rfl) (by kernel_rfl) (by kernel_rfl) (by decide) (fun _ _ _ h => h) (by rfl) ?_ (by assumption) ?_
  rotate_left
  · intro w'
    go_simp
    try with_reducible rfl
  try simp only [Act.put, List.setIfInBounds_toArray, List.set_cons_zero, List.set_cons_succ]
  refine pickA (v := ?_) 21 (some 50) rfl rfl (by kernel_rfl) (by kernel_rfl) (by kernel_rfl) (by decide) (fun _ _ _ h => h) (by rfl) ?_ (by assumption) ?_
  rotate_left
  · intro w'
    go_simp
    try with_reducible rfl
  try simp only [Act.put, List.setIfInBounds_toArray, List.set_cons_zero, List.set_cons_succ]
  refine pickA (v := ?_) 23 (some 52) rfl rfl (by kernel_rfl) (by kernel_rfl) (by kernel_rfl) (by decide) (fun _ _ _ h => h) (by rfl) ?_ (by assumption) ?_
  rotate_left
  · intro w'
    go_simp
    try with_reducible rfl
  try simp only [Act.put, List.setIfInBounds_toArray, List.set_cons_zero, List.set_cons_succ]
  refine pickA (v := ?_) 24 (some 53) rfl rfl (by kernel_rfl) (by kernel_rfl) (by kernel_rfl) (by decide) (fun _ _ _ h => h) (by rfl) ?_ (by assumption) ?_
  rotate_left
  · intro w'
    go_simp
    try with_reducible rfl
  try simp only [Act.put, List.setIfInBounds_toArray, List.set_cons_zero, List.set_cons_succ]
  refine oneL (i := 22) (by kernel_rfl) rfl (fun K hK => ?_)
  go_simp
  refine (same_any u0 u1 l m (by omega) _ S0.out S1.out).mono ?_; rintro e w12 ⟨rfl, hb⟩
  replace Vb := hide (Vb.out.below hb)
  replace S0 := hide (S0.out.below hb)
  replace S1 := hide (S1.out.below hb)
  replace B := hide (B.out.trans (hb.mono B.out.size))
  replace BW := hide (BW.out.trans (hb.mono BW.out.size))
  clear hb
  refine hK.out _ _ ?_ ?_
  · exact ⟨Vb.out, t1.out _ BW.out, t2.out _ BW.out⟩
  clear hK K
  try simp only [Act.put, List.setIfInBounds_toArray, List.set_cons_zero, List.set_cons_succ]
  clear hHeld
  have hHeld : (fun w' => IsB w' H #[.int .i64 kd, .int .u64 key, .int .u64 high, .slice ca cn cc] 27 ∧ (convert 25 9 (.slice a4 n4 c4)).run Try.prog w' = .ok (.string T1) w' ∧ (convert 25 9 (.slice a5 n4 c5)).run Try.prog w' = .ok (.string T2) w') w12 := ⟨Vb.out, t1.out _ BW.out, t2.out _ BW.out⟩
  refine oneL (i := 25) (by kernel_rfl) rfl (fun K hK => ?_)
  go_simp
  refine (rsame_any u0 u1 l m (by omega) _ S0.out S1.out).mono ?_; rintro e w13 ⟨rfl, hb⟩
  replace Vb := hide (Vb.out.below hb)
  replace S0 := hide (S0.out.below hb)
  replace S1 := hide (S1.out.below hb)
  replace B := hide (B.out.trans (hb.mono B.out.size))
  replace BW := hide (BW.out.trans (hb.mono BW.out.size))
  clear hb
  generalize sameL l m = E4 at *
  refine hK.out _ _ ?_ ?_
  · exact ⟨Vb.out, t1.out _ BW.out, t2.out _ BW.out⟩
  clear hK K
  try simp only [Act.put, List.setIfInBounds_toArray, List.set_cons_zero, List.set_cons_succ]
  clear hHeld
  have hHeld : (fun w' => IsB w' H #[.int .i64 kd, .int .u64 key, .int .u64 high, .slice ca cn cc] 27 ∧ (convert 25 9 (.slice a4 n4 c4)).run Try.prog w' = .ok (.string T1) w' ∧ (convert 25 9 (.slice a5 n4 c5)).run Try.prog w' = .ok (.string T2) w') w13 := ⟨Vb.out, t1.out _ BW.out, t2.out _ BW.out⟩
  refine pickA (v := .bool true) 26 (some 55) rfl rfl (by kernel_rfl) (by kernel_rfl) (by kernel_rfl) (by decide) (fun _ _ _ h => h) (by rfl) ?_ (by assumption) ?_
  · intro w'
    go_simp
    all_goals simp
  try simp only [Act.put, List.setIfInBounds_toArray, List.set_cons_zero, List.set_cons_succ]
  refine pickA (v := ?_) 27 (some 56) rfl rfl (by kernel_rfl) (by kernel_rfl) (by kernel_rfl) (by decide) (fun _ _ _ h => h) (by rfl) ?_ (by assumption) ?_
  rotate_left
  · intro w'
    go_simp
    try with_reducible rfl
  try simp only [Act.put, List.setIfInBounds_toArray, List.set_cons_zero, List.set_cons_succ]
  refine pickA (v := ?_) 28 (some 57) rfl rfl (by kernel_rfl) (by kernel_rfl) (by kernel_rfl) (by decide) (fun _ _ _ h => h) (by rfl) ?_ (by assumption) ?_
  rotate_left
  · intro w'
    go_simp
    try with_reducible rfl
  try simp only [Act.put, List.setIfInBounds_toArray, List.set_cons_zero, List.set_cons_succ]
  refine pickA (v := ?_) 29 (some 58) rfl rfl (by kernel_rfl) (by kernel_rfl) (by kernel_rfl) (by decide) (fun _ _ _ h => h) (by rfl) ?_ (by assumption) ?_
  rotate_left
  · intro w'
    go_simp
    try with_reducible rfl
  try simp only [Act.put, List.setIfInBounds_toArray, List.set_cons_zero, List.set_cons_succ]
  refine pickA (v := ?_) 30 (some 59) rfl rfl (by kernel_rfl) (by kernel_rfl) (by kernel_rfl) (by decide) (fun _ _ _ h => h) (by rfl) ?_ (by assumption) ?_
  rotate_left
  · intro w'
    go_simp
    try with_reducible rfl
  try simp only [Act.put, List.setIfInBounds_toArray, List.set_cons_zero, List.set_cons_succ]
  refine oneL (i := 31) (by kernel_rfl) rfl (fun K hK => ?_)
  go_simp
  refine (same_any u0 u0 l l (by omega) _ S0.out S0.out).mono ?_; rintro e w14 ⟨rfl, hb⟩
  replace Vb := hide (Vb.out.below hb)
  replace S0 := hide (S0.out.below hb)
  replace S1 := hide (S1.out.below hb)
  replace B := hide (B.out.trans (hb.mono B.out.size))
  replace BW := hide (BW.out.trans (hb.mono BW.out.size))
  clear hb
  rw [hll.out]
  refine hK.out _ _ ?_ ?_
  · exact ⟨Vb.out, t1.out _ BW.out, t2.out _ BW.out⟩
  clear hK K
  try simp only [Act.put, List.setIfInBounds_toArray, List.set_cons_zero, List.set_cons_succ]
  clear hHeld
  have hHeld : (fun w' => IsB w' H #[.int .i64 kd, .int .u64 key, .int .u64 high, .slice ca cn cc] 27 ∧ (convert 25 9 (.slice a4 n4 c4)).run Try.prog w' = .ok (.string T1) w' ∧ (convert 25 9 (.slice a5 n4 c5)).run Try.prog w' = .ok (.string T2) w') w14 := ⟨Vb.out, t1.out _ BW.out, t2.out _ BW.out⟩
  refine pickA (v := ?_) 32 (some 61) rfl rfl (by kernel_rfl) (by kernel_rfl) (by kernel_rfl) (by decide) (fun _ _ _ h => h) (by rfl) ?_ (by assumption) ?_
  rotate_left
  · intro w'
    go_simp
    try with_reducible rfl
  try simp only [Act.put, List.setIfInBounds_toArray, List.set_cons_zero, List.set_cons_succ]
  refine pickA (v := ?_) 33 (some 62) rfl rfl (by kernel_rfl) (by kernel_rfl) (by kernel_rfl) (by decide) (fun _ _ _ h => h) (by rfl) ?_ (by assumption) ?_
  rotate_left
  · intro w'
    go_simp
    try with_reducible rfl
  try simp only [Act.put, List.setIfInBounds_toArray, List.set_cons_zero, List.set_cons_succ]
  refine pickA (v := ?_) 34 (some 63) rfl rfl (by kernel_rfl) (by kernel_rfl) (by kernel_rfl) (by decide) (fun _ _ _ h => h) (by rfl) ?_ (by assumption) ?_
  rotate_left
  · intro w'
    go_simp
    try with_reducible rfl
  try simp only [Act.put, List.setIfInBounds_toArray, List.set_cons_zero, List.set_cons_succ]
  refine pickL (v := .string T1) 35 (some 64) rfl rfl (by kernel_rfl) (by kernel_rfl) (by kernel_rfl) (by decide) (by kernel_rfl) (by kernel_rfl) (fun _ _ _ h => h) (by rfl) ?_ (by assumption) ?_
  · intro w' hSw
    obtain ⟨q0, q1, q2⟩ := hSw
    go_simp
  try simp only [Act.put, List.setIfInBounds_toArray, List.set_cons_zero, List.set_cons_succ]
  refine pickA (v := ?_) 36 (some 65) rfl rfl (by kernel_rfl) (by kernel_rfl) (by kernel_rfl) (by decide) (fun _ _ _ h => h) (by rfl) ?_ (by assumption) ?_
  rotate_left
  · intro w'
    go_simp
    try with_reducible rfl
  try simp only [Act.put, List.setIfInBounds_toArray, List.set_cons_zero, List.set_cons_succ]
  refine pickL (v := .string T2) 37 (some 66) rfl rfl (by kernel_rfl) (by kernel_rfl) (by kernel_rfl) (by decide) (by kernel_rfl) (by kernel_rfl) (fun _ _ _ h => h) (by rfl) ?_ (by assumption) ?_
  · intro w' hSw
    obtain ⟨q0, q1, q2⟩ := hSw
    go_simp
  try simp only [Act.put, List.setIfInBounds_toArray, List.set_cons_zero, List.set_cons_succ]
  refine pickA (v := .bool true) 38 (some 67) rfl rfl (by kernel_rfl) (by kernel_rfl) (by kernel_rfl) (by decide) (fun _ _ _ h => h) (by rfl) ?_ (by assumption) ?_
  · intro w'
    go_simp
    all_goals (have hz := hTe.out; first | exact hz | simp [hz])
  try simp only [Act.put, List.setIfInBounds_toArray, List.set_cons_zero, List.set_cons_succ]
  refine pickA (v := ?_) 39 (some 68) rfl rfl (by kernel_rfl) (by kernel_rfl) (by kernel_rfl) (by decide) (fun _ _ _ h => h) (by rfl) ?_ (by assumption) ?_
  rotate_left
  · intro w'
    go_simp
    try with_reducible rfl
  try simp only [Act.put, List.setIfInBounds_toArray, List.set_cons_zero, List.set_cons_succ]
  refine pickA (v := ?_) 40 (some 69) rfl rfl (by kernel_rfl) (by kernel_rfl) (by kernel_rfl) (by decide) (fun _ _ _ h => h) (by rfl) ?_ (by assumption) ?_
  rotate_left
  · intro w'
    go_simp
    try with_reducible rfl
  try simp only [Act.put, List.setIfInBounds_toArray, List.set_cons_zero, List.set_cons_succ]
  refine pickA (v := ?_) 41 (some 70) rfl rfl (by kernel_rfl) (by kernel_rfl) (by kernel_rfl) (by decide) (fun _ _ _ h => h) (by rfl) ?_ (by assumption) ?_
  rotate_left
  · intro w'
    go_simp
    try with_reducible rfl
  try simp only [Act.put, List.setIfInBounds_toArray, List.set_cons_zero, List.set_cons_succ]
  refine pickA (v := ?_) 42 (some 71) rfl rfl (by kernel_rfl) (by kernel_rfl) (by kernel_rfl) (by decide) (fun _ _ _ h => h) (by rfl) ?_ (by assumption) ?_
  rotate_left
  · intro w'
    go_simp
    try with_reducible rfl
  try simp only [Act.put, List.setIfInBounds_toArray, List.set_cons_zero, List.set_cons_succ]
  refine pickA (v := .bool true) 43 (some 72) rfl rfl (by kernel_rfl) (by kernel_rfl) (by kernel_rfl) (by decide) (fun _ _ _ h => h) (by rfl) ?_ (by assumption) ?_
  · intro w'
    go_simp
    all_goals simp
  try simp only [Act.put, List.setIfInBounds_toArray, List.set_cons_zero, List.set_cons_succ]
  refine pickA (v := ?_) 44 (some 73) rfl rfl (by kernel_rfl) (by kernel_rfl) (by kernel_rfl) (by decide) (fun _ _ _ h => h) (by rfl) ?_ (by assumption) ?_
  rotate_left
  · intro w'
    go_simp
    try with_reducible rfl
  try simp only [Act.put, List.setIfInBounds_toArray, List.set_cons_zero, List.set_cons_succ]
  refine pickA (v := ?_) 45 (some 74) rfl rfl (by kernel_rfl) (by kernel_rfl) (by kernel_rfl) (by decide) (fun _ _ _ h => h) (by rfl) ?_ (by assumption) ?_
  rotate_left
  · intro w'
    go_simp
    try with_reducible rfl
  try simp only [Act.put, List.setIfInBounds_toArray, List.set_cons_zero, List.set_cons_succ]
  refine oneL (i := 46) (by kernel_rfl) rfl (fun K hK => ?_)
  go_simp
  refine (awake_any _).mono ?_; rintro e w15 ⟨rfl, hb⟩
  replace Vb := hide (Vb.out.below hb)
  replace S0 := hide (S0.out.below hb)
  replace S1 := hide (S1.out.below hb)
  replace B := hide (B.out.trans (hb.mono B.out.size))
  replace BW := hide (BW.out.trans (hb.mono BW.out.size))
  clear hb
  refine hK.out _ _ ?_ ?_
  · exact ⟨Vb.out, t1.out _ BW.out, t2.out _ BW.out⟩
  clear hK K
  try simp only [Act.put, List.setIfInBounds_toArray, List.set_cons_zero, List.set_cons_succ]
  clear hHeld
  have hHeld : (fun w' => IsB w' H #[.int .i64 kd, .int .u64 key, .int .u64 high, .slice ca cn cc] 27 ∧ (convert 25 9 (.slice a4 n4 c4)).run Try.prog w' = .ok (.string T1) w' ∧ (convert 25 9 (.slice a5 n4 c5)).run Try.prog w' = .ok (.string T2) w') w15 := ⟨Vb.out, t1.out _ BW.out, t2.out _ BW.out⟩
  refine pickA (v := ?_) 47 (some 76) rfl rfl (by kernel_rfl) (by kernel_rfl) (by kernel_rfl) (by decide) (fun _ _ _ h => h) (by rfl) ?_ (by assumption) ?_
  rotate_left
  · intro w'
    go_simp
    try with_reducible rfl
  try simp only [Act.put, List.setIfInBounds_toArray, List.set_cons_zero, List.set_cons_succ]
  refine pickA (v := ?_) 48 (some 8) rfl rfl (by kernel_rfl) (by kernel_rfl) (by kernel_rfl) (by decide) (fun _ _ _ h => h) (by rfl) ?_ (by assumption) ?_
  rotate_left
  · intro w'
    go_simp
    try with_reducible rfl
  try simp only [Act.put, List.setIfInBounds_toArray, List.set_cons_zero, List.set_cons_succ]
  refine doneL (by kernel_rfl) ?_ _
  clear hHeld
  go_wp2
  go_ret
  exact ⟨rfl, B.out⟩

end Go.Proofs.Ytjcchejcbphjnaa
