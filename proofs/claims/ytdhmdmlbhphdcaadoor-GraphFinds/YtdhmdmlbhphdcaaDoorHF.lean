/- GraphFinds walked. -/
import Derived.Test.YtdhmdmlbhphdcaaDoorHE
namespace Go.Proofs.YtdhmdmlbhphdcaaDoor
open Go.RowKit Go.Maps Go.ChangeMaps

theorem load_int {w : World} {a : Addr} {v : Int} (h : w.cell? a = some (.int .i64 v)) : (Instr.loadAt 3 (.pointer (some a))).run Tryd.prog w = .ok (.int .i64 v) w := by
  have hu := Tryd.underlying3
  simp [Instr.loadAt, Instr.sureAddr, loadVar, h]
theorem nerr (r : Rf) (w : World) : (binOp .neq 32 (.agg r.cells) (.agg r.cells)).run Tryd.prog w = .ok (.bool false) w := by
  have h := ner r.id r.rk r.kn r.ln r.bt r.id r.rk r.kn r.ln r.bt w
  simp at h
  exact h

set_option maxHeartbeats 8000000 in
set_option maxRecDepth 100000 in
theorem finds_any (h d tr tn : Int) (htn : 0 ≤ tn) (v : Value) (l0 : List Rf) (hbt : ∀ r ∈ l0, 0 ≤ r.bt) (w : World) (hR : Ranks w) (hs : RSl w v l0) : Calls Tryd.prog 3 #[.int .i64 h, .int .i64 d, .agg #[.int .i64 tr, .int .u64 tn], v] w fun e w' => e = .returned (.bool true) ∧ Below w.heap.size w w' := by
  have mixed : Tryd.prog.follows .mixedOrders = true := by kernel_rfl
  obtain ⟨v2, hs2, FW⟩ := few_at v l0 w hs
  have hbt2 : ∀ r ∈ l0.take 12, 0 ≤ r.bt := fun r hr => hbt r (List.mem_of_mem_take hr)
  have hl12 : (l0.take 12).length ≤ 12 := by rw [List.length_take]; omega
  generalize l0.take 12 = l at *
  clear hs hbt
  have b1 := (Below.refl w.heap.size w).alloc (Nat.le_refl _) (.cells #[.int .i64 tr, .int .u64 tn] 25)
  have IK := hide (IsB.new w #[.int .i64 tr, .int .u64 tn] 25)
  have HR := hide (hR.below b1)
  have B := hide b1
  have hsB := hide (hs2.below b1)
  have HS0 := hide hs2
  have HRb := hide hR
  obtain ⟨wy, a, b, e, hcase, WAY⟩ := way_all h d tr tn htn v2 l (by omega) hbt2 (w.alloc (.cells #[.int .i64 tr, .int .u64 tn] 25)) HR.out hsB.out
  replace WAY := hide WAY
  replace FW := hide FW
  have L0 := hide (ld_key2 IK.out)
  obtain ⟨va2, vc2, rfl, -, -⟩ := hs2.shape
  clear b1 hs2 hbt2 hR HR
  go_enter Tryd.func3, Tryd.ntmps3
  go_wp2_with fail
  refine (FW.out _).mono ?_
  rintro e' w2' ⟨rfl, hw⟩
  rw [hw]
  clear hw w2' FW
  go_wp2_with (first | (focus ((with_reducible refine wpList_load_w ?_ 25 (.tmp 6) ?_ ?_ L0.out ?_); rotate_left; rfl; rfl; rotate_left; rfl)))
  refine WAY.out.mono ?_
  rintro e' w3 ⟨wv, rfl, RW0, hb⟩
  have RW := hide RW0
  replace IK := hide (IK.out.below hb)
  replace B := hide (B.out.trans (hb.mono B.out.size))
  clear hb WAY L0 RW0 hsB
  have b2 := (Below.refl w3.heap.size w3).alloc (Nat.le_refl _) (.cells #[.int .i64 0, .int .i64 0, .int .u64 0, .int .i64 0, .int .u64 0] 32)
  have b3 := b2.alloc (by simp) (.cells #[.int .i64 0, .int .i64 0, .int .u64 0, .int .i64 0, .int .u64 0] 32)
  have IA0 := (IsB.new w3 #[.int .i64 0, .int .i64 0, .int .u64 0, .int .i64 0, .int .u64 0] 32).below ((Below.refl _ _).alloc (Nat.le_refl _) (.cells #[.int .i64 0, .int .i64 0, .int .u64 0, .int .i64 0, .int .u64 0] 32))
  have IB0 := IsB.new (w3.alloc (.cells #[.int .i64 0, .int .i64 0, .int .u64 0, .int .i64 0, .int .u64 0] 32)) #[.int .i64 0, .int .i64 0, .int .u64 0, .int .i64 0, .int .u64 0] 32
  rw [World.size_alloc] at IB0
  obtain ⟨w4, hs4, IA4, k4⟩ := store_ref IA0 (cs := a.cells) rfl rfl (by kernel_rfl)
  obtain ⟨w5, hs5, IB5, k5⟩ := store_ref (IB0.kp k4 (by simp)) (cs := b.cells) rfl rfl (by kernel_rfl)
  have HS4 := hide hs4
  have HS5 := hide hs5
  have IA := hide (IA4.kp k5 (by simp))
  have IB := hide IB5
  have bb : Below w3.heap.size w3 w5 := (b3.trans (k4.to_below b3.size (by simp))).trans (k5.to_below (by have := b3.size; have := k4.size; omega) (by simp))
  replace IK := hide (IK.out.below bb)
  replace RW := hide (RW.out.below bb)
  replace B := hide (B.out.trans (bb.mono B.out.size))
  clear b2 b3 IA0 IB0 hs4 hs5 IA4 IB5 k4 k5 bb
  skip
  by_cases he : e = 0
  rotate_left
  · have e1 : (e != 0) = true := by simpa using he
    have e2 : (e == 0) = false := by simpa using he
    clear hcase IA IB IK RW
    go_wp2_with (first | (focus ((with_reducible refine wpList_store_w ?_ 32 (.tmp 10) (.tmp 25) ?_ ?_ ?_ HS4.out ?_); rotate_left; rfl; rfl; rfl; rotate_left; rfl)) | (focus ((with_reducible refine wpList_store_w ?_ 32 (.tmp 11) (.tmp 26) ?_ ?_ ?_ HS5.out ?_); rotate_left; rfl; rfl; rfl; rotate_left; rfl)))
    refine (alive_any w5 (HRb.out.below B.out)).mono ?_
    rintro e' w9 ⟨rfl, hb⟩
    replace B := hide (B.out.trans (hb.mono B.out.size))
    clear hb
    go_wp2
    go_ret
    exact ⟨rfl, B.out⟩
  subst he
  have yk : w5.cell? ⟨w.heap.size, 0, none⟩ = some (.int .i64 tr) := IK.out.cell 0
  by_cases htr : tr = 1
  · rw [htr] at yk
    replace htr := hide htr
    clear hcase IA IB IK RW
    go_wp2_with (first | (focus ((with_reducible refine wpList_store_w ?_ 32 (.tmp 10) (.tmp 25) ?_ ?_ ?_ HS4.out ?_); rotate_left; rfl; rfl; rfl; rotate_left; rfl)) | (focus ((with_reducible refine wpList_store_w ?_ 32 (.tmp 11) (.tmp 26) ?_ ?_ ?_ HS5.out ?_); rotate_left; rfl; rfl; rfl; rotate_left; rfl)))
    refine (alive_any w5 (HRb.out.below B.out)).mono ?_
    rintro e' w9 ⟨rfl, hb⟩
    replace B := hide (B.out.trans (hb.mono B.out.size))
    clear hb
    go_wp2
    go_ret
    exact ⟨rfl, B.out⟩
  have F := (hcase.resolve_left (fun c => c rfl)).resolve_left htr
  have t1 : (tr == 1) = false := by simpa using htr
  obtain ⟨k, hk0, h00, hl0, hlv0, hky0⟩ := F.hops
  have hk := hide hk0
  have H0 := hide h00
  have HL := hide hl0
  have HLV := hide hlv0
  have HKY := hide hky0
  have HEA : Hid (decide (keyLt a (tgR tr tn)) = true) := decide_eq_true F.ends.1
  have HEB : Hid (decide (keyLt b (tgR tr tn)) = false) := decide_eq_false F.ends.2.1
  have HEE := hide F.ends.2.2
  clear F hcase h00 hl0 hlv0 hky0 htr
  obtain ⟨g, cap, ewv, hgc, hgm, -⟩ := RW.out.form (by have := hk.out; omega)
  subst ewv
  have hgm2 : cap ≤ 9223372036854775807 := by unfold maxLen at hgm; omega
  clear hgm
  rw [hk0] at hgc
  replace RW : Hid (Rw w5 39 6 (.slice (some ⟨g, 0, none⟩) (k + 1) cap) (k + 1) (hps wy)) := by rw [← hk0]; exact RW.out
  rw [hk0]
  clear hk0
  go_wp2_with (first | (focus ((with_reducible refine wpList_store_w ?_ 32 (.tmp 10) (.tmp 25) ?_ ?_ ?_ HS4.out ?_); rotate_left; rfl; rfl; rfl; rotate_left; rfl)) | (focus ((with_reducible refine wpList_store_w ?_ 32 (.tmp 11) (.tmp 26) ?_ ?_ ?_ HS5.out ?_); rotate_left; rfl; rfl; rfl; rotate_left; rfl)))
  obtain ⟨AB, hAB⟩ : ∃ AB, w3.heap.size = AB := ⟨_, rfl⟩
  obtain ⟨BB, hBB⟩ : ∃ BB, w3.heap.size + 1 = BB := ⟨_, rfl⟩
  obtain ⟨H, hH⟩ : ∃ H, w.heap.size = H := ⟨_, rfl⟩
  rw [hBB] at IB ⊢
  rw [hAB] at IA ⊢
  rw [hH] at IK ⊢
  clear hAB hBB yk HS4 HS5
  replace hH := hide hH
  have hwk0 : IntKind.i64.wrap (k : Int) = k := by simp [IntKind.wrap, IntKind.bits, IntKind.signed]; omega
  have hwk := hide hwk0
  clear hwk0
  replace IA := hide (IA.out.below ((Below.refl _ _).drew))
  replace IB := hide (IB.out.below ((Below.refl _ _).drew))
  replace IK := hide (IK.out.below ((Below.refl _ _).drew))
  replace RW := hide (RW.out.below ((Below.refl _ _).drew))
  replace B := hide B.out.drew
  refine regionL 36 (fun w' => IsB w' AB a.cells 32 ∧ IsB w' BB b.cells 32 ∧ IsB w' H #[.int .i64 tr, .int .u64 tn] 25 ∧ Rw w' 39 6 (.slice (some ⟨g, 0, none⟩) (k + 1) cap) (k + 1) (hps wy)) mixed ⟨IA.out, IB.out, IK.out, RW.out⟩ (fun hHeld => ?_)
  generalize w5.drew = WD5 at *
  refine pickA (v := ?_) 0 (some 36) rfl rfl (by kernel_rfl) (by kernel_rfl) (by kernel_rfl) (by decide) (fun _ _ _ h => h) (by rfl) ?_ (by assumption) ?_
  rotate_left
  · intro w'
    go_simp
    try with_reducible rfl
  try simp only [Act.put, List.setIfInBounds_toArray, List.set_cons_zero, List.set_cons_succ]
  refine pickL (v := .agg #[.int .i64 a.rk, .int .u64 a.kn]) 1 (some 37) rfl rfl (by kernel_rfl) (by kernel_rfl) (by kernel_rfl) (by decide) (by kernel_rfl) (by kernel_rfl) (fun _ _ _ h => h) (by rfl) ?_ (by assumption) ?_
  · intro w' hSw
    obtain ⟨q0, q1, q2, q3⟩ := hSw; obtain ⟨-, z1, z2, -⟩ := hop_at hk.out q3 0 (by have := hk.out; omega); rw [H0.out] at z1; obtain ⟨-, -, zl, -⟩ := hop_at hk.out q3 k (by have := hk.out; omega); rw [HL.out] at zl
    exact exec_load rfl rfl (ld_rkey q0)
  try simp only [Act.put, List.setIfInBounds_toArray, List.set_cons_zero, List.set_cons_succ]
  refine pickL (v := .agg #[.int .i64 tr, .int .u64 tn]) 2 (some 38) rfl rfl (by kernel_rfl) (by kernel_rfl) (by kernel_rfl) (by decide) (by kernel_rfl) (by kernel_rfl) (fun _ _ _ h => h) (by rfl) ?_ (by assumption) ?_
  · intro w' hSw
    obtain ⟨q0, q1, q2, q3⟩ := hSw; obtain ⟨-, z1, z2, -⟩ := hop_at hk.out q3 0 (by have := hk.out; omega); rw [H0.out] at z1; obtain ⟨-, -, zl, -⟩ := hop_at hk.out q3 k (by have := hk.out; omega); rw [HL.out] at zl
    exact exec_load rfl rfl (ld_key2 q2)
  try simp only [Act.put, List.setIfInBounds_toArray, List.set_cons_zero, List.set_cons_succ]
  refine oneL (i := 3) (by kernel_rfl) rfl (fun K hK => ?_)
  go_simp
  refine (r9Less_any a (tgR tr tn) WD5).mono ?_
  rintro e' w51 ⟨rfl, hb⟩
  rw [HEA.out]
  replace IA := hide (IA.out.below hb)
  replace IB := hide (IB.out.below hb)
  replace IK := hide (IK.out.below hb)
  replace RW := hide (RW.out.below hb)
  replace B := hide (B.out.trans (hb.mono B.out.size))
  clear hb
  refine hK.out _ _ ?_ ?_
  · exact ⟨IA.out, IB.out, IK.out, RW.out⟩
  clear hK K
  try simp only [Act.put, List.setIfInBounds_toArray, List.set_cons_zero, List.set_cons_succ]
  clear hHeld
  have hHeld : (fun w' => IsB w' AB a.cells 32 ∧ IsB w' BB b.cells 32 ∧ IsB w' H #[.int .i64 tr, .int .u64 tn] 25 ∧ Rw w' 39 6 (.slice (some ⟨g, 0, none⟩) (k + 1) cap) (k + 1) (hps wy)) w51 := ⟨IA.out, IB.out, IK.out, RW.out⟩
  refine pickA (v := ?_) 4 (some 40) rfl rfl (by kernel_rfl) (by kernel_rfl) (by kernel_rfl) (by decide) (fun _ _ _ h => h) (by rfl) ?_ (by assumption) ?_
  rotate_left
  · intro w'
    go_simp
    try with_reducible rfl
  try simp only [Act.put, List.setIfInBounds_toArray, List.set_cons_zero, List.set_cons_succ]
  refine pickA (v := ?_) 5 (some 41) rfl rfl (by kernel_rfl) (by kernel_rfl) (by kernel_rfl) (by decide) (fun _ _ _ h => h) (by rfl) ?_ (by assumption) ?_
  rotate_left
  · intro w'
    go_simp
    try with_reducible rfl
  try simp only [Act.put, List.setIfInBounds_toArray, List.set_cons_zero, List.set_cons_succ]
  refine pickA (v := ?_) 6 (some 42) rfl rfl (by kernel_rfl) (by kernel_rfl) (by kernel_rfl) (by decide) (fun _ _ _ h => h) (by rfl) ?_ (by assumption) ?_
  rotate_left
  · intro w'
    go_simp
    try with_reducible rfl
  try simp only [Act.put, List.setIfInBounds_toArray, List.set_cons_zero, List.set_cons_succ]
  refine pickL (v := .agg #[.int .i64 b.rk, .int .u64 b.kn]) 7 (some 43) rfl rfl (by kernel_rfl) (by kernel_rfl) (by kernel_rfl) (by decide) (by kernel_rfl) (by kernel_rfl) (fun _ _ _ h => h) (by rfl) ?_ (by assumption) ?_
  · intro w' hSw
    obtain ⟨q0, q1, q2, q3⟩ := hSw; obtain ⟨-, z1, z2, -⟩ := hop_at hk.out q3 0 (by have := hk.out; omega); rw [H0.out] at z1; obtain ⟨-, -, zl, -⟩ := hop_at hk.out q3 k (by have := hk.out; omega); rw [HL.out] at zl
    exact exec_load rfl rfl (ld_rkey q1)
  try simp only [Act.put, List.setIfInBounds_toArray, List.set_cons_zero, List.set_cons_succ]
  refine pickL (v := .agg #[.int .i64 tr, .int .u64 tn]) 8 (some 44) rfl rfl (by kernel_rfl) (by kernel_rfl) (by kernel_rfl) (by decide) (by kernel_rfl) (by kernel_rfl) (fun _ _ _ h => h) (by rfl) ?_ (by assumption) ?_
  · intro w' hSw
    obtain ⟨q0, q1, q2, q3⟩ := hSw; obtain ⟨-, z1, z2, -⟩ := hop_at hk.out q3 0 (by have := hk.out; omega); rw [H0.out] at z1; obtain ⟨-, -, zl, -⟩ := hop_at hk.out q3 k (by have := hk.out; omega); rw [HL.out] at zl
    exact exec_load rfl rfl (ld_key2 q2)
  try simp only [Act.put, List.setIfInBounds_toArray, List.set_cons_zero, List.set_cons_succ]
  refine oneL (i := 9) (by kernel_rfl) rfl (fun K hK => ?_)
  go_simp
  refine (r9Less_any b (tgR tr tn) w51).mono ?_
  rintro e' w52 ⟨rfl, hb⟩
  rw [HEB.out]
  replace IA := hide (IA.out.below hb)
  replace IB := hide (IB.out.below hb)
  replace IK := hide (IK.out.below hb)
  replace RW := hide (RW.out.below hb)
  replace B := hide (B.out.trans (hb.mono B.out.size))
  clear hb
  refine hK.out _ _ ?_ ?_
  · exact ⟨IA.out, IB.out, IK.out, RW.out⟩
  clear hK K
  try simp only [Act.put, List.setIfInBounds_toArray, List.set_cons_zero, List.set_cons_succ]
  clear hHeld
  have hHeld : (fun w' => IsB w' AB a.cells 32 ∧ IsB w' BB b.cells 32 ∧ IsB w' H #[.int .i64 tr, .int .u64 tn] 25 ∧ Rw w' 39 6 (.slice (some ⟨g, 0, none⟩) (k + 1) cap) (k + 1) (hps wy)) w52 := ⟨IA.out, IB.out, IK.out, RW.out⟩
  refine pickA (v := ?_) 10 (some 46) rfl rfl (by kernel_rfl) (by kernel_rfl) (by kernel_rfl) (by decide) (fun _ _ _ h => h) (by rfl) ?_ (by assumption) ?_
  rotate_left
  · intro w'
    go_simp
    try with_reducible rfl
  try simp only [Act.put, List.setIfInBounds_toArray, List.set_cons_zero, List.set_cons_succ]
  refine pickA (v := ?_) 11 (some 47) rfl rfl (by kernel_rfl) (by kernel_rfl) (by kernel_rfl) (by decide) (fun _ _ _ h => h) (by rfl) ?_ (by assumption) ?_
  rotate_left
  · intro w'
    go_simp
    try with_reducible rfl
  try simp only [Act.put, List.setIfInBounds_toArray, List.set_cons_zero, List.set_cons_succ]
  refine pickA (v := ?_) 12 (some 48) rfl rfl (by kernel_rfl) (by kernel_rfl) (by kernel_rfl) (by decide) (fun _ _ _ h => h) (by rfl) ?_ (by assumption) ?_
  rotate_left
  · intro w'
    go_simp
    try with_reducible rfl
  try simp only [Act.put, List.setIfInBounds_toArray, List.set_cons_zero, List.set_cons_succ]
  refine pickA (v := .int .i64 ((k : Int) + 1)) 13 (some 49) rfl rfl (by kernel_rfl) (by kernel_rfl) (by kernel_rfl) (by decide) (fun _ _ _ h => h) (by rfl) ?_ (by assumption) ?_
  · intro w'
    go_simp
  try simp only [Act.put, List.setIfInBounds_toArray, List.set_cons_zero, List.set_cons_succ]
  refine pickA (v := .bool false) 14 (some 50) rfl rfl (by kernel_rfl) (by kernel_rfl) (by kernel_rfl) (by decide) (fun _ _ _ h => h) (by rfl) ?_ (by assumption) ?_
  · intro w'
    go_simp
    try omega
  try simp only [Act.put, List.setIfInBounds_toArray, List.set_cons_zero, List.set_cons_succ]
  refine pickA (v := .bool false) 15 (some 51) rfl rfl (by kernel_rfl) (by kernel_rfl) (by kernel_rfl) (by decide) (fun _ _ _ h => h) (by rfl) ?_ (by assumption) ?_
  · intro w'
    go_simp
  try simp only [Act.put, List.setIfInBounds_toArray, List.set_cons_zero, List.set_cons_succ]
  refine pickA (v := .bool false) 16 (some 52) rfl rfl (by kernel_rfl) (by kernel_rfl) (by kernel_rfl) (by decide) (fun _ _ _ h => h) (by rfl) ?_ (by assumption) ?_
  · intro w'
    go_simp
  try simp only [Act.put, List.setIfInBounds_toArray, List.set_cons_zero, List.set_cons_succ]
  refine pickA (v := ?_) 17 (some 53) rfl rfl (by kernel_rfl) (by kernel_rfl) (by kernel_rfl) (by decide) (fun _ _ _ h => h) (by rfl) ?_ (by assumption) ?_
  rotate_left
  · intro w'
    go_simp
    try with_reducible rfl
  try simp only [Act.put, List.setIfInBounds_toArray, List.set_cons_zero, List.set_cons_succ]
  refine pickA (v := ?_) 18 (some 54) rfl rfl (by kernel_rfl) (by kernel_rfl) (by kernel_rfl) (by decide) (fun _ _ _ h => h) (by rfl) ?_ (by assumption) ?_
  rotate_left
  · intro w'
    go_simp
    try with_reducible rfl
  try simp only [Act.put, List.setIfInBounds_toArray, List.set_cons_zero, List.set_cons_succ]
  refine pickA (v := ?_) 19 (some 55) rfl rfl (by kernel_rfl) (by kernel_rfl) (by kernel_rfl) (by decide) (fun _ _ _ h => h) (by rfl) ?_ (by assumption) ?_
  rotate_left
  · intro w'
    go_simp
    try with_reducible rfl
  try simp only [Act.put, List.setIfInBounds_toArray, List.set_cons_zero, List.set_cons_succ]
  refine pickA (v := ?_) 20 (some 56) rfl rfl (by kernel_rfl) (by kernel_rfl) (by kernel_rfl) (by decide) (fun _ _ _ h => h) (by rfl) ?_ (by assumption) ?_
  rotate_left
  · intro w'
    go_simp
    try with_reducible rfl
  try simp only [Act.put, List.setIfInBounds_toArray, List.set_cons_zero, List.set_cons_succ]
  refine pickL (v := ?_) 21 (some 57) rfl rfl (by kernel_rfl) (by kernel_rfl) (by kernel_rfl) (by decide) (by kernel_rfl) (by kernel_rfl) (fun _ _ _ h => h) (by rfl) ?_ (by assumption) ?_
  rotate_left
  · intro w' hSw
    obtain ⟨q0, q1, q2, q3⟩ := hSw; obtain ⟨-, z1, z2, -⟩ := hop_at hk.out q3 0 (by have := hk.out; omega); rw [H0.out] at z1; obtain ⟨-, -, zl, -⟩ := hop_at hk.out q3 k (by have := hk.out; omega); rw [HL.out] at zl
    go_simp
    try with_reducible rfl
  try simp only [Act.put, List.setIfInBounds_toArray, List.set_cons_zero, List.set_cons_succ]
  refine pickA (v := ?_) 22 (some 58) rfl rfl (by kernel_rfl) (by kernel_rfl) (by kernel_rfl) (by decide) (fun _ _ _ h => h) (by rfl) ?_ (by assumption) ?_
  rotate_left
  · intro w'
    go_simp
    try with_reducible rfl
  try simp only [Act.put, List.setIfInBounds_toArray, List.set_cons_zero, List.set_cons_succ]
  refine pickA (v := .bool false) 23 (some 59) rfl rfl (by kernel_rfl) (by kernel_rfl) (by kernel_rfl) (by decide) (fun _ _ _ h => h) (by rfl) ?_ (by assumption) ?_
  · intro w'
    go_simp
  try simp only [Act.put, List.setIfInBounds_toArray, List.set_cons_zero, List.set_cons_succ]
  refine pickA (v := .bool false) 24 (some 60) rfl rfl (by kernel_rfl) (by kernel_rfl) (by kernel_rfl) (by decide) (fun _ _ _ h => h) (by rfl) ?_ (by assumption) ?_
  · intro w'
    go_simp
  try simp only [Act.put, List.setIfInBounds_toArray, List.set_cons_zero, List.set_cons_succ]
  refine pickA (v := .bool false) 25 (some 61) rfl rfl (by kernel_rfl) (by kernel_rfl) (by kernel_rfl) (by decide) (fun _ _ _ h => h) (by rfl) ?_ (by assumption) ?_
  · intro w'
    go_simp
  try simp only [Act.put, List.setIfInBounds_toArray, List.set_cons_zero, List.set_cons_succ]
  refine pickA (v := ?_) 26 (some 62) rfl rfl (by kernel_rfl) (by kernel_rfl) (by kernel_rfl) (by decide) (fun _ _ _ h => h) (by rfl) ?_ (by assumption) ?_
  rotate_left
  · intro w'
    go_simp
    try with_reducible rfl
  try simp only [Act.put, List.setIfInBounds_toArray, List.set_cons_zero, List.set_cons_succ]
  refine pickA (v := ?_) 27 (some 63) rfl rfl (by kernel_rfl) (by kernel_rfl) (by kernel_rfl) (by decide) (fun _ _ _ h => h) (by rfl) ?_ (by assumption) ?_
  rotate_left
  · intro w'
    go_simp
    try with_reducible rfl
  try simp only [Act.put, List.setIfInBounds_toArray, List.set_cons_zero, List.set_cons_succ]
  refine pickA (v := .int .i64 ((k : Int) + 1)) 28 (some 64) rfl rfl (by kernel_rfl) (by kernel_rfl) (by kernel_rfl) (by decide) (fun _ _ _ h => h) (by rfl) ?_ (by assumption) ?_
  · intro w'
    go_simp
  try simp only [Act.put, List.setIfInBounds_toArray, List.set_cons_zero, List.set_cons_succ]
  refine pickA (v := .int .i64 (k : Int)) 29 (some 65) rfl rfl (by kernel_rfl) (by kernel_rfl) (by kernel_rfl) (by decide) (fun _ _ _ h => h) (by rfl) ?_ (by assumption) ?_
  · intro w'
    go_simp
    exact hwk.out
  try simp only [Act.put, List.setIfInBounds_toArray, List.set_cons_zero, List.set_cons_succ]
  refine pickA (v := .pointer (some ⟨g, k * 6, none⟩)) 30 (some 66) rfl rfl (by kernel_rfl) (by kernel_rfl) (by kernel_rfl) (by decide) (fun _ _ _ h => h) (by rfl) ?_ (by assumption) ?_
  · intro w'
    go_simp
    exact fun hq => absurd hq (by omega)
  try simp only [Act.put, List.setIfInBounds_toArray, List.set_cons_zero, List.set_cons_succ]
  refine pickA (v := ?_) 31 (some 67) rfl rfl (by kernel_rfl) (by kernel_rfl) (by kernel_rfl) (by decide) (fun _ _ _ h => h) (by rfl) ?_ (by assumption) ?_
  rotate_left
  · intro w'
    go_simp
    try with_reducible rfl
  try simp only [Act.put, List.setIfInBounds_toArray, List.set_cons_zero, List.set_cons_succ]
  refine pickL (v := .agg a.cells) 32 (some 68) rfl rfl (by kernel_rfl) (by kernel_rfl) (by kernel_rfl) (by decide) (by kernel_rfl) (by kernel_rfl) (fun _ _ _ h => h) (by rfl) ?_ (by assumption) ?_
  · intro w' hSw
    obtain ⟨q0, q1, q2, q3⟩ := hSw; obtain ⟨-, z1, z2, -⟩ := hop_at hk.out q3 0 (by have := hk.out; omega); rw [H0.out] at z1; obtain ⟨-, -, zl, -⟩ := hop_at hk.out q3 k (by have := hk.out; omega); rw [HL.out] at zl
    exact exec_load rfl rfl zl
  try simp only [Act.put, List.setIfInBounds_toArray, List.set_cons_zero, List.set_cons_succ]
  refine pickL (v := .agg a.cells) 33 (some 69) rfl rfl (by kernel_rfl) (by kernel_rfl) (by kernel_rfl) (by decide) (by kernel_rfl) (by kernel_rfl) (fun _ _ _ h => h) (by rfl) ?_ (by assumption) ?_
  · intro w' hSw
    obtain ⟨q0, q1, q2, q3⟩ := hSw; obtain ⟨-, z1, z2, -⟩ := hop_at hk.out q3 0 (by have := hk.out; omega); rw [H0.out] at z1; obtain ⟨-, -, zl, -⟩ := hop_at hk.out q3 k (by have := hk.out; omega); rw [HL.out] at zl
    exact exec_load rfl rfl (load_ref q0 rfl)
  try simp only [Act.put, List.setIfInBounds_toArray, List.set_cons_zero, List.set_cons_succ]
  refine pickA (v := .bool false) 34 (some 70) rfl rfl (by kernel_rfl) (by kernel_rfl) (by kernel_rfl) (by decide) (fun _ _ _ h => h) (by rfl) ?_ (by assumption) ?_
  · intro w'
    exact exec_bin rguard rfl rfl rfl (nerr a _)
  try simp only [Act.put, List.setIfInBounds_toArray, List.set_cons_zero, List.set_cons_succ]
  refine pickA (v := .bool false) 35 (some 71) rfl rfl (by kernel_rfl) (by kernel_rfl) (by kernel_rfl) (by decide) (fun _ _ _ h => h) (by rfl) ?_ (by assumption) ?_
  · intro w'
    go_simp
  try simp only [Act.put, List.setIfInBounds_toArray, List.set_cons_zero, List.set_cons_succ]
  refine doneL (by kernel_rfl) ?_ _
  clear hHeld
  go_wp2
  generalize hln : l.length = ln at *
  replace hln := hide hln
  go_loopw [13] (fun v13 wr => ∃ j : Nat, j ≤ ln ∧ v13 = .int .i64 (j : Int) ∧ Hid (IsB wr AB a.cells 32) ∧ Hid (IsB wr BB b.cells 32) ∧ Hid (IsB wr H #[.int .i64 tr, .int .u64 tn] 25) ∧ Hid (Rw wr 39 6 (.slice (some ⟨g, 0, none⟩) (k + 1) cap) (k + 1) (hps wy)) ∧ Hid (Below w.heap.size w wr)) (fun v13 _ => ln - (intOf v13).toNat)
  case atStart => exact ⟨0, by omega, rfl, IA, IB, IK, RW, B⟩
  case round =>
    clear IA IB IK RW B
    obtain ⟨j, hj, rfl, IA, IB, IK, RW, B⟩ := hrel
    by_cases hlt : j < ln
    · have hjl : j < l.length := by rw [hln.out]; exact hlt
      have i3 : (j : Int) < ln := by omega
      obtain ⟨g2, o2, c2, ev, OA0⟩ := ref_at HS0.out j hjl
      injection ev with ev el ec
      clear el
      subst ev ec
      have OA := hide OA0
      have HX := hide (HEE.out l[j] (List.getElem_mem hjl))
      clear OA0
      generalize l[j] = x at *
      by_cases hax : keyLt a x
      · have H7 : Hid (decide (keyLt a x) = true) := decide_eq_true hax
        have H16 : Hid (decide (keyLt x b) = false) := decide_eq_false fun c => HX.out ⟨hax, c⟩
        clear hax HX
        go_wp2_with fail
        replace IA := hide (IA.out.below ((Below.refl _ _).drew))
        replace IB := hide (IB.out.below ((Below.refl _ _).drew))
        replace IK := hide (IK.out.below ((Below.refl _ _).drew))
        replace RW := hide (RW.out.below ((Below.refl _ _).drew))
        replace B := hide B.out.drew
        refine regionL 18 (fun w' => IsB w' AB a.cells 32 ∧ IsB w' BB b.cells 32 ∧ (Instr.loadAt 25 (.pointer (some ⟨g2, o2 + j * 5 + 1, none⟩))).run Tryd.prog w' = .ok (.agg #[.int .i64 x.rk, .int .u64 x.kn]) w') mixed ⟨IA.out, IB.out, OA.out _ B.out⟩ (fun hHeld => ?_)
        generalize wr.drew = WDa at *
        refine pickA (v := ?_) 0 (some 78) rfl rfl (by kernel_rfl) (by kernel_rfl) (by kernel_rfl) (by decide) (fun _ _ _ h => h) (by rfl) ?_ (by assumption) ?_
        rotate_left
        · intro w'
          go_simp
          try with_reducible rfl
        try simp only [Act.put, List.setIfInBounds_toArray, List.set_cons_zero, List.set_cons_succ]
        refine pickL (v := .agg #[.int .i64 a.rk, .int .u64 a.kn]) 1 (some 79) rfl rfl (by kernel_rfl) (by kernel_rfl) (by kernel_rfl) (by decide) (by kernel_rfl) (by kernel_rfl) (fun _ _ _ h => h) (by rfl) ?_ (by assumption) ?_
        · intro w' hSw
          obtain ⟨q0, q1, q2⟩ := hSw
          exact exec_load rfl rfl (ld_rkey q0)
        try simp only [Act.put, List.setIfInBounds_toArray, List.set_cons_zero, List.set_cons_succ]
        refine pickA (v := ?_) 2 (some 80) rfl rfl (by kernel_rfl) (by kernel_rfl) (by kernel_rfl) (by decide) (fun _ _ _ h => h) (by rfl) ?_ (by assumption) ?_
        rotate_left
        · intro w'
          go_simp
          try with_reducible rfl
        try simp only [Act.put, List.setIfInBounds_toArray, List.set_cons_zero, List.set_cons_succ]
        refine pickA (v := ?_) 3 (some 81) rfl rfl (by kernel_rfl) (by kernel_rfl) (by kernel_rfl) (by decide) (fun _ _ _ h => h) (by rfl) ?_ (by assumption) ?_
        rotate_left
        · intro w'
          go_simp
          try with_reducible rfl
        try simp only [Act.put, List.setIfInBounds_toArray, List.set_cons_zero, List.set_cons_succ]
        refine pickA (v := ?_) 4 (some 82) rfl rfl (by kernel_rfl) (by kernel_rfl) (by kernel_rfl) (by decide) (fun _ _ _ h => h) (by rfl) ?_ (by assumption) ?_
        rotate_left
        · intro w'
          go_simp
          try with_reducible rfl
        try simp only [Act.put, List.setIfInBounds_toArray, List.set_cons_zero, List.set_cons_succ]
        refine pickA (v := ?_) 5 (some 83) rfl rfl (by kernel_rfl) (by kernel_rfl) (by kernel_rfl) (by decide) (fun _ _ _ h => h) (by rfl) ?_ (by assumption) ?_
        rotate_left
        · intro w'
          go_simp
          try with_reducible rfl
        try simp only [Act.put, List.setIfInBounds_toArray, List.set_cons_zero, List.set_cons_succ]
        refine pickL (v := .agg #[.int .i64 x.rk, .int .u64 x.kn]) 6 (some 84) rfl rfl (by kernel_rfl) (by kernel_rfl) (by kernel_rfl) (by decide) (by kernel_rfl) (by kernel_rfl) (fun _ _ _ h => h) (by rfl) ?_ (by assumption) ?_
        · intro w' hSw
          obtain ⟨q0, q1, q2⟩ := hSw
          exact exec_load rfl rfl q2
        try simp only [Act.put, List.setIfInBounds_toArray, List.set_cons_zero, List.set_cons_succ]
        refine oneL (i := 7) (by kernel_rfl) rfl (fun K hK => ?_)
        go_simp
        refine (r9Less_any a x WDa).mono ?_
        rintro e' w61 ⟨rfl, hb⟩
        rw [H7.out]
        replace IA := hide (IA.out.below hb)
        replace IB := hide (IB.out.below hb)
        replace IK := hide (IK.out.below hb)
        replace RW := hide (RW.out.below hb)
        replace B := hide (B.out.trans (hb.mono B.out.size))
        clear hb
        refine hK.out _ _ ?_ ?_
        · exact ⟨IA.out, IB.out, OA.out _ B.out⟩
        clear hK K
        try simp only [Act.put, List.setIfInBounds_toArray, List.set_cons_zero, List.set_cons_succ]
        clear hHeld
        have hHeld : (fun w' => IsB w' AB a.cells 32 ∧ IsB w' BB b.cells 32 ∧ (Instr.loadAt 25 (.pointer (some ⟨g2, o2 + j * 5 + 1, none⟩))).run Tryd.prog w' = .ok (.agg #[.int .i64 x.rk, .int .u64 x.kn]) w') w61 := ⟨IA.out, IB.out, OA.out _ B.out⟩
        refine pickA (v := ?_) 8 (some 86) rfl rfl (by kernel_rfl) (by kernel_rfl) (by kernel_rfl) (by decide) (fun _ _ _ h => h) (by rfl) ?_ (by assumption) ?_
        rotate_left
        · intro w'
          go_simp
          try with_reducible rfl
        try simp only [Act.put, List.setIfInBounds_toArray, List.set_cons_zero, List.set_cons_succ]
        refine pickA (v := ?_) 9 (some 87) rfl rfl (by kernel_rfl) (by kernel_rfl) (by kernel_rfl) (by decide) (fun _ _ _ h => h) (by rfl) ?_ (by assumption) ?_
        rotate_left
        · intro w'
          go_simp
          try with_reducible rfl
        try simp only [Act.put, List.setIfInBounds_toArray, List.set_cons_zero, List.set_cons_succ]
        refine pickA (v := ?_) 10 (some 88) rfl rfl (by kernel_rfl) (by kernel_rfl) (by kernel_rfl) (by decide) (fun _ _ _ h => h) (by rfl) ?_ (by assumption) ?_
        rotate_left
        · intro w'
          go_simp
          try with_reducible rfl
        try simp only [Act.put, List.setIfInBounds_toArray, List.set_cons_zero, List.set_cons_succ]
        refine pickA (v := ?_) 11 (some 89) rfl rfl (by kernel_rfl) (by kernel_rfl) (by kernel_rfl) (by decide) (fun _ _ _ h => h) (by rfl) ?_ (by assumption) ?_
        rotate_left
        · intro w'
          go_simp
          try with_reducible rfl
        try simp only [Act.put, List.setIfInBounds_toArray, List.set_cons_zero, List.set_cons_succ]
        refine pickA (v := ?_) 12 (some 90) rfl rfl (by kernel_rfl) (by kernel_rfl) (by kernel_rfl) (by decide) (fun _ _ _ h => h) (by rfl) ?_ (by assumption) ?_
        rotate_left
        · intro w'
          go_simp
          try with_reducible rfl
        try simp only [Act.put, List.setIfInBounds_toArray, List.set_cons_zero, List.set_cons_succ]
        refine pickL (v := .agg #[.int .i64 x.rk, .int .u64 x.kn]) 13 (some 91) rfl rfl (by kernel_rfl) (by kernel_rfl) (by kernel_rfl) (by decide) (by kernel_rfl) (by kernel_rfl) (fun _ _ _ h => h) (by rfl) ?_ (by assumption) ?_
        · intro w' hSw
          obtain ⟨q0, q1, q2⟩ := hSw
          exact exec_load rfl rfl q2
        try simp only [Act.put, List.setIfInBounds_toArray, List.set_cons_zero, List.set_cons_succ]
        refine pickA (v := ?_) 14 (some 92) rfl rfl (by kernel_rfl) (by kernel_rfl) (by kernel_rfl) (by decide) (fun _ _ _ h => h) (by rfl) ?_ (by assumption) ?_
        rotate_left
        · intro w'
          go_simp
          try with_reducible rfl
        try simp only [Act.put, List.setIfInBounds_toArray, List.set_cons_zero, List.set_cons_succ]
        refine pickL (v := .agg #[.int .i64 b.rk, .int .u64 b.kn]) 15 (some 93) rfl rfl (by kernel_rfl) (by kernel_rfl) (by kernel_rfl) (by decide) (by kernel_rfl) (by kernel_rfl) (fun _ _ _ h => h) (by rfl) ?_ (by assumption) ?_
        · intro w' hSw
          obtain ⟨q0, q1, q2⟩ := hSw
          exact exec_load rfl rfl (ld_rkey q1)
        try simp only [Act.put, List.setIfInBounds_toArray, List.set_cons_zero, List.set_cons_succ]
        refine oneL (i := 16) (by kernel_rfl) rfl (fun K hK => ?_)
        go_simp
        refine (r9Less_any x b w61).mono ?_
        rintro e' w62 ⟨rfl, hb⟩
        rw [H16.out]
        replace IA := hide (IA.out.below hb)
        replace IB := hide (IB.out.below hb)
        replace IK := hide (IK.out.below hb)
        replace RW := hide (RW.out.below hb)
        replace B := hide (B.out.trans (hb.mono B.out.size))
        clear hb
        refine hK.out _ _ ?_ ?_
        · exact ⟨IA.out, IB.out, OA.out _ B.out⟩
        clear hK K
        try simp only [Act.put, List.setIfInBounds_toArray, List.set_cons_zero, List.set_cons_succ]
        clear hHeld
        have hHeld : (fun w' => IsB w' AB a.cells 32 ∧ IsB w' BB b.cells 32 ∧ (Instr.loadAt 25 (.pointer (some ⟨g2, o2 + j * 5 + 1, none⟩))).run Tryd.prog w' = .ok (.agg #[.int .i64 x.rk, .int .u64 x.kn]) w') w62 := ⟨IA.out, IB.out, OA.out _ B.out⟩
        refine pickA (v := ?_) 17 (some 95) rfl rfl (by kernel_rfl) (by kernel_rfl) (by kernel_rfl) (by decide) (fun _ _ _ h => h) (by rfl) ?_ (by assumption) ?_
        rotate_left
        · intro w'
          go_simp
          try with_reducible rfl
        try simp only [Act.put, List.setIfInBounds_toArray, List.set_cons_zero, List.set_cons_succ]
        refine doneL (by kernel_rfl) ?_ _
        clear hHeld
        go_wp2
        exact ⟨⟨j + 1, by omega, by simp, IA, IB, IK, RW, B⟩, by simp [intOf]; omega⟩
      · have H7 : Hid (decide (keyLt a x) = false) := decide_eq_false hax
        clear hax HX
        go_wp2_with fail
        replace IA := hide (IA.out.below ((Below.refl _ _).drew))
        replace IB := hide (IB.out.below ((Below.refl _ _).drew))
        replace IK := hide (IK.out.below ((Below.refl _ _).drew))
        replace RW := hide (RW.out.below ((Below.refl _ _).drew))
        replace B := hide B.out.drew
        refine regionL 18 (fun w' => IsB w' AB a.cells 32 ∧ IsB w' BB b.cells 32 ∧ (Instr.loadAt 25 (.pointer (some ⟨g2, o2 + j * 5 + 1, none⟩))).run Tryd.prog w' = .ok (.agg #[.int .i64 x.rk, .int .u64 x.kn]) w') mixed ⟨IA.out, IB.out, OA.out _ B.out⟩ (fun hHeld => ?_)
        generalize wr.drew = WDa at *
        refine pickA (v := ?_) 0 (some 78) rfl rfl (by kernel_rfl) (by kernel_rfl) (by kernel_rfl) (by decide) (fun _ _ _ h => h) (by rfl) ?_ (by assumption) ?_
        rotate_left
        · intro w'
          go_simp
          try with_reducible rfl
        try simp only [Act.put, List.setIfInBounds_toArray, List.set_cons_zero, List.set_cons_succ]
        refine pickL (v := .agg #[.int .i64 a.rk, .int .u64 a.kn]) 1 (some 79) rfl rfl (by kernel_rfl) (by kernel_rfl) (by kernel_rfl) (by decide) (by kernel_rfl) (by kernel_rfl) (fun _ _ _ h => h) (by rfl) ?_ (by assumption) ?_
        · intro w' hSw
          obtain ⟨q0, q1, q2⟩ := hSw
          exact exec_load rfl rfl (ld_rkey q0)
        try simp only [Act.put, List.setIfInBounds_toArray, List.set_cons_zero, List.set_cons_succ]
        refine pickA (v := ?_) 2 (some 80) rfl rfl (by kernel_rfl) (by kernel_rfl) (by kernel_rfl) (by decide) (fun _ _ _ h => h) (by rfl) ?_ (by assumption) ?_
        rotate_left
        · intro w'
          go_simp
          try with_reducible rfl
        try simp only [Act.put, List.setIfInBounds_toArray, List.set_cons_zero, List.set_cons_succ]
        refine pickA (v := ?_) 3 (some 81) rfl rfl (by kernel_rfl) (by kernel_rfl) (by kernel_rfl) (by decide) (fun _ _ _ h => h) (by rfl) ?_ (by assumption) ?_
        rotate_left
        · intro w'
          go_simp
          try with_reducible rfl
        try simp only [Act.put, List.setIfInBounds_toArray, List.set_cons_zero, List.set_cons_succ]
        refine pickA (v := ?_) 4 (some 82) rfl rfl (by kernel_rfl) (by kernel_rfl) (by kernel_rfl) (by decide) (fun _ _ _ h => h) (by rfl) ?_ (by assumption) ?_
        rotate_left
        · intro w'
          go_simp
          try with_reducible rfl
        try simp only [Act.put, List.setIfInBounds_toArray, List.set_cons_zero, List.set_cons_succ]
        refine pickA (v := ?_) 5 (some 83) rfl rfl (by kernel_rfl) (by kernel_rfl) (by kernel_rfl) (by decide) (fun _ _ _ h => h) (by rfl) ?_ (by assumption) ?_
        rotate_left
        · intro w'
          go_simp
          try with_reducible rfl
        try simp only [Act.put, List.setIfInBounds_toArray, List.set_cons_zero, List.set_cons_succ]
        refine pickL (v := .agg #[.int .i64 x.rk, .int .u64 x.kn]) 6 (some 84) rfl rfl (by kernel_rfl) (by kernel_rfl) (by kernel_rfl) (by decide) (by kernel_rfl) (by kernel_rfl) (fun _ _ _ h => h) (by rfl) ?_ (by assumption) ?_
        · intro w' hSw
          obtain ⟨q0, q1, q2⟩ := hSw
          exact exec_load rfl rfl q2
        try simp only [Act.put, List.setIfInBounds_toArray, List.set_cons_zero, List.set_cons_succ]
        refine oneL (i := 7) (by kernel_rfl) rfl (fun K hK => ?_)
        go_simp
        refine (r9Less_any a x WDa).mono ?_
        rintro e' w61 ⟨rfl, hb⟩
        rw [H7.out]
        replace IA := hide (IA.out.below hb)
        replace IB := hide (IB.out.below hb)
        replace IK := hide (IK.out.below hb)
        replace RW := hide (RW.out.below hb)
        replace B := hide (B.out.trans (hb.mono B.out.size))
        clear hb
        refine hK.out _ _ ?_ ?_
        · exact ⟨IA.out, IB.out, OA.out _ B.out⟩
        clear hK K
        try simp only [Act.put, List.setIfInBounds_toArray, List.set_cons_zero, List.set_cons_succ]
        clear hHeld
        have hHeld : (fun w' => IsB w' AB a.cells 32 ∧ IsB w' BB b.cells 32 ∧ (Instr.loadAt 25 (.pointer (some ⟨g2, o2 + j * 5 + 1, none⟩))).run Tryd.prog w' = .ok (.agg #[.int .i64 x.rk, .int .u64 x.kn]) w') w61 := ⟨IA.out, IB.out, OA.out _ B.out⟩
        refine pickA (v := ?_) 8 (some 86) rfl rfl (by kernel_rfl) (by kernel_rfl) (by kernel_rfl) (by decide) (fun _ _ _ h => h) (by rfl) ?_ (by assumption) ?_
        rotate_left
        · intro w'
          go_simp
          try with_reducible rfl
        try simp only [Act.put, List.setIfInBounds_toArray, List.set_cons_zero, List.set_cons_succ]
        refine pickN 9 (some 87) rfl rfl (by kernel_rfl) (by kernel_rfl) (by kernel_rfl) (by decide) (fun _ _ _ h => h) (by rfl) (by assumption) ?_
        try simp only [Act.put, List.setIfInBounds_toArray, List.set_cons_zero, List.set_cons_succ]
        refine pickN 10 (some 88) rfl rfl (by kernel_rfl) (by kernel_rfl) (by kernel_rfl) (by decide) (fun _ _ _ h => h) (by rfl) (by assumption) ?_
        try simp only [Act.put, List.setIfInBounds_toArray, List.set_cons_zero, List.set_cons_succ]
        refine pickN 11 (some 89) rfl rfl (by kernel_rfl) (by kernel_rfl) (by kernel_rfl) (by decide) (fun _ _ _ h => h) (by rfl) (by assumption) ?_
        try simp only [Act.put, List.setIfInBounds_toArray, List.set_cons_zero, List.set_cons_succ]
        refine pickN 12 (some 90) rfl rfl (by kernel_rfl) (by kernel_rfl) (by kernel_rfl) (by decide) (fun _ _ _ h => h) (by rfl) (by assumption) ?_
        try simp only [Act.put, List.setIfInBounds_toArray, List.set_cons_zero, List.set_cons_succ]
        refine pickN 13 (some 91) rfl rfl (by kernel_rfl) (by kernel_rfl) (by kernel_rfl) (by decide) (fun _ _ _ h => h) (by rfl) (by assumption) ?_
        try simp only [Act.put, List.setIfInBounds_toArray, List.set_cons_zero, List.set_cons_succ]
        refine pickN 14 (some 92) rfl rfl (by kernel_rfl) (by kernel_rfl) (by kernel_rfl) (by decide) (fun _ _ _ h => h) (by rfl) (by assumption) ?_
        try simp only [Act.put, List.setIfInBounds_toArray, List.set_cons_zero, List.set_cons_succ]
        refine pickN 15 (some 93) rfl rfl (by kernel_rfl) (by kernel_rfl) (by kernel_rfl) (by decide) (fun _ _ _ h => h) (by rfl) (by assumption) ?_
        try simp only [Act.put, List.setIfInBounds_toArray, List.set_cons_zero, List.set_cons_succ]
        refine pickN 16 (some 94) rfl rfl (by kernel_rfl) (by kernel_rfl) (by kernel_rfl) (by decide) (fun _ _ _ h => h) (by rfl) (by assumption) ?_
        try simp only [Act.put, List.setIfInBounds_toArray, List.set_cons_zero, List.set_cons_succ]
        refine pickA (v := ?_) 17 (some 95) rfl rfl (by kernel_rfl) (by kernel_rfl) (by kernel_rfl) (by decide) (fun _ _ _ h => h) (by rfl) ?_ (by assumption) ?_
        rotate_left
        · intro w'
          go_simp
          try with_reducible rfl
        try simp only [Act.put, List.setIfInBounds_toArray, List.set_cons_zero, List.set_cons_succ]
        refine doneL (by kernel_rfl) ?_ _
        clear hHeld
        go_wp2
        exact ⟨⟨j + 1, by omega, by simp, IA, IB, IK, RW, B⟩, by simp [intOf]; omega⟩
    · obtain rfl : j = ln := by omega
      have hw0 : 0 < wy.length := by have := hk.out; omega
      obtain ⟨r0, hr00⟩ : ∃ r0, (wy[0]'hw0).2 = r0 := ⟨_, rfl⟩
      have hr0 := hide hr00
      obtain ⟨c, hc0⟩ : ∃ c, decide (keyLt r0 (tgR tr tn)) = c := ⟨_, rfl⟩
      have HC := hide hc0
      have HK2 : Hid (∀ j (hj : j + 1 < wy.length), decide (keyLt (wy[j + 1]'hj).2 (wy[j]'(by omega)).2) = !c) := fun j hj => by rw [HKY.out j hj, hr00, hc0]
      clear hr00 hc0 HKY
      cases c with
      | false =>
        go_wp2_with fail
        replace IA := hide (IA.out.below ((Below.refl _ _).drew))
        replace IB := hide (IB.out.below ((Below.refl _ _).drew))
        replace IK := hide (IK.out.below ((Below.refl _ _).drew))
        replace RW := hide (RW.out.below ((Below.refl _ _).drew))
        replace B := hide B.out.drew
        refine regionL 9 (fun w' => IsB w' AB a.cells 32 ∧ IsB w' BB b.cells 32 ∧ IsB w' H #[.int .i64 tr, .int .u64 tn] 25 ∧ Rw w' 39 6 (.slice (some ⟨g, 0, none⟩) (k + 1) cap) (k + 1) (hps wy)) mixed ⟨IA.out, IB.out, IK.out, RW.out⟩ (fun hHeld => ?_)
        generalize wr.drew = WDb at *
        refine pickA (v := ?_) 0 (some 96) rfl rfl (by kernel_rfl) (by kernel_rfl) (by kernel_rfl) (by decide) (fun _ _ _ h => h) (by rfl) ?_ (by assumption) ?_
        rotate_left
        · intro w'
          go_simp
          try with_reducible rfl
        try simp only [Act.put, List.setIfInBounds_toArray, List.set_cons_zero, List.set_cons_succ]
        refine pickA (v := ?_) 1 (some 97) rfl rfl (by kernel_rfl) (by kernel_rfl) (by kernel_rfl) (by decide) (fun _ _ _ h => h) (by rfl) ?_ (by assumption) ?_
        rotate_left
        · intro w'
          go_simp
          try with_reducible rfl
        try simp only [Act.put, List.setIfInBounds_toArray, List.set_cons_zero, List.set_cons_succ]
        refine pickA (v := ?_) 2 (some 98) rfl rfl (by kernel_rfl) (by kernel_rfl) (by kernel_rfl) (by decide) (fun _ _ _ h => h) (by rfl) ?_ (by assumption) ?_
        rotate_left
        · intro w'
          go_simp
          try with_reducible rfl
        try simp only [Act.put, List.setIfInBounds_toArray, List.set_cons_zero, List.set_cons_succ]
        refine pickA (v := ?_) 3 (some 99) rfl rfl (by kernel_rfl) (by kernel_rfl) (by kernel_rfl) (by decide) (fun _ _ _ h => h) (by rfl) ?_ (by assumption) ?_
        rotate_left
        · intro w'
          go_simp
          try with_reducible rfl
        try simp only [Act.put, List.setIfInBounds_toArray, List.set_cons_zero, List.set_cons_succ]
        refine pickL (v := .agg #[.int .i64 r0.rk, .int .u64 r0.kn]) 4 (some 100) rfl rfl (by kernel_rfl) (by kernel_rfl) (by kernel_rfl) (by decide) (by kernel_rfl) (by kernel_rfl) (fun _ _ _ h => h) (by rfl) ?_ (by assumption) ?_
        · intro w' hSw
          obtain ⟨q0, q1, q2, q3⟩ := hSw; obtain ⟨-, -, -, zk⟩ := hop_at hk.out q3 0 (by have := hk.out; omega)
          rw [hr0.out] at zk
          exact exec_load rfl rfl zk
        try simp only [Act.put, List.setIfInBounds_toArray, List.set_cons_zero, List.set_cons_succ]
        refine pickL (v := .agg #[.int .i64 tr, .int .u64 tn]) 5 (some 101) rfl rfl (by kernel_rfl) (by kernel_rfl) (by kernel_rfl) (by decide) (by kernel_rfl) (by kernel_rfl) (fun _ _ _ h => h) (by rfl) ?_ (by assumption) ?_
        · intro w' hSw
          obtain ⟨q0, q1, q2, q3⟩ := hSw; obtain ⟨-, -, -, zk⟩ := hop_at hk.out q3 0 (by have := hk.out; omega)
          exact exec_load rfl rfl (ld_key2 q2)
        try simp only [Act.put, List.setIfInBounds_toArray, List.set_cons_zero, List.set_cons_succ]
        refine oneL (i := 6) (by kernel_rfl) rfl (fun K hK => ?_)
        go_simp
        refine (r9Less_any r0 (tgR tr tn) WDb).mono ?_
        rintro e' w71 ⟨rfl, hb⟩
        rw [HC.out]
        replace IA := hide (IA.out.below hb)
        replace IB := hide (IB.out.below hb)
        replace IK := hide (IK.out.below hb)
        replace RW := hide (RW.out.below hb)
        replace B := hide (B.out.trans (hb.mono B.out.size))
        clear hb
        refine hK.out _ _ ?_ ?_
        · exact ⟨IA.out, IB.out, IK.out, RW.out⟩
        clear hK K
        try simp only [Act.put, List.setIfInBounds_toArray, List.set_cons_zero, List.set_cons_succ]
        clear hHeld
        have hHeld : (fun w' => IsB w' AB a.cells 32 ∧ IsB w' BB b.cells 32 ∧ IsB w' H #[.int .i64 tr, .int .u64 tn] 25 ∧ Rw w' 39 6 (.slice (some ⟨g, 0, none⟩) (k + 1) cap) (k + 1) (hps wy)) w71 := ⟨IA.out, IB.out, IK.out, RW.out⟩
        refine pickA (v := ?_) 7 (some 103) rfl rfl (by kernel_rfl) (by kernel_rfl) (by kernel_rfl) (by decide) (fun _ _ _ h => h) (by rfl) ?_ (by assumption) ?_
        rotate_left
        · intro w'
          go_simp
          try with_reducible rfl
        try simp only [Act.put, List.setIfInBounds_toArray, List.set_cons_zero, List.set_cons_succ]
        refine pickA (v := ?_) 8 (some 14) rfl rfl (by kernel_rfl) (by kernel_rfl) (by kernel_rfl) (by decide) (fun _ _ _ h => h) (by rfl) ?_ (by assumption) ?_
        rotate_left
        · intro w'
          go_simp
          try with_reducible rfl
        try simp only [Act.put, List.setIfInBounds_toArray, List.set_cons_zero, List.set_cons_succ]
        refine doneL (by kernel_rfl) ?_ _
        clear hHeld
        go_wp2
        go_loopw [15] (fun v15 wr => ∃ j : Nat, j ≤ k ∧ v15 = .int .i64 ((j : Int) + 1) ∧ Hid (IsB wr AB a.cells 32) ∧ Hid (IsB wr BB b.cells 32) ∧ Hid (IsB wr H #[.int .i64 tr, .int .u64 tn] 25) ∧ Hid (Rw wr 39 6 (.slice (some ⟨g, 0, none⟩) (k + 1) cap) (k + 1) (hps wy)) ∧ Hid (Below w.heap.size w wr)) (fun v15 _ => k + 1 - (intOf v15).toNat)
        case atStart => exact ⟨0, by omega, rfl, IA, IB, IK, RW, B⟩
        case round =>
          clear IA IB IK RW B
          obtain ⟨j, hj, rfl, IA, IB, IK, RW, B⟩ := hrel
          by_cases hlt : j < k
          · have i3 : (j : Int) < k := by omega
            have i4 : (j : Int) + 1 < (k : Int) + 1 := by omega
            have hwj : Hid (IntKind.i64.wrap (j : Int) = j) := by show _ = _; simp [IntKind.wrap, IntKind.bits, IntKind.signed]; omega
            have hj1 : j + 1 < wy.length := by have := hk.out; omega
            obtain ⟨ly, hyl0⟩ : ∃ z, (wy[j + 1]'hj1).1 = z := ⟨_, rfl⟩
            obtain ⟨y, hy0⟩ : ∃ z, (wy[j + 1]'hj1).2 = z := ⟨_, rfl⟩
            obtain ⟨lx, hxl0⟩ : ∃ z, (wy[j]'(by omega)).1 = z := ⟨_, rfl⟩
            obtain ⟨x, hx0⟩ : ∃ z, (wy[j]'(by omega)).2 = z := ⟨_, rfl⟩
            have hle : ly ≤ lx := by rw [← hyl0, ← hxl0]; exact HLV.out j hj1
            have HLE : Hid (decide (keyLt y x) = true) := by show _ = _; rw [← hy0, ← hx0]; exact HK2.out j hj1
            have hyl := hide hyl0
            have hy := hide hy0
            have hxl := hide hxl0
            have hx := hide hx0
            clear hyl0 hy0 hxl0 hx0
            go_wp2_with fail
            replace IA := hide (IA.out.below ((Below.refl _ _).drew))
            replace IB := hide (IB.out.below ((Below.refl _ _).drew))
            replace IK := hide (IK.out.below ((Below.refl _ _).drew))
            replace RW := hide (RW.out.below ((Below.refl _ _).drew))
            replace B := hide B.out.drew
            refine regionL 30 (fun w' => Rw w' 39 6 (.slice (some ⟨g, 0, none⟩) (k + 1) cap) (k + 1) (hps wy)) mixed RW.out (fun hHeld => ?_)
            generalize wr.drew = WDc at *
            refine pickA (v := ?_) 0 (some 110) rfl rfl (by kernel_rfl) (by kernel_rfl) (by kernel_rfl) (by decide) (fun _ _ _ h => h) (by rfl) ?_ (by assumption) ?_
            rotate_left
            · intro w'
              go_simp
              try with_reducible rfl
            try simp only [Act.put, List.setIfInBounds_toArray, List.set_cons_zero, List.set_cons_succ]
            refine pickA (v := ?_) 1 (some 111) rfl rfl (by kernel_rfl) (by kernel_rfl) (by kernel_rfl) (by decide) (fun _ _ _ h => h) (by rfl) ?_ (by assumption) ?_
            rotate_left
            · intro w'
              go_simp
              try with_reducible rfl
            try simp only [Act.put, List.setIfInBounds_toArray, List.set_cons_zero, List.set_cons_succ]
            refine pickA (v := .pointer (some ⟨g, (j + 1) * 6, none⟩)) 2 (some 112) rfl rfl (by kernel_rfl) (by kernel_rfl) (by kernel_rfl) (by decide) (fun _ _ _ h => h) (by rfl) ?_ (by assumption) ?_
            · intro w'
              go_simp
              try (exact fun hq => absurd hq (by omega))
            try simp only [Act.put, List.setIfInBounds_toArray, List.set_cons_zero, List.set_cons_succ]
            refine pickA (v := ?_) 3 (some 113) rfl rfl (by kernel_rfl) (by kernel_rfl) (by kernel_rfl) (by decide) (fun _ _ _ h => h) (by rfl) ?_ (by assumption) ?_
            rotate_left
            · intro w'
              go_simp
              try with_reducible rfl
            try simp only [Act.put, List.setIfInBounds_toArray, List.set_cons_zero, List.set_cons_succ]
            refine pickL (v := .int .i64 ly) 4 (some 114) rfl rfl (by kernel_rfl) (by kernel_rfl) (by kernel_rfl) (by decide) (by kernel_rfl) (by kernel_rfl) (fun _ _ _ h => h) (by rfl) ?_ (by assumption) ?_
            · intro w' hSw
              have q3 := hSw; obtain ⟨za, -, -, zb⟩ := hop_at hk.out q3 (j + 1) (by have := hk.out; omega); rw [hyl.out] at za; rw [hy.out] at zb; obtain ⟨zc, -, -, zd⟩ := hop_at hk.out q3 j (by have := hk.out; omega); rw [hxl.out] at zc; rw [hx.out] at zd
              exact exec_load rfl rfl (load_int za)
            try simp only [Act.put, List.setIfInBounds_toArray, List.set_cons_zero, List.set_cons_succ]
            refine pickA (v := ?_) 5 (some 115) rfl rfl (by kernel_rfl) (by kernel_rfl) (by kernel_rfl) (by decide) (fun _ _ _ h => h) (by rfl) ?_ (by assumption) ?_
            rotate_left
            · intro w'
              go_simp
              try with_reducible rfl
            try simp only [Act.put, List.setIfInBounds_toArray, List.set_cons_zero, List.set_cons_succ]
            refine pickA (v := ?_) 6 (some 116) rfl rfl (by kernel_rfl) (by kernel_rfl) (by kernel_rfl) (by decide) (fun _ _ _ h => h) (by rfl) ?_ (by assumption) ?_
            rotate_left
            · intro w'
              go_simp
              try with_reducible rfl
            try simp only [Act.put, List.setIfInBounds_toArray, List.set_cons_zero, List.set_cons_succ]
            refine pickA (v := .int .i64 (j : Int)) 7 (some 117) rfl rfl (by kernel_rfl) (by kernel_rfl) (by kernel_rfl) (by decide) (fun _ _ _ h => h) (by rfl) ?_ (by assumption) ?_
            · intro w'
              go_simp
              try (exact hwj.out)
            try simp only [Act.put, List.setIfInBounds_toArray, List.set_cons_zero, List.set_cons_succ]
            refine pickA (v := .pointer (some ⟨g, j * 6, none⟩)) 8 (some 118) rfl rfl (by kernel_rfl) (by kernel_rfl) (by kernel_rfl) (by decide) (fun _ _ _ h => h) (by rfl) ?_ (by assumption) ?_
            · intro w'
              go_simp
              try (exact fun hq => absurd hq (by omega))
            try simp only [Act.put, List.setIfInBounds_toArray, List.set_cons_zero, List.set_cons_succ]
            refine pickA (v := ?_) 9 (some 119) rfl rfl (by kernel_rfl) (by kernel_rfl) (by kernel_rfl) (by decide) (fun _ _ _ h => h) (by rfl) ?_ (by assumption) ?_
            rotate_left
            · intro w'
              go_simp
              try with_reducible rfl
            try simp only [Act.put, List.setIfInBounds_toArray, List.set_cons_zero, List.set_cons_succ]
            refine pickL (v := .int .i64 lx) 10 (some 120) rfl rfl (by kernel_rfl) (by kernel_rfl) (by kernel_rfl) (by decide) (by kernel_rfl) (by kernel_rfl) (fun _ _ _ h => h) (by rfl) ?_ (by assumption) ?_
            · intro w' hSw
              have q3 := hSw; obtain ⟨za, -, -, zb⟩ := hop_at hk.out q3 (j + 1) (by have := hk.out; omega); rw [hyl.out] at za; rw [hy.out] at zb; obtain ⟨zc, -, -, zd⟩ := hop_at hk.out q3 j (by have := hk.out; omega); rw [hxl.out] at zc; rw [hx.out] at zd
              exact exec_load rfl rfl (load_int zc)
            try simp only [Act.put, List.setIfInBounds_toArray, List.set_cons_zero, List.set_cons_succ]
            refine pickA (v := .bool false) 11 (some 121) rfl rfl (by kernel_rfl) (by kernel_rfl) (by kernel_rfl) (by decide) (fun _ _ _ h => h) (by rfl) ?_ (by assumption) ?_
            · intro w'
              go_simp
              try (simpa using hle)
            try simp only [Act.put, List.setIfInBounds_toArray, List.set_cons_zero, List.set_cons_succ]
            refine pickA (v := ?_) 12 (some 122) rfl rfl (by kernel_rfl) (by kernel_rfl) (by kernel_rfl) (by decide) (fun _ _ _ h => h) (by rfl) ?_ (by assumption) ?_
            rotate_left
            · intro w'
              go_simp
              try with_reducible rfl
            try simp only [Act.put, List.setIfInBounds_toArray, List.set_cons_zero, List.set_cons_succ]
            refine pickA (v := ?_) 13 (some 123) rfl rfl (by kernel_rfl) (by kernel_rfl) (by kernel_rfl) (by decide) (fun _ _ _ h => h) (by rfl) ?_ (by assumption) ?_
            rotate_left
            · intro w'
              go_simp
              try with_reducible rfl
            try simp only [Act.put, List.setIfInBounds_toArray, List.set_cons_zero, List.set_cons_succ]
            refine pickA (v := ?_) 14 (some 124) rfl rfl (by kernel_rfl) (by kernel_rfl) (by kernel_rfl) (by decide) (fun _ _ _ h => h) (by rfl) ?_ (by assumption) ?_
            rotate_left
            · intro w'
              go_simp
              try with_reducible rfl
            try simp only [Act.put, List.setIfInBounds_toArray, List.set_cons_zero, List.set_cons_succ]
            refine pickA (v := .pointer (some ⟨g, (j + 1) * 6, none⟩)) 15 (some 125) rfl rfl (by kernel_rfl) (by kernel_rfl) (by kernel_rfl) (by decide) (fun _ _ _ h => h) (by rfl) ?_ (by assumption) ?_
            · intro w'
              go_simp
              try (exact fun hq => absurd hq (by omega))
            try simp only [Act.put, List.setIfInBounds_toArray, List.set_cons_zero, List.set_cons_succ]
            refine pickA (v := ?_) 16 (some 126) rfl rfl (by kernel_rfl) (by kernel_rfl) (by kernel_rfl) (by decide) (fun _ _ _ h => h) (by rfl) ?_ (by assumption) ?_
            rotate_left
            · intro w'
              go_simp
              try with_reducible rfl
            try simp only [Act.put, List.setIfInBounds_toArray, List.set_cons_zero, List.set_cons_succ]
            refine pickA (v := ?_) 17 (some 127) rfl rfl (by kernel_rfl) (by kernel_rfl) (by kernel_rfl) (by decide) (fun _ _ _ h => h) (by rfl) ?_ (by assumption) ?_
            rotate_left
            · intro w'
              go_simp
              try with_reducible rfl
            try simp only [Act.put, List.setIfInBounds_toArray, List.set_cons_zero, List.set_cons_succ]
            refine pickL (v := .agg #[.int .i64 y.rk, .int .u64 y.kn]) 18 (some 128) rfl rfl (by kernel_rfl) (by kernel_rfl) (by kernel_rfl) (by decide) (by kernel_rfl) (by kernel_rfl) (fun _ _ _ h => h) (by rfl) ?_ (by assumption) ?_
            · intro w' hSw
              have q3 := hSw; obtain ⟨za, -, -, zb⟩ := hop_at hk.out q3 (j + 1) (by have := hk.out; omega); rw [hyl.out] at za; rw [hy.out] at zb; obtain ⟨zc, -, -, zd⟩ := hop_at hk.out q3 j (by have := hk.out; omega); rw [hxl.out] at zc; rw [hx.out] at zd
              exact exec_load rfl rfl zb
            try simp only [Act.put, List.setIfInBounds_toArray, List.set_cons_zero, List.set_cons_succ]
            refine pickA (v := ?_) 19 (some 129) rfl rfl (by kernel_rfl) (by kernel_rfl) (by kernel_rfl) (by decide) (fun _ _ _ h => h) (by rfl) ?_ (by assumption) ?_
            rotate_left
            · intro w'
              go_simp
              try with_reducible rfl
            try simp only [Act.put, List.setIfInBounds_toArray, List.set_cons_zero, List.set_cons_succ]
            refine pickA (v := ?_) 20 (some 130) rfl rfl (by kernel_rfl) (by kernel_rfl) (by kernel_rfl) (by decide) (fun _ _ _ h => h) (by rfl) ?_ (by assumption) ?_
            rotate_left
            · intro w'
              go_simp
              try with_reducible rfl
            try simp only [Act.put, List.setIfInBounds_toArray, List.set_cons_zero, List.set_cons_succ]
            refine pickA (v := .int .i64 (j : Int)) 21 (some 131) rfl rfl (by kernel_rfl) (by kernel_rfl) (by kernel_rfl) (by decide) (fun _ _ _ h => h) (by rfl) ?_ (by assumption) ?_
            · intro w'
              go_simp
              try (exact hwj.out)
            try simp only [Act.put, List.setIfInBounds_toArray, List.set_cons_zero, List.set_cons_succ]
            refine pickA (v := .pointer (some ⟨g, j * 6, none⟩)) 22 (some 132) rfl rfl (by kernel_rfl) (by kernel_rfl) (by kernel_rfl) (by decide) (fun _ _ _ h => h) (by rfl) ?_ (by assumption) ?_
            · intro w'
              go_simp
              try (exact fun hq => absurd hq (by omega))
            try simp only [Act.put, List.setIfInBounds_toArray, List.set_cons_zero, List.set_cons_succ]
            refine pickA (v := ?_) 23 (some 133) rfl rfl (by kernel_rfl) (by kernel_rfl) (by kernel_rfl) (by decide) (fun _ _ _ h => h) (by rfl) ?_ (by assumption) ?_
            rotate_left
            · intro w'
              go_simp
              try with_reducible rfl
            try simp only [Act.put, List.setIfInBounds_toArray, List.set_cons_zero, List.set_cons_succ]
            refine pickA (v := ?_) 24 (some 134) rfl rfl (by kernel_rfl) (by kernel_rfl) (by kernel_rfl) (by decide) (fun _ _ _ h => h) (by rfl) ?_ (by assumption) ?_
            rotate_left
            · intro w'
              go_simp
              try with_reducible rfl
            try simp only [Act.put, List.setIfInBounds_toArray, List.set_cons_zero, List.set_cons_succ]
            refine pickL (v := .agg #[.int .i64 x.rk, .int .u64 x.kn]) 25 (some 135) rfl rfl (by kernel_rfl) (by kernel_rfl) (by kernel_rfl) (by decide) (by kernel_rfl) (by kernel_rfl) (fun _ _ _ h => h) (by rfl) ?_ (by assumption) ?_
            · intro w' hSw
              have q3 := hSw; obtain ⟨za, -, -, zb⟩ := hop_at hk.out q3 (j + 1) (by have := hk.out; omega); rw [hyl.out] at za; rw [hy.out] at zb; obtain ⟨zc, -, -, zd⟩ := hop_at hk.out q3 j (by have := hk.out; omega); rw [hxl.out] at zc; rw [hx.out] at zd
              exact exec_load rfl rfl zd
            try simp only [Act.put, List.setIfInBounds_toArray, List.set_cons_zero, List.set_cons_succ]
            refine pickA (v := ?_) 27 (some 137) rfl rfl (by kernel_rfl) (by kernel_rfl) (by kernel_rfl) (by decide) (fun _ _ _ h => h) (by rfl) ?_ (by assumption) ?_
            rotate_left
            · intro w'
              go_simp
              try with_reducible rfl
            try simp only [Act.put, List.setIfInBounds_toArray, List.set_cons_zero, List.set_cons_succ]
            refine oneL (i := 26) (by kernel_rfl) rfl (fun K hK => ?_)
            go_simp
            refine (r9Less_any y x WDc).mono ?_
            rintro e' w81 ⟨rfl, hb⟩
            rw [HLE.out]
            replace IA := hide (IA.out.below hb)
            replace IB := hide (IB.out.below hb)
            replace IK := hide (IK.out.below hb)
            replace RW := hide (RW.out.below hb)
            replace B := hide (B.out.trans (hb.mono B.out.size))
            clear hb
            refine hK.out _ _ ?_ ?_
            · exact RW.out
            clear hK K
            try simp only [Act.put, List.setIfInBounds_toArray, List.set_cons_zero, List.set_cons_succ]
            clear hHeld
            have hHeld : (fun w' => Rw w' 39 6 (.slice (some ⟨g, 0, none⟩) (k + 1) cap) (k + 1) (hps wy)) w81 := RW.out
            refine pickA (v := ?_) 28 (some 138) rfl rfl (by kernel_rfl) (by kernel_rfl) (by kernel_rfl) (by decide) (fun _ _ _ h => h) (by rfl) ?_ (by assumption) ?_
            rotate_left
            · intro w'
              go_simp
              try with_reducible rfl
            try simp only [Act.put, List.setIfInBounds_toArray, List.set_cons_zero, List.set_cons_succ]
            refine pickA (v := ?_) 29 (some 139) rfl rfl (by kernel_rfl) (by kernel_rfl) (by kernel_rfl) (by decide) (fun _ _ _ h => h) (by rfl) ?_ (by assumption) ?_
            rotate_left
            · intro w'
              go_simp
              try with_reducible rfl
            try simp only [Act.put, List.setIfInBounds_toArray, List.set_cons_zero, List.set_cons_succ]
            refine doneL (by kernel_rfl) ?_ _
            clear hHeld
            go_wp2
            exact ⟨⟨j + 1, by omega, by simp, IA, IB, IK, RW, B⟩, by simp [intOf]; omega⟩
          · obtain rfl : j = k := by omega
            go_wp2_with fail
            refine (alive_any wr (HRb.out.below B.out)).mono ?_
            rintro e' w9 ⟨rfl, hb⟩
            replace B := hide (B.out.trans (hb.mono B.out.size))
            clear hb
            go_wp2
            go_ret
            exact ⟨rfl, B.out⟩
      | true =>
        go_wp2_with fail
        replace IA := hide (IA.out.below ((Below.refl _ _).drew))
        replace IB := hide (IB.out.below ((Below.refl _ _).drew))
        replace IK := hide (IK.out.below ((Below.refl _ _).drew))
        replace RW := hide (RW.out.below ((Below.refl _ _).drew))
        replace B := hide B.out.drew
        refine regionL 9 (fun w' => IsB w' AB a.cells 32 ∧ IsB w' BB b.cells 32 ∧ IsB w' H #[.int .i64 tr, .int .u64 tn] 25 ∧ Rw w' 39 6 (.slice (some ⟨g, 0, none⟩) (k + 1) cap) (k + 1) (hps wy)) mixed ⟨IA.out, IB.out, IK.out, RW.out⟩ (fun hHeld => ?_)
        generalize wr.drew = WDb at *
        refine pickA (v := ?_) 0 (some 96) rfl rfl (by kernel_rfl) (by kernel_rfl) (by kernel_rfl) (by decide) (fun _ _ _ h => h) (by rfl) ?_ (by assumption) ?_
        rotate_left
        · intro w'
          go_simp
          try with_reducible rfl
        try simp only [Act.put, List.setIfInBounds_toArray, List.set_cons_zero, List.set_cons_succ]
        refine pickA (v := ?_) 1 (some 97) rfl rfl (by kernel_rfl) (by kernel_rfl) (by kernel_rfl) (by decide) (fun _ _ _ h => h) (by rfl) ?_ (by assumption) ?_
        rotate_left
        · intro w'
          go_simp
          try with_reducible rfl
        try simp only [Act.put, List.setIfInBounds_toArray, List.set_cons_zero, List.set_cons_succ]
        refine pickA (v := ?_) 2 (some 98) rfl rfl (by kernel_rfl) (by kernel_rfl) (by kernel_rfl) (by decide) (fun _ _ _ h => h) (by rfl) ?_ (by assumption) ?_
        rotate_left
        · intro w'
          go_simp
          try with_reducible rfl
        try simp only [Act.put, List.setIfInBounds_toArray, List.set_cons_zero, List.set_cons_succ]
        refine pickA (v := ?_) 3 (some 99) rfl rfl (by kernel_rfl) (by kernel_rfl) (by kernel_rfl) (by decide) (fun _ _ _ h => h) (by rfl) ?_ (by assumption) ?_
        rotate_left
        · intro w'
          go_simp
          try with_reducible rfl
        try simp only [Act.put, List.setIfInBounds_toArray, List.set_cons_zero, List.set_cons_succ]
        refine pickL (v := .agg #[.int .i64 r0.rk, .int .u64 r0.kn]) 4 (some 100) rfl rfl (by kernel_rfl) (by kernel_rfl) (by kernel_rfl) (by decide) (by kernel_rfl) (by kernel_rfl) (fun _ _ _ h => h) (by rfl) ?_ (by assumption) ?_
        · intro w' hSw
          obtain ⟨q0, q1, q2, q3⟩ := hSw; obtain ⟨-, -, -, zk⟩ := hop_at hk.out q3 0 (by have := hk.out; omega)
          rw [hr0.out] at zk
          exact exec_load rfl rfl zk
        try simp only [Act.put, List.setIfInBounds_toArray, List.set_cons_zero, List.set_cons_succ]
        refine pickL (v := .agg #[.int .i64 tr, .int .u64 tn]) 5 (some 101) rfl rfl (by kernel_rfl) (by kernel_rfl) (by kernel_rfl) (by decide) (by kernel_rfl) (by kernel_rfl) (fun _ _ _ h => h) (by rfl) ?_ (by assumption) ?_
        · intro w' hSw
          obtain ⟨q0, q1, q2, q3⟩ := hSw; obtain ⟨-, -, -, zk⟩ := hop_at hk.out q3 0 (by have := hk.out; omega)
          exact exec_load rfl rfl (ld_key2 q2)
        try simp only [Act.put, List.setIfInBounds_toArray, List.set_cons_zero, List.set_cons_succ]
        refine oneL (i := 6) (by kernel_rfl) rfl (fun K hK => ?_)
        go_simp
        refine (r9Less_any r0 (tgR tr tn) WDb).mono ?_
        rintro e' w71 ⟨rfl, hb⟩
        rw [HC.out]
        replace IA := hide (IA.out.below hb)
        replace IB := hide (IB.out.below hb)
        replace IK := hide (IK.out.below hb)
        replace RW := hide (RW.out.below hb)
        replace B := hide (B.out.trans (hb.mono B.out.size))
        clear hb
        refine hK.out _ _ ?_ ?_
        · exact ⟨IA.out, IB.out, IK.out, RW.out⟩
        clear hK K
        try simp only [Act.put, List.setIfInBounds_toArray, List.set_cons_zero, List.set_cons_succ]
        clear hHeld
        have hHeld : (fun w' => IsB w' AB a.cells 32 ∧ IsB w' BB b.cells 32 ∧ IsB w' H #[.int .i64 tr, .int .u64 tn] 25 ∧ Rw w' 39 6 (.slice (some ⟨g, 0, none⟩) (k + 1) cap) (k + 1) (hps wy)) w71 := ⟨IA.out, IB.out, IK.out, RW.out⟩
        refine pickA (v := ?_) 7 (some 103) rfl rfl (by kernel_rfl) (by kernel_rfl) (by kernel_rfl) (by decide) (fun _ _ _ h => h) (by rfl) ?_ (by assumption) ?_
        rotate_left
        · intro w'
          go_simp
          try with_reducible rfl
        try simp only [Act.put, List.setIfInBounds_toArray, List.set_cons_zero, List.set_cons_succ]
        refine pickA (v := ?_) 8 (some 14) rfl rfl (by kernel_rfl) (by kernel_rfl) (by kernel_rfl) (by decide) (fun _ _ _ h => h) (by rfl) ?_ (by assumption) ?_
        rotate_left
        · intro w'
          go_simp
          try with_reducible rfl
        try simp only [Act.put, List.setIfInBounds_toArray, List.set_cons_zero, List.set_cons_succ]
        refine doneL (by kernel_rfl) ?_ _
        clear hHeld
        go_wp2
        go_loopw [15] (fun v15 wr => ∃ j : Nat, j ≤ k ∧ v15 = .int .i64 ((j : Int) + 1) ∧ Hid (IsB wr AB a.cells 32) ∧ Hid (IsB wr BB b.cells 32) ∧ Hid (IsB wr H #[.int .i64 tr, .int .u64 tn] 25) ∧ Hid (Rw wr 39 6 (.slice (some ⟨g, 0, none⟩) (k + 1) cap) (k + 1) (hps wy)) ∧ Hid (Below w.heap.size w wr)) (fun v15 _ => k + 1 - (intOf v15).toNat)
        case atStart => exact ⟨0, by omega, rfl, IA, IB, IK, RW, B⟩
        case round =>
          clear IA IB IK RW B
          obtain ⟨j, hj, rfl, IA, IB, IK, RW, B⟩ := hrel
          by_cases hlt : j < k
          · have i3 : (j : Int) < k := by omega
            have i4 : (j : Int) + 1 < (k : Int) + 1 := by omega
            have hwj : Hid (IntKind.i64.wrap (j : Int) = j) := by show _ = _; simp [IntKind.wrap, IntKind.bits, IntKind.signed]; omega
            have hj1 : j + 1 < wy.length := by have := hk.out; omega
            obtain ⟨ly, hyl0⟩ : ∃ z, (wy[j + 1]'hj1).1 = z := ⟨_, rfl⟩
            obtain ⟨y, hy0⟩ : ∃ z, (wy[j + 1]'hj1).2 = z := ⟨_, rfl⟩
            obtain ⟨lx, hxl0⟩ : ∃ z, (wy[j]'(by omega)).1 = z := ⟨_, rfl⟩
            obtain ⟨x, hx0⟩ : ∃ z, (wy[j]'(by omega)).2 = z := ⟨_, rfl⟩
            have hle : ly ≤ lx := by rw [← hyl0, ← hxl0]; exact HLV.out j hj1
            have HLE : Hid (decide (keyLt y x) = false) := by show _ = _; rw [← hy0, ← hx0]; exact HK2.out j hj1
            have hyl := hide hyl0
            have hy := hide hy0
            have hxl := hide hxl0
            have hx := hide hx0
            clear hyl0 hy0 hxl0 hx0
            go_wp2_with fail
            replace IA := hide (IA.out.below ((Below.refl _ _).drew))
            replace IB := hide (IB.out.below ((Below.refl _ _).drew))
            replace IK := hide (IK.out.below ((Below.refl _ _).drew))
            replace RW := hide (RW.out.below ((Below.refl _ _).drew))
            replace B := hide B.out.drew
            refine regionL 30 (fun w' => Rw w' 39 6 (.slice (some ⟨g, 0, none⟩) (k + 1) cap) (k + 1) (hps wy)) mixed RW.out (fun hHeld => ?_)
            generalize wr.drew = WDc at *
            refine pickA (v := ?_) 0 (some 110) rfl rfl (by kernel_rfl) (by kernel_rfl) (by kernel_rfl) (by decide) (fun _ _ _ h => h) (by rfl) ?_ (by assumption) ?_
            rotate_left
            · intro w'
              go_simp
              try with_reducible rfl
            try simp only [Act.put, List.setIfInBounds_toArray, List.set_cons_zero, List.set_cons_succ]
            refine pickA (v := ?_) 1 (some 111) rfl rfl (by kernel_rfl) (by kernel_rfl) (by kernel_rfl) (by decide) (fun _ _ _ h => h) (by rfl) ?_ (by assumption) ?_
            rotate_left
            · intro w'
              go_simp
              try with_reducible rfl
            try simp only [Act.put, List.setIfInBounds_toArray, List.set_cons_zero, List.set_cons_succ]
            refine pickA (v := .pointer (some ⟨g, (j + 1) * 6, none⟩)) 2 (some 112) rfl rfl (by kernel_rfl) (by kernel_rfl) (by kernel_rfl) (by decide) (fun _ _ _ h => h) (by rfl) ?_ (by assumption) ?_
            · intro w'
              go_simp
              try (exact fun hq => absurd hq (by omega))
            try simp only [Act.put, List.setIfInBounds_toArray, List.set_cons_zero, List.set_cons_succ]
            refine pickA (v := ?_) 3 (some 113) rfl rfl (by kernel_rfl) (by kernel_rfl) (by kernel_rfl) (by decide) (fun _ _ _ h => h) (by rfl) ?_ (by assumption) ?_
            rotate_left
            · intro w'
              go_simp
              try with_reducible rfl
            try simp only [Act.put, List.setIfInBounds_toArray, List.set_cons_zero, List.set_cons_succ]
            refine pickL (v := .int .i64 ly) 4 (some 114) rfl rfl (by kernel_rfl) (by kernel_rfl) (by kernel_rfl) (by decide) (by kernel_rfl) (by kernel_rfl) (fun _ _ _ h => h) (by rfl) ?_ (by assumption) ?_
            · intro w' hSw
              have q3 := hSw; obtain ⟨za, -, -, zb⟩ := hop_at hk.out q3 (j + 1) (by have := hk.out; omega); rw [hyl.out] at za; rw [hy.out] at zb; obtain ⟨zc, -, -, zd⟩ := hop_at hk.out q3 j (by have := hk.out; omega); rw [hxl.out] at zc; rw [hx.out] at zd
              exact exec_load rfl rfl (load_int za)
            try simp only [Act.put, List.setIfInBounds_toArray, List.set_cons_zero, List.set_cons_succ]
            refine pickA (v := ?_) 5 (some 115) rfl rfl (by kernel_rfl) (by kernel_rfl) (by kernel_rfl) (by decide) (fun _ _ _ h => h) (by rfl) ?_ (by assumption) ?_
            rotate_left
            · intro w'
              go_simp
              try with_reducible rfl
            try simp only [Act.put, List.setIfInBounds_toArray, List.set_cons_zero, List.set_cons_succ]
            refine pickA (v := ?_) 6 (some 116) rfl rfl (by kernel_rfl) (by kernel_rfl) (by kernel_rfl) (by decide) (fun _ _ _ h => h) (by rfl) ?_ (by assumption) ?_
            rotate_left
            · intro w'
              go_simp
              try with_reducible rfl
            try simp only [Act.put, List.setIfInBounds_toArray, List.set_cons_zero, List.set_cons_succ]
            refine pickA (v := .int .i64 (j : Int)) 7 (some 117) rfl rfl (by kernel_rfl) (by kernel_rfl) (by kernel_rfl) (by decide) (fun _ _ _ h => h) (by rfl) ?_ (by assumption) ?_
            · intro w'
              go_simp
              try (exact hwj.out)
            try simp only [Act.put, List.setIfInBounds_toArray, List.set_cons_zero, List.set_cons_succ]
            refine pickA (v := .pointer (some ⟨g, j * 6, none⟩)) 8 (some 118) rfl rfl (by kernel_rfl) (by kernel_rfl) (by kernel_rfl) (by decide) (fun _ _ _ h => h) (by rfl) ?_ (by assumption) ?_
            · intro w'
              go_simp
              try (exact fun hq => absurd hq (by omega))
            try simp only [Act.put, List.setIfInBounds_toArray, List.set_cons_zero, List.set_cons_succ]
            refine pickA (v := ?_) 9 (some 119) rfl rfl (by kernel_rfl) (by kernel_rfl) (by kernel_rfl) (by decide) (fun _ _ _ h => h) (by rfl) ?_ (by assumption) ?_
            rotate_left
            · intro w'
              go_simp
              try with_reducible rfl
            try simp only [Act.put, List.setIfInBounds_toArray, List.set_cons_zero, List.set_cons_succ]
            refine pickL (v := .int .i64 lx) 10 (some 120) rfl rfl (by kernel_rfl) (by kernel_rfl) (by kernel_rfl) (by decide) (by kernel_rfl) (by kernel_rfl) (fun _ _ _ h => h) (by rfl) ?_ (by assumption) ?_
            · intro w' hSw
              have q3 := hSw; obtain ⟨za, -, -, zb⟩ := hop_at hk.out q3 (j + 1) (by have := hk.out; omega); rw [hyl.out] at za; rw [hy.out] at zb; obtain ⟨zc, -, -, zd⟩ := hop_at hk.out q3 j (by have := hk.out; omega); rw [hxl.out] at zc; rw [hx.out] at zd
              exact exec_load rfl rfl (load_int zc)
            try simp only [Act.put, List.setIfInBounds_toArray, List.set_cons_zero, List.set_cons_succ]
            refine pickA (v := .bool false) 11 (some 121) rfl rfl (by kernel_rfl) (by kernel_rfl) (by kernel_rfl) (by decide) (fun _ _ _ h => h) (by rfl) ?_ (by assumption) ?_
            · intro w'
              go_simp
              try (simpa using hle)
            try simp only [Act.put, List.setIfInBounds_toArray, List.set_cons_zero, List.set_cons_succ]
            refine pickA (v := ?_) 12 (some 122) rfl rfl (by kernel_rfl) (by kernel_rfl) (by kernel_rfl) (by decide) (fun _ _ _ h => h) (by rfl) ?_ (by assumption) ?_
            rotate_left
            · intro w'
              go_simp
              try with_reducible rfl
            try simp only [Act.put, List.setIfInBounds_toArray, List.set_cons_zero, List.set_cons_succ]
            refine pickA (v := ?_) 13 (some 123) rfl rfl (by kernel_rfl) (by kernel_rfl) (by kernel_rfl) (by decide) (fun _ _ _ h => h) (by rfl) ?_ (by assumption) ?_
            rotate_left
            · intro w'
              go_simp
              try with_reducible rfl
            try simp only [Act.put, List.setIfInBounds_toArray, List.set_cons_zero, List.set_cons_succ]
            refine pickA (v := ?_) 14 (some 124) rfl rfl (by kernel_rfl) (by kernel_rfl) (by kernel_rfl) (by decide) (fun _ _ _ h => h) (by rfl) ?_ (by assumption) ?_
            rotate_left
            · intro w'
              go_simp
              try with_reducible rfl
            try simp only [Act.put, List.setIfInBounds_toArray, List.set_cons_zero, List.set_cons_succ]
            refine pickA (v := .pointer (some ⟨g, (j + 1) * 6, none⟩)) 15 (some 125) rfl rfl (by kernel_rfl) (by kernel_rfl) (by kernel_rfl) (by decide) (fun _ _ _ h => h) (by rfl) ?_ (by assumption) ?_
            · intro w'
              go_simp
              try (exact fun hq => absurd hq (by omega))
            try simp only [Act.put, List.setIfInBounds_toArray, List.set_cons_zero, List.set_cons_succ]
            refine pickA (v := ?_) 16 (some 126) rfl rfl (by kernel_rfl) (by kernel_rfl) (by kernel_rfl) (by decide) (fun _ _ _ h => h) (by rfl) ?_ (by assumption) ?_
            rotate_left
            · intro w'
              go_simp
              try with_reducible rfl
            try simp only [Act.put, List.setIfInBounds_toArray, List.set_cons_zero, List.set_cons_succ]
            refine pickA (v := ?_) 17 (some 127) rfl rfl (by kernel_rfl) (by kernel_rfl) (by kernel_rfl) (by decide) (fun _ _ _ h => h) (by rfl) ?_ (by assumption) ?_
            rotate_left
            · intro w'
              go_simp
              try with_reducible rfl
            try simp only [Act.put, List.setIfInBounds_toArray, List.set_cons_zero, List.set_cons_succ]
            refine pickL (v := .agg #[.int .i64 y.rk, .int .u64 y.kn]) 18 (some 128) rfl rfl (by kernel_rfl) (by kernel_rfl) (by kernel_rfl) (by decide) (by kernel_rfl) (by kernel_rfl) (fun _ _ _ h => h) (by rfl) ?_ (by assumption) ?_
            · intro w' hSw
              have q3 := hSw; obtain ⟨za, -, -, zb⟩ := hop_at hk.out q3 (j + 1) (by have := hk.out; omega); rw [hyl.out] at za; rw [hy.out] at zb; obtain ⟨zc, -, -, zd⟩ := hop_at hk.out q3 j (by have := hk.out; omega); rw [hxl.out] at zc; rw [hx.out] at zd
              exact exec_load rfl rfl zb
            try simp only [Act.put, List.setIfInBounds_toArray, List.set_cons_zero, List.set_cons_succ]
            refine pickA (v := ?_) 19 (some 129) rfl rfl (by kernel_rfl) (by kernel_rfl) (by kernel_rfl) (by decide) (fun _ _ _ h => h) (by rfl) ?_ (by assumption) ?_
            rotate_left
            · intro w'
              go_simp
              try with_reducible rfl
            try simp only [Act.put, List.setIfInBounds_toArray, List.set_cons_zero, List.set_cons_succ]
            refine pickA (v := ?_) 20 (some 130) rfl rfl (by kernel_rfl) (by kernel_rfl) (by kernel_rfl) (by decide) (fun _ _ _ h => h) (by rfl) ?_ (by assumption) ?_
            rotate_left
            · intro w'
              go_simp
              try with_reducible rfl
            try simp only [Act.put, List.setIfInBounds_toArray, List.set_cons_zero, List.set_cons_succ]
            refine pickA (v := .int .i64 (j : Int)) 21 (some 131) rfl rfl (by kernel_rfl) (by kernel_rfl) (by kernel_rfl) (by decide) (fun _ _ _ h => h) (by rfl) ?_ (by assumption) ?_
            · intro w'
              go_simp
              try (exact hwj.out)
            try simp only [Act.put, List.setIfInBounds_toArray, List.set_cons_zero, List.set_cons_succ]
            refine pickA (v := .pointer (some ⟨g, j * 6, none⟩)) 22 (some 132) rfl rfl (by kernel_rfl) (by kernel_rfl) (by kernel_rfl) (by decide) (fun _ _ _ h => h) (by rfl) ?_ (by assumption) ?_
            · intro w'
              go_simp
              try (exact fun hq => absurd hq (by omega))
            try simp only [Act.put, List.setIfInBounds_toArray, List.set_cons_zero, List.set_cons_succ]
            refine pickA (v := ?_) 23 (some 133) rfl rfl (by kernel_rfl) (by kernel_rfl) (by kernel_rfl) (by decide) (fun _ _ _ h => h) (by rfl) ?_ (by assumption) ?_
            rotate_left
            · intro w'
              go_simp
              try with_reducible rfl
            try simp only [Act.put, List.setIfInBounds_toArray, List.set_cons_zero, List.set_cons_succ]
            refine pickA (v := ?_) 24 (some 134) rfl rfl (by kernel_rfl) (by kernel_rfl) (by kernel_rfl) (by decide) (fun _ _ _ h => h) (by rfl) ?_ (by assumption) ?_
            rotate_left
            · intro w'
              go_simp
              try with_reducible rfl
            try simp only [Act.put, List.setIfInBounds_toArray, List.set_cons_zero, List.set_cons_succ]
            refine pickL (v := .agg #[.int .i64 x.rk, .int .u64 x.kn]) 25 (some 135) rfl rfl (by kernel_rfl) (by kernel_rfl) (by kernel_rfl) (by decide) (by kernel_rfl) (by kernel_rfl) (fun _ _ _ h => h) (by rfl) ?_ (by assumption) ?_
            · intro w' hSw
              have q3 := hSw; obtain ⟨za, -, -, zb⟩ := hop_at hk.out q3 (j + 1) (by have := hk.out; omega); rw [hyl.out] at za; rw [hy.out] at zb; obtain ⟨zc, -, -, zd⟩ := hop_at hk.out q3 j (by have := hk.out; omega); rw [hxl.out] at zc; rw [hx.out] at zd
              exact exec_load rfl rfl zd
            try simp only [Act.put, List.setIfInBounds_toArray, List.set_cons_zero, List.set_cons_succ]
            refine pickA (v := ?_) 27 (some 137) rfl rfl (by kernel_rfl) (by kernel_rfl) (by kernel_rfl) (by decide) (fun _ _ _ h => h) (by rfl) ?_ (by assumption) ?_
            rotate_left
            · intro w'
              go_simp
              try with_reducible rfl
            try simp only [Act.put, List.setIfInBounds_toArray, List.set_cons_zero, List.set_cons_succ]
            refine oneL (i := 26) (by kernel_rfl) rfl (fun K hK => ?_)
            go_simp
            refine (r9Less_any y x WDc).mono ?_
            rintro e' w81 ⟨rfl, hb⟩
            rw [HLE.out]
            replace IA := hide (IA.out.below hb)
            replace IB := hide (IB.out.below hb)
            replace IK := hide (IK.out.below hb)
            replace RW := hide (RW.out.below hb)
            replace B := hide (B.out.trans (hb.mono B.out.size))
            clear hb
            refine hK.out _ _ ?_ ?_
            · exact RW.out
            clear hK K
            try simp only [Act.put, List.setIfInBounds_toArray, List.set_cons_zero, List.set_cons_succ]
            clear hHeld
            have hHeld : (fun w' => Rw w' 39 6 (.slice (some ⟨g, 0, none⟩) (k + 1) cap) (k + 1) (hps wy)) w81 := RW.out
            refine pickA (v := ?_) 28 (some 138) rfl rfl (by kernel_rfl) (by kernel_rfl) (by kernel_rfl) (by decide) (fun _ _ _ h => h) (by rfl) ?_ (by assumption) ?_
            rotate_left
            · intro w'
              go_simp
              try with_reducible rfl
            try simp only [Act.put, List.setIfInBounds_toArray, List.set_cons_zero, List.set_cons_succ]
            refine pickA (v := ?_) 29 (some 139) rfl rfl (by kernel_rfl) (by kernel_rfl) (by kernel_rfl) (by decide) (fun _ _ _ h => h) (by rfl) ?_ (by assumption) ?_
            rotate_left
            · intro w'
              go_simp
              try with_reducible rfl
            try simp only [Act.put, List.setIfInBounds_toArray, List.set_cons_zero, List.set_cons_succ]
            refine doneL (by kernel_rfl) ?_ _
            clear hHeld
            go_wp2
            exact ⟨⟨j + 1, by omega, by simp, IA, IB, IK, RW, B⟩, by simp [intOf]; omega⟩
          · obtain rfl : j = k := by omega
            go_wp2_with fail
            refine (alive_any wr (HRb.out.below B.out)).mono ?_
            rintro e' w9 ⟨rfl, hb⟩
            replace B := hide (B.out.trans (hb.mono B.out.size))
            clear hb
            go_wp2
            go_ret
            exact ⟨rfl, B.out⟩

end Go.Proofs.YtdhmdmlbhphdcaaDoor
