/- NetRuns: the law walked. -/
import Derived.Test.YtoinjmddmahpkaaZQ
import Derived.Test.YtoinjmddmahpkaaNN
namespace Go.Proofs.Ytoinjmddmahpkaa
open Go.RowKit Go.Maps

section
variable {P : Program} {md : Region.Mode} {ops : Array Oper} {Q : Exit → Act → World → Prop} {S S' : World → Prop} {t : Nat}
/-- More may be held from here on. -/
theorem strL (hs : ∀ w, S' w → S w) : ∀ (fuel : Nat) (listed : Array Bool) (a : Act) (w : World), wpAnyL P md ops Q S' t fuel listed a w → wpAnyL P md ops Q S t fuel listed a w
  | 0, _, _, _, h => h
  | fuel + 1, _, _, _, h => ⟨h.1, fun i hi => wpOp_mono (fun a' w' h' => ⟨fun hl => hs w' (h'.1 hl), strL hs fuel _ a' w' h'.2⟩) (h.2 i hi)⟩
end

theorem cell_keep {w w' : World} (hb : Below w.heap.size w w') {x : Addr} {u : Value} (h : w.cell? x = some u) : w'.cell? x = some u := (hb.cell (lt_of_cell h)).trans h
theorem stat_neq (a b c d : Int) (w : World) : (binOp .neq 28 (.agg #[.int .i64 a, .int .i64 b, .int .i64 c, .int .i64 d]) (.agg #[.int .i64 a, .int .i64 b, .int .i64 c, .int .i64 d])).run Try.prog w = .ok (.bool false) w := by
  have u4 := Try.underlying3
  have a4 := Try.isAgg3
  have z4 := Try.sizeOf3
  have hS : Try.prog.underlying 28 = some (.struct (Try.prog.fieldsOf 28)) := by kernel_rfl
  have hp : Try.prog.stoodInHeld 28 = false := by kernel_rfl
  rw [run_neq_struct, show (10000 : Nat) = 9999 + 1 from rfl, run_equalIn_agg w 9999 28 _ _ hS hp]
  simp only [Program.fieldsOf, Try.underlying28]
  go_simp

set_option maxHeartbeats 64000000 in
set_option maxRecDepth 100000 in
theorem netRuns_walk (sa : Option Addr) (len cap : Nat) (w : World) (hS : Scr w sa len) :
    Calls Try.prog 3 #[.slice sa len cap] w fun e w' => e = .returned (.bool true) ∧ Below w.heap.size w w' := by
  have mixed : Try.prog.follows .mixedOrders = true := by kernel_rfl
  have hpn := ptr_eq_nil
  have hse := stat_neq
  replace hS := hide hS
  go_enter Try.func3, Try.ntmps3
  go_wp2_with fail
  refine (new_any w).mono ?_; rintro e w1 ⟨b, m, rfl, hb, hm, hN, hbl⟩
  have bel0 := (Below.refl w1.heap.size w1).alloc (Nat.le_refl _) (.cells #[.slice none 0 0, .int .i64 0, .int .i64 0, .int .i64 0, .int .i64 0] 30)
  have R0 : RS (w1.alloc (.cells #[.slice none 0 0, .int .i64 0, .int .i64 0, .int .i64 0, .int .i64 0] 30)) w1.heap.size (.slice none 0 0) [] Cnt.zero 0 := ⟨IsB.new w1 _ _, ⟨⟨rfl, Or.inl ⟨rfl, rfl⟩⟩, by simp⟩, by simp, by simp [Cnt.zero], by simp [Cnt.zero]⟩
  have hoff : ∀ j ∈ foot b m (.slice none 0 0), j ∉ rfoot w1.heap.size (.slice none 0 0) := fun j hj hm => by
    have h1 := hN.lt j hj
    simp [rfoot, Value.ownBlock] at hm
    omega
  have T0 : Two [b, m, w1.heap.size] (w1.alloc (.cells #[.slice none 0 0, .int .i64 0, .int .i64 0, .int .i64 0, .int .i64 0] 30)) (w1.alloc (.cells #[.slice none 0 0, .int .i64 0, .int .i64 0, .int .i64 0, .int .i64 0] 30)) b m w1.heap.size (.slice none 0 0) (.slice none 0 0) [] [] Cnt.zero Cnt.zero 0 0 :=
    ⟨hN.below bel0, R0, hoff, Kp.refl _ _, by simp, (by intro q hq; simp [Value.ownBlock] at hq), (by intro q hq; simp [Value.ownBlock] at hq)⟩
  have B0 : Hid (Both _ _ _ _ _ _ _ _ _ _ _ _ _) := ⟨T0, rfl, by simp⟩
  have hL : Hid (∀ j ∈ [b, m, w1.heap.size], w.heap.size ≤ j) := by
    intro j hj
    have h1 := hbl.size
    simp at hj
    rcases hj with rfl | rfl | rfl <;> assumption
  have hbW := hide (hbl.trans (bel0.mono hbl.size))
  clear bel0 R0 hoff T0 hN hbl hb hm
  go_wp2
  generalize w1.alloc (.cells #[.slice none 0 0, .int .i64 0, .int .i64 0, .int .i64 0, .int .i64 0] 30) = W1 at *
  generalize w1.heap.size = rb at *
  go_loopw [5] (fun i wr => ∃ j : Nat, j ≤ 100 ∧ i = .int .i64 (j : Int) ∧ ∃ v rv ps qs c k rk, Both [b, m, rb] W1 wr b m rb v rv ps qs c k rk ∧ k ≤ j ∧ rk ≤ j) (fun i _ => 100 - (intOf i).toNat)
  case atStart => exact ⟨0, by omega, rfl, _, _, _, _, _, _, _, B0.out, Nat.le_refl _, Nat.le_refl _⟩
  case round =>
    clear B0
    obtain ⟨j, hj, rfl, v, rv, ps, qs, c, k, rk, hB, hkj, hrkj⟩ := hrel
    have hk : k < 1000000 := by omega
    have hrk : rk < 1000000 := by omega
    have HBw := hide (hbW.out.trans (hB.two.kp.to_below hbW.out.size hL.out))
    by_cases hlt : j < len
    · by_cases hlt2 : j < 100
      · obtain ⟨g, o, rfl, hX⟩ : ∃ g o, sa = some ⟨g, o, none⟩ ∧ ∀ j, j < len → ∃ x, OpAt w g (o + j * 8) x := by
          rcases hS.out with h0 | h
          · omega
          · exact h
        obtain ⟨x, hx⟩ := hX j hlt
        have cc : ∀ c, c < 8 → wr.cell? ⟨g, o + j * 8 + c, none⟩ = x.cs[c]? := fun c hc => by
          have h1 := hx.cell c hc
          obtain ⟨u, hu⟩ : ∃ u, x.cs[c]? = some u := ⟨_, List.getElem?_eq_getElem (by simpa [OpV.cs] using hc)⟩
          rw [hu] at h1 ⊢
          exact (HBw.out.cell (lt_of_cell h1)).trans h1
        obtain ⟨us, hus, hrd⟩ := hx.cut (Below.refl _ w)
        obtain ⟨kd, fa, fn, ta, tn, pa, pl, pc, I, KK⟩ := x
        have d0 : wr.cell? ⟨g, o + j * 8, none⟩ = some (.int .i64 kd) := cc 0 (by omega)
        have d1 : wr.cell? ⟨g, o + j * 8 + 1, none⟩ = some (.bool fa) := cc 1 (by omega)
        have d2 : wr.cell? ⟨g, o + j * 8 + 2, none⟩ = some (.int .i64 fn) := cc 2 (by omega)
        have d3 : wr.cell? ⟨g, o + j * 8 + 3, none⟩ = some (.bool ta) := cc 3 (by omega)
        have d4 : wr.cell? ⟨g, o + j * 8 + 4, none⟩ = some (.int .i64 tn) := cc 4 (by omega)
        have d5 : wr.cell? ⟨g, o + j * 8 + 5, none⟩ = some (.slice pa pl pc) := cc 5 (by omega)
        have d6 : wr.cell? ⟨g, o + j * 8 + 6, none⟩ = some (.int .i64 I) := cc 6 (by omega)
        have d7 : wr.cell? ⟨g, o + j * 8 + 7, none⟩ = some (.int .i64 KK) := cc 7 (by omega)
        have glt : g < wr.heap.size := lt_of_cell d0
        clear cc hX
        have hlc : Hid (pl ≤ pc) := hx.lc
        have hnil : Hid (pa = none → pl = 0 ∧ pc = 0) := hx.nil
        have hvl : Hid ((nums us).length = cl pl) := by show _ = _; rw [nums, List.length_map]; exact hus
        replace hrd : Hid (Rd8 w pa (nums us)) := hrd
        clear hx hus
        have bel := ((Below.refl wr.heap.size wr).alloc (Nat.le_refl _) (.cells #[.int .i64 kd, .bool fa, .int .i64 fn, .bool ta, .int .i64 tn, .slice pa pl pc, .int .i64 I, .int .i64 KK] 37)).drew
        have O1 := hide ((IsB.new wr #[.int .i64 kd, .bool fa, .int .i64 fn, .bool ta, .int .i64 tn, .slice pa pl pc, .int .i64 I, .int .i64 KK] 37).below ((Below.refl _ _).drew))
        have T1 := hide (hB.two.bel bel)
        have hA : Hid (wr.heap.size ∉ feet b m rb v rv) := fun hm => by
          rcases List.mem_append.1 hm with h1 | h1
          · have := hB.two.ns.lt _ h1; omega
          · have := hB.two.rs.lt _ h1; omega
        have hBw := hide (HBw.out.trans (bel.mono HBw.out.size))
        have hL1 : Hid (∀ j ∈ feet b m rb v rv, w.heap.size ≤ j) := fun j hj => by
          have h2 := hbW.out.size
          rcases List.mem_append.1 hj with h1 | h1
          · rcases hB.two.foot_in j h1 with h1 | h1
            · exact hL.out j h1
            · exact Nat.le_trans h2 h1
          · rcases hB.two.rfoot_in j h1 with h1 | h1
            · exact hL.out j h1
            · exact Nat.le_trans h2 h1
        have B0 : Hid (Both (feet b m rb v rv) _ _ b m rb v rv ps qs c k rk) := ⟨T1.out.from_, hB.like, hB.us⟩
        clear hB bel
        go_wp2
        clear d0 d1 d2 d3 d4 d5 d6 d7 glt
        generalize wr.heap.size = A at O1 hA ⊢
        generalize wr.alloc (.cells #[.int .i64 kd, .bool fa, .int .i64 fn, .bool ta, .int .i64 tn, .slice pa pl pc, .int .i64 I, .int .i64 KK] 37) = W0 at *
        clear hL
        have hL := hL1
        clear hL1
        have HS8 : Hid ((fun w' => w'.cell? ⟨A, 0, none⟩ = some (.int .i64 kd) ∧ w'.cell? ⟨A, 1, none⟩ = some (.bool fa) ∧ w'.cell? ⟨A, 2, none⟩ = some (.int .i64 fn) ∧ w'.cell? ⟨A, 3, none⟩ = some (.bool ta) ∧ w'.cell? ⟨A, 4, none⟩ = some (.int .i64 tn) ∧ w'.cell? ⟨A, 5, none⟩ = some (.slice pa pl pc) ∧ w'.cell? ⟨A, 6, none⟩ = some (.int .i64 I) ∧ w'.cell? ⟨A, 7, none⟩ = some (.int .i64 KK)) W0.drew) := ⟨O1.out.cell 0, O1.out.cell 1, O1.out.cell 2, O1.out.cell 3, O1.out.cell 4, O1.out.cell 5, O1.out.cell 6, O1.out.cell 7⟩
        by_cases hok : okA fn = true
        · skip
          refine regionL 36 (fun w' => w'.cell? ⟨A, 0, none⟩ = some (.int .i64 kd) ∧ w'.cell? ⟨A, 1, none⟩ = some (.bool fa) ∧ w'.cell? ⟨A, 2, none⟩ = some (.int .i64 fn) ∧ w'.cell? ⟨A, 3, none⟩ = some (.bool ta) ∧ w'.cell? ⟨A, 4, none⟩ = some (.int .i64 tn) ∧ w'.cell? ⟨A, 5, none⟩ = some (.slice pa pl pc) ∧ w'.cell? ⟨A, 6, none⟩ = some (.int .i64 I) ∧ w'.cell? ⟨A, 7, none⟩ = some (.int .i64 KK)) mixed HS8.out (fun hHeld => ?_)
          refine pickA (v := ?_) 0 (some 29) rfl rfl (by kernel_rfl) (by kernel_rfl) (by kernel_rfl) (by decide) (fun _ _ _ h => h) (by rfl) ?_ (by assumption) ?_
          rotate_left
          · intro w'
            go_simp
            try with_reducible rfl
          try simp only [Act.put, List.setIfInBounds_toArray, List.set_cons_zero, List.set_cons_succ]
          refine pickA (v := ?_) 1 (some 30) rfl rfl (by kernel_rfl) (by kernel_rfl) (by kernel_rfl) (by decide) (fun _ _ _ h => h) (by rfl) ?_ (by assumption) ?_
          rotate_left
          · intro w'
            go_simp
            try with_reducible rfl
          try simp only [Act.put, List.setIfInBounds_toArray, List.set_cons_zero, List.set_cons_succ]
          refine pickL (v := ?_) 2 (some 31) rfl rfl (by kernel_rfl) (by kernel_rfl) (by kernel_rfl) (by decide) (by kernel_rfl) (by kernel_rfl) (fun _ _ _ h => h) (by rfl) ?_ (by assumption) ?_
          rotate_left
          · intro w' hSw
            obtain ⟨q0, q1, q2, q3, q4, q5, q6, q7⟩ := hSw
            go_simp
            try with_reducible rfl
          try simp only [Act.put, List.setIfInBounds_toArray, List.set_cons_zero, List.set_cons_succ]
          refine oneL (i := 3) (by kernel_rfl) rfl (fun K hK => ?_)
          go_simp
          refine (step_any hBw.out hL.out hk hrk B0.out kd fa fn ta tn pa pl pc hlc.out hnil.out I KK us hvl.out hrd.out).mono ?_; rintro e W2 ⟨rfl, v', rv', ps', qs', c', k', rk', hB', hk', hrk'⟩
          have O2 := hide (O1.out.kp hB'.two.kp hA.out)
          have BB : Hid (Both [b, m, rb] W1 W2 b m rb v' rv' ps' qs' c' k' rk') := ⟨T1.out.join hB'.two, hB'.like, hB'.us⟩
          have hlen : Hid (ps'.length = qs'.length) := hB'.like.len
          obtain ⟨ra, rcap, hrv, -, -⟩ := hB'.two.rs.row.row.shape
          subst hrv
          have hql := hB'.two.rs.len
          generalize hrl : qs'.length = rl at *
          replace hrl := hide hrl
          have hK8 : Hid (∀ W, Below W2.heap.size W2 W → (fun w' => (w'.cell? ⟨A, 0, none⟩ = some (.int .i64 kd) ∧ w'.cell? ⟨A, 1, none⟩ = some (.bool fa) ∧ w'.cell? ⟨A, 2, none⟩ = some (.int .i64 fn) ∧ w'.cell? ⟨A, 3, none⟩ = some (.bool ta) ∧ w'.cell? ⟨A, 4, none⟩ = some (.int .i64 tn) ∧ w'.cell? ⟨A, 5, none⟩ = some (.slice pa pl pc) ∧ w'.cell? ⟨A, 6, none⟩ = some (.int .i64 I) ∧ w'.cell? ⟨A, 7, none⟩ = some (.int .i64 KK)) ∧ w'.cell? ⟨rb, 0, none⟩ = some (.slice ra rl rcap) ∧ w'.cell? ⟨rb, 1, none⟩ = some (.int .i64 c'.p) ∧ w'.cell? ⟨rb, 2, none⟩ = some (.int .i64 c'.l) ∧ w'.cell? ⟨rb, 3, none⟩ = some (.int .i64 c'.d) ∧ w'.cell? ⟨rb, 4, none⟩ = some (.int .i64 c'.r)) W) := fun W hW => by
            have h1 := O2.out.below hW
            have h2 := (BB.out.two.rs.blk).below hW
            exact ⟨⟨h1.cell 0, h1.cell 1, h1.cell 2, h1.cell 3, h1.cell 4, h1.cell 5, h1.cell 6, h1.cell 7⟩, h2.cell 0, h2.cell 1, h2.cell 2, h2.cell 3, h2.cell 4⟩
          have hS2 := hide (hK8.out W2 (Below.refl _ _))
          clear hB' B0 O1 T1 hA
          refine hK.out _ _ ?_ ?_
          · exact hS2.out.1
          clear hK K
          try simp only [Act.put, List.setIfInBounds_toArray, List.set_cons_zero, List.set_cons_succ]
          clear hHeld
          refine strL (S' := fun w' => (w'.cell? ⟨A, 0, none⟩ = some (.int .i64 kd) ∧ w'.cell? ⟨A, 1, none⟩ = some (.bool fa) ∧ w'.cell? ⟨A, 2, none⟩ = some (.int .i64 fn) ∧ w'.cell? ⟨A, 3, none⟩ = some (.bool ta) ∧ w'.cell? ⟨A, 4, none⟩ = some (.int .i64 tn) ∧ w'.cell? ⟨A, 5, none⟩ = some (.slice pa pl pc) ∧ w'.cell? ⟨A, 6, none⟩ = some (.int .i64 I) ∧ w'.cell? ⟨A, 7, none⟩ = some (.int .i64 KK)) ∧ w'.cell? ⟨rb, 0, none⟩ = some (.slice ra rl rcap) ∧ w'.cell? ⟨rb, 1, none⟩ = some (.int .i64 c'.p) ∧ w'.cell? ⟨rb, 2, none⟩ = some (.int .i64 c'.l) ∧ w'.cell? ⟨rb, 3, none⟩ = some (.int .i64 c'.d) ∧ w'.cell? ⟨rb, 4, none⟩ = some (.int .i64 c'.r)) (fun _ h => h.1) _ _ _ _ ?_
          have hHeld : (fun w' => (w'.cell? ⟨A, 0, none⟩ = some (.int .i64 kd) ∧ w'.cell? ⟨A, 1, none⟩ = some (.bool fa) ∧ w'.cell? ⟨A, 2, none⟩ = some (.int .i64 fn) ∧ w'.cell? ⟨A, 3, none⟩ = some (.bool ta) ∧ w'.cell? ⟨A, 4, none⟩ = some (.int .i64 tn) ∧ w'.cell? ⟨A, 5, none⟩ = some (.slice pa pl pc) ∧ w'.cell? ⟨A, 6, none⟩ = some (.int .i64 I) ∧ w'.cell? ⟨A, 7, none⟩ = some (.int .i64 KK)) ∧ w'.cell? ⟨rb, 0, none⟩ = some (.slice ra rl rcap) ∧ w'.cell? ⟨rb, 1, none⟩ = some (.int .i64 c'.p) ∧ w'.cell? ⟨rb, 2, none⟩ = some (.int .i64 c'.l) ∧ w'.cell? ⟨rb, 3, none⟩ = some (.int .i64 c'.d) ∧ w'.cell? ⟨rb, 4, none⟩ = some (.int .i64 c'.r)) W2 := hS2.out
          refine pickA (v := ?_) 4 (some 33) rfl rfl (by kernel_rfl) (by kernel_rfl) (by kernel_rfl) (by decide) (fun _ _ _ h => h) (by rfl) ?_ (by assumption) ?_
          rotate_left
          · intro w'
            go_simp
            try with_reducible rfl
          try simp only [Act.put, List.setIfInBounds_toArray, List.set_cons_zero, List.set_cons_succ]
          refine pickA (v := ?_) 5 (some 34) rfl rfl (by kernel_rfl) (by kernel_rfl) (by kernel_rfl) (by decide) (fun _ _ _ h => h) (by rfl) ?_ (by assumption) ?_
          rotate_left
          · intro w'
            go_simp
            try with_reducible rfl
          try simp only [Act.put, List.setIfInBounds_toArray, List.set_cons_zero, List.set_cons_succ]
          refine pickA (v := ?_) 6 (some 35) rfl rfl (by kernel_rfl) (by kernel_rfl) (by kernel_rfl) (by decide) (fun _ _ _ h => h) (by rfl) ?_ (by assumption) ?_
          rotate_left
          · intro w'
            go_simp
            try with_reducible rfl
          try simp only [Act.put, List.setIfInBounds_toArray, List.set_cons_zero, List.set_cons_succ]
          refine pickA (v := ?_) 8 (some 37) rfl rfl (by kernel_rfl) (by kernel_rfl) (by kernel_rfl) (by decide) (fun _ _ _ h => h) (by rfl) ?_ (by assumption) ?_
          rotate_left
          · intro w'
            go_simp
            try with_reducible rfl
          try simp only [Act.put, List.setIfInBounds_toArray, List.set_cons_zero, List.set_cons_succ]
          refine pickA (v := ?_) 9 (some 38) rfl rfl (by kernel_rfl) (by kernel_rfl) (by kernel_rfl) (by decide) (fun _ _ _ h => h) (by rfl) ?_ (by assumption) ?_
          rotate_left
          · intro w'
            go_simp
            try with_reducible rfl
          try simp only [Act.put, List.setIfInBounds_toArray, List.set_cons_zero, List.set_cons_succ]
          refine pickA (v := ?_) 10 (some 39) rfl rfl (by kernel_rfl) (by kernel_rfl) (by kernel_rfl) (by decide) (fun _ _ _ h => h) (by rfl) ?_ (by assumption) ?_
          rotate_left
          · intro w'
            go_simp
            try with_reducible rfl
          try simp only [Act.put, List.setIfInBounds_toArray, List.set_cons_zero, List.set_cons_succ]
          refine pickL (v := ?_) 11 (some 40) rfl rfl (by kernel_rfl) (by kernel_rfl) (by kernel_rfl) (by decide) (by kernel_rfl) (by kernel_rfl) (fun _ _ _ h => h) (by rfl) ?_ (by assumption) ?_
          rotate_left
          · intro w' hSw
            obtain ⟨⟨q0, q1, q2, q3, q4, q5, q6, q7⟩, r0, r1, r2, r3, r4⟩ := hSw
            go_simp
            try with_reducible rfl
          try simp only [Act.put, List.setIfInBounds_toArray, List.set_cons_zero, List.set_cons_succ]
          refine pickA (v := ?_) 12 (some 41) rfl rfl (by kernel_rfl) (by kernel_rfl) (by kernel_rfl) (by decide) (fun _ _ _ h => h) (by rfl) ?_ (by assumption) ?_
          rotate_left
          · intro w'
            go_simp
            try with_reducible rfl
          try simp only [Act.put, List.setIfInBounds_toArray, List.set_cons_zero, List.set_cons_succ]
          refine oneL (i := 7) (by kernel_rfl) rfl (fun K hK => ?_)
          go_simp
          refine (len_any b m _ _ _ _ _ BB.out.two.ns).mono ?_; rintro e w7 ⟨rfl, rfl⟩
          rw [hlen.out]
          refine hK.out _ _ ?_ ?_
          · exact hS2.out
          clear hK K
          try simp only [Act.put, List.setIfInBounds_toArray, List.set_cons_zero, List.set_cons_succ]
          refine pickA (v := ?_) 13 (some 42) rfl rfl (by kernel_rfl) (by kernel_rfl) (by kernel_rfl) (by decide) (fun _ _ _ h => h) (by rfl) ?_ (by assumption) ?_
          rotate_left
          · intro w'
            go_simp
            try with_reducible rfl
          try simp only [Act.put, List.setIfInBounds_toArray, List.set_cons_zero, List.set_cons_succ]
          refine pickA (v := ?_) 14 (some 43) rfl rfl (by kernel_rfl) (by kernel_rfl) (by kernel_rfl) (by decide) (fun _ _ _ h => h) (by rfl) ?_ (by assumption) ?_
          rotate_left
          · intro w'
            go_simp
            try with_reducible rfl
          try simp only [Act.put, List.setIfInBounds_toArray, List.set_cons_zero, List.set_cons_succ]
          refine pickA (v := ?_) 15 (some 44) rfl rfl (by kernel_rfl) (by kernel_rfl) (by kernel_rfl) (by decide) (fun _ _ _ h => h) (by rfl) ?_ (by assumption) ?_
          rotate_left
          · intro w'
            go_simp
            try with_reducible rfl
          try simp only [Act.put, List.setIfInBounds_toArray, List.set_cons_zero, List.set_cons_succ]
          refine pickA (v := ?_) 16 (some 45) rfl rfl (by kernel_rfl) (by kernel_rfl) (by kernel_rfl) (by decide) (fun _ _ _ h => h) (by rfl) ?_ (by assumption) ?_
          rotate_left
          · intro w'
            go_simp
            try with_reducible rfl
          try simp only [Act.put, List.setIfInBounds_toArray, List.set_cons_zero, List.set_cons_succ]
          refine pickA (v := ?_) 18 (some 47) rfl rfl (by kernel_rfl) (by kernel_rfl) (by kernel_rfl) (by decide) (fun _ _ _ h => h) (by rfl) ?_ (by assumption) ?_
          rotate_left
          · intro w'
            go_simp
            try with_reducible rfl
          try simp only [Act.put, List.setIfInBounds_toArray, List.set_cons_zero, List.set_cons_succ]
          refine pickA (v := ?_) 19 (some 48) rfl rfl (by kernel_rfl) (by kernel_rfl) (by kernel_rfl) (by decide) (fun _ _ _ h => h) (by rfl) ?_ (by assumption) ?_
          rotate_left
          · intro w'
            go_simp
            try with_reducible rfl
          try simp only [Act.put, List.setIfInBounds_toArray, List.set_cons_zero, List.set_cons_succ]
          refine pickA (v := ?_) 20 (some 49) rfl rfl (by kernel_rfl) (by kernel_rfl) (by kernel_rfl) (by decide) (fun _ _ _ h => h) (by rfl) ?_ (by assumption) ?_
          rotate_left
          · intro w'
            go_simp
            try with_reducible rfl
          try simp only [Act.put, List.setIfInBounds_toArray, List.set_cons_zero, List.set_cons_succ]
          refine pickL (v := ?_) 21 (some 50) rfl rfl (by kernel_rfl) (by kernel_rfl) (by kernel_rfl) (by decide) (by kernel_rfl) (by kernel_rfl) (fun _ _ _ h => h) (by rfl) ?_ (by assumption) ?_
          rotate_left
          · intro w' hSw
            obtain ⟨⟨q0, q1, q2, q3, q4, q5, q6, q7⟩, r0, r1, r2, r3, r4⟩ := hSw
            go_simp
            try with_reducible rfl
          try simp only [Act.put, List.setIfInBounds_toArray, List.set_cons_zero, List.set_cons_succ]
          refine oneL (i := 17) (by kernel_rfl) rfl (fun K hK => ?_)
          go_simp
          refine (stats_any b m _ _ _ _ _ BB.out.two.ns).mono ?_; rintro e W3 ⟨rfl, hb⟩
          unfold statV
          have hb3 := hide hb
          have hS3 := hide (hK8.out W3 hb)
          clear hb
          refine hK.out _ _ ?_ ?_
          · exact hS3.out
          clear hK K
          try simp only [Act.put, List.setIfInBounds_toArray, List.set_cons_zero, List.set_cons_succ]
          clear hHeld
          have hHeld : (fun w' => (w'.cell? ⟨A, 0, none⟩ = some (.int .i64 kd) ∧ w'.cell? ⟨A, 1, none⟩ = some (.bool fa) ∧ w'.cell? ⟨A, 2, none⟩ = some (.int .i64 fn) ∧ w'.cell? ⟨A, 3, none⟩ = some (.bool ta) ∧ w'.cell? ⟨A, 4, none⟩ = some (.int .i64 tn) ∧ w'.cell? ⟨A, 5, none⟩ = some (.slice pa pl pc) ∧ w'.cell? ⟨A, 6, none⟩ = some (.int .i64 I) ∧ w'.cell? ⟨A, 7, none⟩ = some (.int .i64 KK)) ∧ w'.cell? ⟨rb, 0, none⟩ = some (.slice ra rl rcap) ∧ w'.cell? ⟨rb, 1, none⟩ = some (.int .i64 c'.p) ∧ w'.cell? ⟨rb, 2, none⟩ = some (.int .i64 c'.l) ∧ w'.cell? ⟨rb, 3, none⟩ = some (.int .i64 c'.d) ∧ w'.cell? ⟨rb, 4, none⟩ = some (.int .i64 c'.r)) W3 := hS3.out
          refine pickA (v := ?_) 22 (some 51) rfl rfl (by kernel_rfl) (by kernel_rfl) (by kernel_rfl) (by decide) (fun _ _ _ h => h) (by rfl) ?_ (by assumption) ?_
          rotate_left
          · intro w'
            go_simp
            try with_reducible rfl
          try simp only [Act.put, List.setIfInBounds_toArray, List.set_cons_zero, List.set_cons_succ]
          refine pickA (v := ?_) 23 (some 52) rfl rfl (by kernel_rfl) (by kernel_rfl) (by kernel_rfl) (by decide) (fun _ _ _ h => h) (by rfl) ?_ (by assumption) ?_
          rotate_left
          · intro w'
            go_simp
            try with_reducible rfl
          try simp only [Act.put, List.setIfInBounds_toArray, List.set_cons_zero, List.set_cons_succ]
          refine pickA (v := ?_) 24 (some 53) rfl rfl (by kernel_rfl) (by kernel_rfl) (by kernel_rfl) (by decide) (fun _ _ _ h => h) (by rfl) ?_ (by assumption) ?_
          rotate_left
          · intro w'
            go_simp
            try with_reducible rfl
          try simp only [Act.put, List.setIfInBounds_toArray, List.set_cons_zero, List.set_cons_succ]
          refine pickA (v := ?_) 25 (some 54) rfl rfl (by kernel_rfl) (by kernel_rfl) (by kernel_rfl) (by decide) (fun _ _ _ h => h) (by rfl) ?_ (by assumption) ?_
          rotate_left
          · intro w'
            go_simp
            try with_reducible rfl
          try simp only [Act.put, List.setIfInBounds_toArray, List.set_cons_zero, List.set_cons_succ]
          refine pickA (v := ?_) 26 (some 55) rfl rfl (by kernel_rfl) (by kernel_rfl) (by kernel_rfl) (by decide) (fun _ _ _ h => h) (by rfl) ?_ (by assumption) ?_
          rotate_left
          · intro w'
            go_simp
            try with_reducible rfl
          try simp only [Act.put, List.setIfInBounds_toArray, List.set_cons_zero, List.set_cons_succ]
          refine pickL (v := ?_) 27 (some 56) rfl rfl (by kernel_rfl) (by kernel_rfl) (by kernel_rfl) (by decide) (by kernel_rfl) (by kernel_rfl) (fun _ _ _ h => h) (by rfl) ?_ (by assumption) ?_
          rotate_left
          · intro w' hSw
            obtain ⟨⟨q0, q1, q2, q3, q4, q5, q6, q7⟩, r0, r1, r2, r3, r4⟩ := hSw
            go_simp
            try with_reducible rfl
          try simp only [Act.put, List.setIfInBounds_toArray, List.set_cons_zero, List.set_cons_succ]
          refine pickA (v := ?_) 30 (some 59) rfl rfl (by kernel_rfl) (by kernel_rfl) (by kernel_rfl) (by decide) (fun _ _ _ h => h) (by rfl) ?_ (by assumption) ?_
          rotate_left
          · intro w'
            go_simp
            try with_reducible rfl
          try simp only [Act.put, List.setIfInBounds_toArray, List.set_cons_zero, List.set_cons_succ]
          refine pickA (v := ?_) 31 (some 60) rfl rfl (by kernel_rfl) (by kernel_rfl) (by kernel_rfl) (by decide) (fun _ _ _ h => h) (by rfl) ?_ (by assumption) ?_
          rotate_left
          · intro w'
            go_simp
            try with_reducible rfl
          try simp only [Act.put, List.setIfInBounds_toArray, List.set_cons_zero, List.set_cons_succ]
          refine pickL (v := ?_) 32 (some 61) rfl rfl (by kernel_rfl) (by kernel_rfl) (by kernel_rfl) (by decide) (by kernel_rfl) (by kernel_rfl) (fun _ _ _ h => h) (by rfl) ?_ (by assumption) ?_
          rotate_left
          · intro w' hSw
            obtain ⟨⟨q0, q1, q2, q3, q4, q5, q6, q7⟩, r0, r1, r2, r3, r4⟩ := hSw
            go_simp
            try with_reducible rfl
          try simp only [Act.put, List.setIfInBounds_toArray, List.set_cons_zero, List.set_cons_succ]
          refine oneL (i := 28) (by kernel_rfl) rfl (fun K hK => ?_)
          go_simp
          refine (check_any fa fn _).mono ?_; rintro e W4 ⟨rfl, hb⟩
          simp only [hok]
          have hb4 := hide (hb3.out.trans (hb.mono hb3.out.size))
          have hS4 := hide (hK8.out W4 hb4.out)
          clear hb hb3
          refine hK.out _ _ ?_ ?_
          · exact hS4.out
          clear hK K
          try simp only [Act.put, List.setIfInBounds_toArray, List.set_cons_zero, List.set_cons_succ]
          clear hHeld
          have hHeld : (fun w' => (w'.cell? ⟨A, 0, none⟩ = some (.int .i64 kd) ∧ w'.cell? ⟨A, 1, none⟩ = some (.bool fa) ∧ w'.cell? ⟨A, 2, none⟩ = some (.int .i64 fn) ∧ w'.cell? ⟨A, 3, none⟩ = some (.bool ta) ∧ w'.cell? ⟨A, 4, none⟩ = some (.int .i64 tn) ∧ w'.cell? ⟨A, 5, none⟩ = some (.slice pa pl pc) ∧ w'.cell? ⟨A, 6, none⟩ = some (.int .i64 I) ∧ w'.cell? ⟨A, 7, none⟩ = some (.int .i64 KK)) ∧ w'.cell? ⟨rb, 0, none⟩ = some (.slice ra rl rcap) ∧ w'.cell? ⟨rb, 1, none⟩ = some (.int .i64 c'.p) ∧ w'.cell? ⟨rb, 2, none⟩ = some (.int .i64 c'.l) ∧ w'.cell? ⟨rb, 3, none⟩ = some (.int .i64 c'.d) ∧ w'.cell? ⟨rb, 4, none⟩ = some (.int .i64 c'.r)) W4 := hS4.out
          refine pickA (v := ?_) 29 (some 58) rfl rfl (by kernel_rfl) (by kernel_rfl) (by kernel_rfl) (by decide) (fun _ _ _ h => h) (by rfl) ?_ (by assumption) ?_
          rotate_left
          · intro w'
            go_simp
            try with_reducible rfl
          try simp only [Act.put, List.setIfInBounds_toArray, List.set_cons_zero, List.set_cons_succ]
          refine oneL (i := 33) (by kernel_rfl) rfl (fun K hK => ?_)
          go_simp
          refine (isAddr_any fa fn _).mono ?_; rintro e W5 ⟨rfl, hb⟩
          simp only [hok]
          have hb5 := hide (hb4.out.trans (hb.mono hb4.out.size))
          have hS5 := hide (hK8.out W5 hb5.out)
          clear hb hb4
          refine hK.out _ _ ?_ ?_
          · exact hS5.out
          clear hK K
          try simp only [Act.put, List.setIfInBounds_toArray, List.set_cons_zero, List.set_cons_succ]
          clear hHeld
          have hHeld : (fun w' => (w'.cell? ⟨A, 0, none⟩ = some (.int .i64 kd) ∧ w'.cell? ⟨A, 1, none⟩ = some (.bool fa) ∧ w'.cell? ⟨A, 2, none⟩ = some (.int .i64 fn) ∧ w'.cell? ⟨A, 3, none⟩ = some (.bool ta) ∧ w'.cell? ⟨A, 4, none⟩ = some (.int .i64 tn) ∧ w'.cell? ⟨A, 5, none⟩ = some (.slice pa pl pc) ∧ w'.cell? ⟨A, 6, none⟩ = some (.int .i64 I) ∧ w'.cell? ⟨A, 7, none⟩ = some (.int .i64 KK)) ∧ w'.cell? ⟨rb, 0, none⟩ = some (.slice ra rl rcap) ∧ w'.cell? ⟨rb, 1, none⟩ = some (.int .i64 c'.p) ∧ w'.cell? ⟨rb, 2, none⟩ = some (.int .i64 c'.l) ∧ w'.cell? ⟨rb, 3, none⟩ = some (.int .i64 c'.d) ∧ w'.cell? ⟨rb, 4, none⟩ = some (.int .i64 c'.r)) W5 := hS5.out
          refine pickA (v := ?_) 34 (some 63) rfl rfl (by kernel_rfl) (by kernel_rfl) (by kernel_rfl) (by decide) (fun _ _ _ h => h) (by rfl) ?_ (by assumption) ?_
          rotate_left
          · intro w'
            go_simp
            try with_reducible rfl
          try simp only [Act.put, List.setIfInBounds_toArray, List.set_cons_zero, List.set_cons_succ]
          refine pickA (v := ?_) 35 (some 64) rfl rfl (by kernel_rfl) (by kernel_rfl) (by kernel_rfl) (by decide) (fun _ _ _ h => h) (by rfl) ?_ (by assumption) ?_
          rotate_left
          · intro w'
            go_simp
            try with_reducible rfl
          try simp only [Act.put, List.setIfInBounds_toArray, List.set_cons_zero, List.set_cons_succ]
          refine doneL (by kernel_rfl) ?_ _
          clear hHeld
          go_wp2
          exact ⟨⟨j + 1, by omega, by simp, _, _, _, _, _, _, _, BB.out.bel hb5.out, by omega, by omega⟩, by simp [intOf]; omega⟩
        · replace hok : okA fn = false := by simpa using hok
          refine regionL 36 (fun w' => w'.cell? ⟨A, 0, none⟩ = some (.int .i64 kd) ∧ w'.cell? ⟨A, 1, none⟩ = some (.bool fa) ∧ w'.cell? ⟨A, 2, none⟩ = some (.int .i64 fn) ∧ w'.cell? ⟨A, 3, none⟩ = some (.bool ta) ∧ w'.cell? ⟨A, 4, none⟩ = some (.int .i64 tn) ∧ w'.cell? ⟨A, 5, none⟩ = some (.slice pa pl pc) ∧ w'.cell? ⟨A, 6, none⟩ = some (.int .i64 I) ∧ w'.cell? ⟨A, 7, none⟩ = some (.int .i64 KK)) mixed HS8.out (fun hHeld => ?_)
          refine pickA (v := ?_) 0 (some 29) rfl rfl (by kernel_rfl) (by kernel_rfl) (by kernel_rfl) (by decide) (fun _ _ _ h => h) (by rfl) ?_ (by assumption) ?_
          rotate_left
          · intro w'
            go_simp
            try with_reducible rfl
          try simp only [Act.put, List.setIfInBounds_toArray, List.set_cons_zero, List.set_cons_succ]
          refine pickA (v := ?_) 1 (some 30) rfl rfl (by kernel_rfl) (by kernel_rfl) (by kernel_rfl) (by decide) (fun _ _ _ h => h) (by rfl) ?_ (by assumption) ?_
          rotate_left
          · intro w'
            go_simp
            try with_reducible rfl
          try simp only [Act.put, List.setIfInBounds_toArray, List.set_cons_zero, List.set_cons_succ]
          refine pickL (v := ?_) 2 (some 31) rfl rfl (by kernel_rfl) (by kernel_rfl) (by kernel_rfl) (by decide) (by kernel_rfl) (by kernel_rfl) (fun _ _ _ h => h) (by rfl) ?_ (by assumption) ?_
          rotate_left
          · intro w' hSw
            obtain ⟨q0, q1, q2, q3, q4, q5, q6, q7⟩ := hSw
            go_simp
            try with_reducible rfl
          try simp only [Act.put, List.setIfInBounds_toArray, List.set_cons_zero, List.set_cons_succ]
          refine oneL (i := 3) (by kernel_rfl) rfl (fun K hK => ?_)
          go_simp
          refine (step_any hBw.out hL.out hk hrk B0.out kd fa fn ta tn pa pl pc hlc.out hnil.out I KK us hvl.out hrd.out).mono ?_; rintro e W2 ⟨rfl, v', rv', ps', qs', c', k', rk', hB', hk', hrk'⟩
          have O2 := hide (O1.out.kp hB'.two.kp hA.out)
          have BB : Hid (Both [b, m, rb] W1 W2 b m rb v' rv' ps' qs' c' k' rk') := ⟨T1.out.join hB'.two, hB'.like, hB'.us⟩
          have hlen : Hid (ps'.length = qs'.length) := hB'.like.len
          obtain ⟨ra, rcap, hrv, -, -⟩ := hB'.two.rs.row.row.shape
          subst hrv
          have hql := hB'.two.rs.len
          generalize hrl : qs'.length = rl at *
          replace hrl := hide hrl
          have hK8 : Hid (∀ W, Below W2.heap.size W2 W → (fun w' => (w'.cell? ⟨A, 0, none⟩ = some (.int .i64 kd) ∧ w'.cell? ⟨A, 1, none⟩ = some (.bool fa) ∧ w'.cell? ⟨A, 2, none⟩ = some (.int .i64 fn) ∧ w'.cell? ⟨A, 3, none⟩ = some (.bool ta) ∧ w'.cell? ⟨A, 4, none⟩ = some (.int .i64 tn) ∧ w'.cell? ⟨A, 5, none⟩ = some (.slice pa pl pc) ∧ w'.cell? ⟨A, 6, none⟩ = some (.int .i64 I) ∧ w'.cell? ⟨A, 7, none⟩ = some (.int .i64 KK)) ∧ w'.cell? ⟨rb, 0, none⟩ = some (.slice ra rl rcap) ∧ w'.cell? ⟨rb, 1, none⟩ = some (.int .i64 c'.p) ∧ w'.cell? ⟨rb, 2, none⟩ = some (.int .i64 c'.l) ∧ w'.cell? ⟨rb, 3, none⟩ = some (.int .i64 c'.d) ∧ w'.cell? ⟨rb, 4, none⟩ = some (.int .i64 c'.r)) W) := fun W hW => by
            have h1 := O2.out.below hW
            have h2 := (BB.out.two.rs.blk).below hW
            exact ⟨⟨h1.cell 0, h1.cell 1, h1.cell 2, h1.cell 3, h1.cell 4, h1.cell 5, h1.cell 6, h1.cell 7⟩, h2.cell 0, h2.cell 1, h2.cell 2, h2.cell 3, h2.cell 4⟩
          have hS2 := hide (hK8.out W2 (Below.refl _ _))
          clear hB' B0 O1 T1 hA
          refine hK.out _ _ ?_ ?_
          · exact hS2.out.1
          clear hK K
          try simp only [Act.put, List.setIfInBounds_toArray, List.set_cons_zero, List.set_cons_succ]
          clear hHeld
          refine strL (S' := fun w' => (w'.cell? ⟨A, 0, none⟩ = some (.int .i64 kd) ∧ w'.cell? ⟨A, 1, none⟩ = some (.bool fa) ∧ w'.cell? ⟨A, 2, none⟩ = some (.int .i64 fn) ∧ w'.cell? ⟨A, 3, none⟩ = some (.bool ta) ∧ w'.cell? ⟨A, 4, none⟩ = some (.int .i64 tn) ∧ w'.cell? ⟨A, 5, none⟩ = some (.slice pa pl pc) ∧ w'.cell? ⟨A, 6, none⟩ = some (.int .i64 I) ∧ w'.cell? ⟨A, 7, none⟩ = some (.int .i64 KK)) ∧ w'.cell? ⟨rb, 0, none⟩ = some (.slice ra rl rcap) ∧ w'.cell? ⟨rb, 1, none⟩ = some (.int .i64 c'.p) ∧ w'.cell? ⟨rb, 2, none⟩ = some (.int .i64 c'.l) ∧ w'.cell? ⟨rb, 3, none⟩ = some (.int .i64 c'.d) ∧ w'.cell? ⟨rb, 4, none⟩ = some (.int .i64 c'.r)) (fun _ h => h.1) _ _ _ _ ?_
          have hHeld : (fun w' => (w'.cell? ⟨A, 0, none⟩ = some (.int .i64 kd) ∧ w'.cell? ⟨A, 1, none⟩ = some (.bool fa) ∧ w'.cell? ⟨A, 2, none⟩ = some (.int .i64 fn) ∧ w'.cell? ⟨A, 3, none⟩ = some (.bool ta) ∧ w'.cell? ⟨A, 4, none⟩ = some (.int .i64 tn) ∧ w'.cell? ⟨A, 5, none⟩ = some (.slice pa pl pc) ∧ w'.cell? ⟨A, 6, none⟩ = some (.int .i64 I) ∧ w'.cell? ⟨A, 7, none⟩ = some (.int .i64 KK)) ∧ w'.cell? ⟨rb, 0, none⟩ = some (.slice ra rl rcap) ∧ w'.cell? ⟨rb, 1, none⟩ = some (.int .i64 c'.p) ∧ w'.cell? ⟨rb, 2, none⟩ = some (.int .i64 c'.l) ∧ w'.cell? ⟨rb, 3, none⟩ = some (.int .i64 c'.d) ∧ w'.cell? ⟨rb, 4, none⟩ = some (.int .i64 c'.r)) W2 := hS2.out
          refine pickA (v := ?_) 4 (some 33) rfl rfl (by kernel_rfl) (by kernel_rfl) (by kernel_rfl) (by decide) (fun _ _ _ h => h) (by rfl) ?_ (by assumption) ?_
          rotate_left
          · intro w'
            go_simp
            try with_reducible rfl
          try simp only [Act.put, List.setIfInBounds_toArray, List.set_cons_zero, List.set_cons_succ]
          refine pickA (v := ?_) 5 (some 34) rfl rfl (by kernel_rfl) (by kernel_rfl) (by kernel_rfl) (by decide) (fun _ _ _ h => h) (by rfl) ?_ (by assumption) ?_
          rotate_left
          · intro w'
            go_simp
            try with_reducible rfl
          try simp only [Act.put, List.setIfInBounds_toArray, List.set_cons_zero, List.set_cons_succ]
          refine pickA (v := ?_) 6 (some 35) rfl rfl (by kernel_rfl) (by kernel_rfl) (by kernel_rfl) (by decide) (fun _ _ _ h => h) (by rfl) ?_ (by assumption) ?_
          rotate_left
          · intro w'
            go_simp
            try with_reducible rfl
          try simp only [Act.put, List.setIfInBounds_toArray, List.set_cons_zero, List.set_cons_succ]
          refine pickA (v := ?_) 8 (some 37) rfl rfl (by kernel_rfl) (by kernel_rfl) (by kernel_rfl) (by decide) (fun _ _ _ h => h) (by rfl) ?_ (by assumption) ?_
          rotate_left
          · intro w'
            go_simp
            try with_reducible rfl
          try simp only [Act.put, List.setIfInBounds_toArray, List.set_cons_zero, List.set_cons_succ]
          refine pickA (v := ?_) 9 (some 38) rfl rfl (by kernel_rfl) (by kernel_rfl) (by kernel_rfl) (by decide) (fun _ _ _ h => h) (by rfl) ?_ (by assumption) ?_
          rotate_left
          · intro w'
            go_simp
            try with_reducible rfl
          try simp only [Act.put, List.setIfInBounds_toArray, List.set_cons_zero, List.set_cons_succ]
          refine pickA (v := ?_) 10 (some 39) rfl rfl (by kernel_rfl) (by kernel_rfl) (by kernel_rfl) (by decide) (fun _ _ _ h => h) (by rfl) ?_ (by assumption) ?_
          rotate_left
          · intro w'
            go_simp
            try with_reducible rfl
          try simp only [Act.put, List.setIfInBounds_toArray, List.set_cons_zero, List.set_cons_succ]
          refine pickL (v := ?_) 11 (some 40) rfl rfl (by kernel_rfl) (by kernel_rfl) (by kernel_rfl) (by decide) (by kernel_rfl) (by kernel_rfl) (fun _ _ _ h => h) (by rfl) ?_ (by assumption) ?_
          rotate_left
          · intro w' hSw
            obtain ⟨⟨q0, q1, q2, q3, q4, q5, q6, q7⟩, r0, r1, r2, r3, r4⟩ := hSw
            go_simp
            try with_reducible rfl
          try simp only [Act.put, List.setIfInBounds_toArray, List.set_cons_zero, List.set_cons_succ]
          refine pickA (v := ?_) 12 (some 41) rfl rfl (by kernel_rfl) (by kernel_rfl) (by kernel_rfl) (by decide) (fun _ _ _ h => h) (by rfl) ?_ (by assumption) ?_
          rotate_left
          · intro w'
            go_simp
            try with_reducible rfl
          try simp only [Act.put, List.setIfInBounds_toArray, List.set_cons_zero, List.set_cons_succ]
          refine oneL (i := 7) (by kernel_rfl) rfl (fun K hK => ?_)
          go_simp
          refine (len_any b m _ _ _ _ _ BB.out.two.ns).mono ?_; rintro e w7 ⟨rfl, rfl⟩
          rw [hlen.out]
          refine hK.out _ _ ?_ ?_
          · exact hS2.out
          clear hK K
          try simp only [Act.put, List.setIfInBounds_toArray, List.set_cons_zero, List.set_cons_succ]
          refine pickA (v := ?_) 13 (some 42) rfl rfl (by kernel_rfl) (by kernel_rfl) (by kernel_rfl) (by decide) (fun _ _ _ h => h) (by rfl) ?_ (by assumption) ?_
          rotate_left
          · intro w'
            go_simp
            try with_reducible rfl
          try simp only [Act.put, List.setIfInBounds_toArray, List.set_cons_zero, List.set_cons_succ]
          refine pickA (v := ?_) 14 (some 43) rfl rfl (by kernel_rfl) (by kernel_rfl) (by kernel_rfl) (by decide) (fun _ _ _ h => h) (by rfl) ?_ (by assumption) ?_
          rotate_left
          · intro w'
            go_simp
            try with_reducible rfl
          try simp only [Act.put, List.setIfInBounds_toArray, List.set_cons_zero, List.set_cons_succ]
          refine pickA (v := ?_) 15 (some 44) rfl rfl (by kernel_rfl) (by kernel_rfl) (by kernel_rfl) (by decide) (fun _ _ _ h => h) (by rfl) ?_ (by assumption) ?_
          rotate_left
          · intro w'
            go_simp
            try with_reducible rfl
          try simp only [Act.put, List.setIfInBounds_toArray, List.set_cons_zero, List.set_cons_succ]
          refine pickA (v := ?_) 16 (some 45) rfl rfl (by kernel_rfl) (by kernel_rfl) (by kernel_rfl) (by decide) (fun _ _ _ h => h) (by rfl) ?_ (by assumption) ?_
          rotate_left
          · intro w'
            go_simp
            try with_reducible rfl
          try simp only [Act.put, List.setIfInBounds_toArray, List.set_cons_zero, List.set_cons_succ]
          refine pickA (v := ?_) 18 (some 47) rfl rfl (by kernel_rfl) (by kernel_rfl) (by kernel_rfl) (by decide) (fun _ _ _ h => h) (by rfl) ?_ (by assumption) ?_
          rotate_left
          · intro w'
            go_simp
            try with_reducible rfl
          try simp only [Act.put, List.setIfInBounds_toArray, List.set_cons_zero, List.set_cons_succ]
          refine pickA (v := ?_) 19 (some 48) rfl rfl (by kernel_rfl) (by kernel_rfl) (by kernel_rfl) (by decide) (fun _ _ _ h => h) (by rfl) ?_ (by assumption) ?_
          rotate_left
          · intro w'
            go_simp
            try with_reducible rfl
          try simp only [Act.put, List.setIfInBounds_toArray, List.set_cons_zero, List.set_cons_succ]
          refine pickA (v := ?_) 20 (some 49) rfl rfl (by kernel_rfl) (by kernel_rfl) (by kernel_rfl) (by decide) (fun _ _ _ h => h) (by rfl) ?_ (by assumption) ?_
          rotate_left
          · intro w'
            go_simp
            try with_reducible rfl
          try simp only [Act.put, List.setIfInBounds_toArray, List.set_cons_zero, List.set_cons_succ]
          refine pickL (v := ?_) 21 (some 50) rfl rfl (by kernel_rfl) (by kernel_rfl) (by kernel_rfl) (by decide) (by kernel_rfl) (by kernel_rfl) (fun _ _ _ h => h) (by rfl) ?_ (by assumption) ?_
          rotate_left
          · intro w' hSw
            obtain ⟨⟨q0, q1, q2, q3, q4, q5, q6, q7⟩, r0, r1, r2, r3, r4⟩ := hSw
            go_simp
            try with_reducible rfl
          try simp only [Act.put, List.setIfInBounds_toArray, List.set_cons_zero, List.set_cons_succ]
          refine oneL (i := 17) (by kernel_rfl) rfl (fun K hK => ?_)
          go_simp
          refine (stats_any b m _ _ _ _ _ BB.out.two.ns).mono ?_; rintro e W3 ⟨rfl, hb⟩
          unfold statV
          have hb3 := hide hb
          have hS3 := hide (hK8.out W3 hb)
          clear hb
          refine hK.out _ _ ?_ ?_
          · exact hS3.out
          clear hK K
          try simp only [Act.put, List.setIfInBounds_toArray, List.set_cons_zero, List.set_cons_succ]
          clear hHeld
          have hHeld : (fun w' => (w'.cell? ⟨A, 0, none⟩ = some (.int .i64 kd) ∧ w'.cell? ⟨A, 1, none⟩ = some (.bool fa) ∧ w'.cell? ⟨A, 2, none⟩ = some (.int .i64 fn) ∧ w'.cell? ⟨A, 3, none⟩ = some (.bool ta) ∧ w'.cell? ⟨A, 4, none⟩ = some (.int .i64 tn) ∧ w'.cell? ⟨A, 5, none⟩ = some (.slice pa pl pc) ∧ w'.cell? ⟨A, 6, none⟩ = some (.int .i64 I) ∧ w'.cell? ⟨A, 7, none⟩ = some (.int .i64 KK)) ∧ w'.cell? ⟨rb, 0, none⟩ = some (.slice ra rl rcap) ∧ w'.cell? ⟨rb, 1, none⟩ = some (.int .i64 c'.p) ∧ w'.cell? ⟨rb, 2, none⟩ = some (.int .i64 c'.l) ∧ w'.cell? ⟨rb, 3, none⟩ = some (.int .i64 c'.d) ∧ w'.cell? ⟨rb, 4, none⟩ = some (.int .i64 c'.r)) W3 := hS3.out
          refine pickA (v := ?_) 22 (some 51) rfl rfl (by kernel_rfl) (by kernel_rfl) (by kernel_rfl) (by decide) (fun _ _ _ h => h) (by rfl) ?_ (by assumption) ?_
          rotate_left
          · intro w'
            go_simp
            try with_reducible rfl
          try simp only [Act.put, List.setIfInBounds_toArray, List.set_cons_zero, List.set_cons_succ]
          refine pickA (v := ?_) 23 (some 52) rfl rfl (by kernel_rfl) (by kernel_rfl) (by kernel_rfl) (by decide) (fun _ _ _ h => h) (by rfl) ?_ (by assumption) ?_
          rotate_left
          · intro w'
            go_simp
            try with_reducible rfl
          try simp only [Act.put, List.setIfInBounds_toArray, List.set_cons_zero, List.set_cons_succ]
          refine pickA (v := ?_) 24 (some 53) rfl rfl (by kernel_rfl) (by kernel_rfl) (by kernel_rfl) (by decide) (fun _ _ _ h => h) (by rfl) ?_ (by assumption) ?_
          rotate_left
          · intro w'
            go_simp
            try with_reducible rfl
          try simp only [Act.put, List.setIfInBounds_toArray, List.set_cons_zero, List.set_cons_succ]
          refine pickA (v := ?_) 25 (some 54) rfl rfl (by kernel_rfl) (by kernel_rfl) (by kernel_rfl) (by decide) (fun _ _ _ h => h) (by rfl) ?_ (by assumption) ?_
          rotate_left
          · intro w'
            go_simp
            try with_reducible rfl
          try simp only [Act.put, List.setIfInBounds_toArray, List.set_cons_zero, List.set_cons_succ]
          refine pickA (v := ?_) 26 (some 55) rfl rfl (by kernel_rfl) (by kernel_rfl) (by kernel_rfl) (by decide) (fun _ _ _ h => h) (by rfl) ?_ (by assumption) ?_
          rotate_left
          · intro w'
            go_simp
            try with_reducible rfl
          try simp only [Act.put, List.setIfInBounds_toArray, List.set_cons_zero, List.set_cons_succ]
          refine pickL (v := ?_) 27 (some 56) rfl rfl (by kernel_rfl) (by kernel_rfl) (by kernel_rfl) (by decide) (by kernel_rfl) (by kernel_rfl) (fun _ _ _ h => h) (by rfl) ?_ (by assumption) ?_
          rotate_left
          · intro w' hSw
            obtain ⟨⟨q0, q1, q2, q3, q4, q5, q6, q7⟩, r0, r1, r2, r3, r4⟩ := hSw
            go_simp
            try with_reducible rfl
          try simp only [Act.put, List.setIfInBounds_toArray, List.set_cons_zero, List.set_cons_succ]
          refine pickA (v := ?_) 30 (some 59) rfl rfl (by kernel_rfl) (by kernel_rfl) (by kernel_rfl) (by decide) (fun _ _ _ h => h) (by rfl) ?_ (by assumption) ?_
          rotate_left
          · intro w'
            go_simp
            try with_reducible rfl
          try simp only [Act.put, List.setIfInBounds_toArray, List.set_cons_zero, List.set_cons_succ]
          refine pickA (v := ?_) 31 (some 60) rfl rfl (by kernel_rfl) (by kernel_rfl) (by kernel_rfl) (by decide) (fun _ _ _ h => h) (by rfl) ?_ (by assumption) ?_
          rotate_left
          · intro w'
            go_simp
            try with_reducible rfl
          try simp only [Act.put, List.setIfInBounds_toArray, List.set_cons_zero, List.set_cons_succ]
          refine pickL (v := ?_) 32 (some 61) rfl rfl (by kernel_rfl) (by kernel_rfl) (by kernel_rfl) (by decide) (by kernel_rfl) (by kernel_rfl) (fun _ _ _ h => h) (by rfl) ?_ (by assumption) ?_
          rotate_left
          · intro w' hSw
            obtain ⟨⟨q0, q1, q2, q3, q4, q5, q6, q7⟩, r0, r1, r2, r3, r4⟩ := hSw
            go_simp
            try with_reducible rfl
          try simp only [Act.put, List.setIfInBounds_toArray, List.set_cons_zero, List.set_cons_succ]
          refine oneL (i := 28) (by kernel_rfl) rfl (fun K hK => ?_)
          go_simp
          refine (check_any fa fn _).mono ?_; rintro e W4 ⟨rfl, hb⟩
          simp only [hok]
          have hb4 := hide (hb3.out.trans (hb.mono hb3.out.size))
          have hS4 := hide (hK8.out W4 hb4.out)
          clear hb hb3
          refine hK.out _ _ ?_ ?_
          · exact hS4.out
          clear hK K
          try simp only [Act.put, List.setIfInBounds_toArray, List.set_cons_zero, List.set_cons_succ]
          clear hHeld
          have hHeld : (fun w' => (w'.cell? ⟨A, 0, none⟩ = some (.int .i64 kd) ∧ w'.cell? ⟨A, 1, none⟩ = some (.bool fa) ∧ w'.cell? ⟨A, 2, none⟩ = some (.int .i64 fn) ∧ w'.cell? ⟨A, 3, none⟩ = some (.bool ta) ∧ w'.cell? ⟨A, 4, none⟩ = some (.int .i64 tn) ∧ w'.cell? ⟨A, 5, none⟩ = some (.slice pa pl pc) ∧ w'.cell? ⟨A, 6, none⟩ = some (.int .i64 I) ∧ w'.cell? ⟨A, 7, none⟩ = some (.int .i64 KK)) ∧ w'.cell? ⟨rb, 0, none⟩ = some (.slice ra rl rcap) ∧ w'.cell? ⟨rb, 1, none⟩ = some (.int .i64 c'.p) ∧ w'.cell? ⟨rb, 2, none⟩ = some (.int .i64 c'.l) ∧ w'.cell? ⟨rb, 3, none⟩ = some (.int .i64 c'.d) ∧ w'.cell? ⟨rb, 4, none⟩ = some (.int .i64 c'.r)) W4 := hS4.out
          refine pickA (v := ?_) 29 (some 58) rfl rfl (by kernel_rfl) (by kernel_rfl) (by kernel_rfl) (by decide) (fun _ _ _ h => h) (by rfl) ?_ (by assumption) ?_
          rotate_left
          · intro w'
            go_simp
            try with_reducible rfl
          try simp only [Act.put, List.setIfInBounds_toArray, List.set_cons_zero, List.set_cons_succ]
          refine oneL (i := 33) (by kernel_rfl) rfl (fun K hK => ?_)
          go_simp
          refine (isAddr_any fa fn _).mono ?_; rintro e W5 ⟨rfl, hb⟩
          simp only [hok]
          have hb5 := hide (hb4.out.trans (hb.mono hb4.out.size))
          have hS5 := hide (hK8.out W5 hb5.out)
          clear hb hb4
          refine hK.out _ _ ?_ ?_
          · exact hS5.out
          clear hK K
          try simp only [Act.put, List.setIfInBounds_toArray, List.set_cons_zero, List.set_cons_succ]
          clear hHeld
          have hHeld : (fun w' => (w'.cell? ⟨A, 0, none⟩ = some (.int .i64 kd) ∧ w'.cell? ⟨A, 1, none⟩ = some (.bool fa) ∧ w'.cell? ⟨A, 2, none⟩ = some (.int .i64 fn) ∧ w'.cell? ⟨A, 3, none⟩ = some (.bool ta) ∧ w'.cell? ⟨A, 4, none⟩ = some (.int .i64 tn) ∧ w'.cell? ⟨A, 5, none⟩ = some (.slice pa pl pc) ∧ w'.cell? ⟨A, 6, none⟩ = some (.int .i64 I) ∧ w'.cell? ⟨A, 7, none⟩ = some (.int .i64 KK)) ∧ w'.cell? ⟨rb, 0, none⟩ = some (.slice ra rl rcap) ∧ w'.cell? ⟨rb, 1, none⟩ = some (.int .i64 c'.p) ∧ w'.cell? ⟨rb, 2, none⟩ = some (.int .i64 c'.l) ∧ w'.cell? ⟨rb, 3, none⟩ = some (.int .i64 c'.d) ∧ w'.cell? ⟨rb, 4, none⟩ = some (.int .i64 c'.r)) W5 := hS5.out
          refine pickA (v := ?_) 34 (some 63) rfl rfl (by kernel_rfl) (by kernel_rfl) (by kernel_rfl) (by decide) (fun _ _ _ h => h) (by rfl) ?_ (by assumption) ?_
          rotate_left
          · intro w'
            go_simp
            try with_reducible rfl
          try simp only [Act.put, List.setIfInBounds_toArray, List.set_cons_zero, List.set_cons_succ]
          refine pickA (v := ?_) 35 (some 64) rfl rfl (by kernel_rfl) (by kernel_rfl) (by kernel_rfl) (by decide) (fun _ _ _ h => h) (by rfl) ?_ (by assumption) ?_
          rotate_left
          · intro w'
            go_simp
            try with_reducible rfl
          try simp only [Act.put, List.setIfInBounds_toArray, List.set_cons_zero, List.set_cons_succ]
          refine doneL (by kernel_rfl) ?_ _
          clear hHeld
          go_wp2
          exact ⟨⟨j + 1, by omega, by simp, _, _, _, _, _, _, _, BB.out.bel hb5.out, by omega, by omega⟩, by simp [intOf]; omega⟩
      · skip
        obtain ⟨ra, rcap, hrv, -, -⟩ := hB.two.rs.row.row.shape
        subst hrv
        have hql := hB.two.rs.len
        have HB0 := hide hB
        clear hB
        go_wp2
        rename World => wq
        generalize hqe : qs.length = ql at *
        replace hqe := hide hqe
        go_loopw [7] (fun i wx => ∃ q : Nat, q ≤ ql ∧ i = .int .i64 (q : Int) ∧ Below wq.heap.size wq wx) (fun i _ => ql - (intOf i).toNat)
        case atStart => exact ⟨0, by omega, rfl, Below.refl _ _⟩
        case round =>
          obtain ⟨q, hq, rfl, hbq⟩ := hrel
          have Hq := HB0.out.bel hbq
          have r0 : wr.cell? ⟨rb, 0, none⟩ = some (.slice ra ql rcap) := Hq.two.rs.blk.cell 0
          have rlt : rb < wr.heap.size := Hq.two.rs.blk.lt
          by_cases hlq : q < ql
          · have hjq : q < qs.length := by rw [hqe.out]; exact hlq
            have hi : q < ps.length := by rw [Hq.like.len]; exact hjq
            have hkey := hide (Hq.like.at_ q hi hjq)
            obtain ⟨us, hus⟩ := Hq.us ps[q] (List.getElem_mem hi)
            have hlen : Hid (us.length = ps[q].bs.length) := by
              show _ = _
              rw [hus]; simp [nums]
            have C1 := hide (at_ok b m v ps c k _ Hq.two.ns q hi)
            have hQ1 := hide (Hq.two.rs.row.by_ qs[q] (List.getElem_mem hjq))
            obtain ⟨gg, cap', he, hcap, hmax, e0, e1, e2, e3, e4⟩ := Hq.two.rs.cells q hjq
            injection he with he1 he2 he3
            subst he1 he3
            replace hus := hide hus
            have BQ0 := hide hbq
            have E0 := hide e0
            have E1 := hide e1
            have E2 := hide e2
            have E3 := hide e3
            have E4 := hide e4
            have RR := hide r0
            clear Hq hbq e0 e1 e2 e3 e4 he2 hcap hmax
            generalize ps[q] = p at *
            generalize qs[q] = qq at *
            obtain ⟨f1, g1, f2, g2, pa, pc, bs⟩ := p
            obtain ⟨r1, s1, r2, s2, qa, qc, bs'⟩ := qq
            obtain ⟨rfl, rfl, rfl, rfl, rfl⟩ : f1 = r1 ∧ g1 = s1 ∧ f2 = r2 ∧ g2 = s2 ∧ bs = bs' := by
              have := hkey.out
              simp only [Pc.key, Prod.mk.injEq] at this
              exact this
            simp only [] at hus
            clear hkey hjq hi
            go_wp2_with fail
            clear r0 rlt
            refine C1.out.mono ?_
            rintro e W ⟨x, rfl, ⟨a', c', rfl, hby, -, hnil⟩, hb⟩
            simp only [] at hby hlen hQ1 E0 E1 E2 E3 E4
            generalize hbl : bs.length = bl at *
            have belz := (Below.refl W.heap.size W).alloc (Nat.le_refl _) (.cells #[.bool f1, .int .i64 g1, .bool f2, .int .i64 g2, .slice a' bl c'] 35)
            have P1 := IsB.new W #[.bool f1, .int .i64 g1, .bool f2, .int .i64 g2, .slice a' bl c'] 35
            have Y4 := hide ((hby.below belz).below ((Below.refl _ _).drew))
            have Q4 := hide (((hQ1.out.below hb).below belz).below ((Below.refl _ _).drew))
            have BQ1 := BQ0.out.trans (hb.mono BQ0.out.size)
            have BQ := hide (BQ1.trans (belz.mono BQ1.size))
            have e0 := hide (cell_keep belz (cell_keep hb E0.out))
            have e1 := hide (cell_keep belz (cell_keep hb E1.out))
            have e2 := hide (cell_keep belz (cell_keep hb E2.out))
            have e3 := hide (cell_keep belz (cell_keep hb E3.out))
            have e4 := hide (cell_keep belz (cell_keep hb E4.out))
            have rr := hide (cell_keep belz (cell_keep hb RR.out))
            replace hnil := hide hnil
            replace hbl := hide hbl
            have P1' := hide P1
            clear hb belz C1 hby hQ1 BQ0 BQ1 E0 E1 E2 E3 E4 RR P1
            go_wp2
            generalize W.heap.size = PP at P1' ⊢
            generalize W.alloc (.cells #[.bool f1, .int .i64 g1, .bool f2, .int .i64 g2, .slice a' bl c'] 35) = W3 at *
            have hK14 : Hid (∀ X, Below W3.heap.size W3 X → (fun w' => w'.cell? ⟨PP, 0, none⟩ = some (.bool f1) ∧ w'.cell? ⟨PP, 1, none⟩ = some (.int .i64 g1) ∧ w'.cell? ⟨PP, 2, none⟩ = some (.bool f2) ∧ w'.cell? ⟨PP, 3, none⟩ = some (.int .i64 g2) ∧ w'.cell? ⟨PP, 4, none⟩ = some (.slice a' bl c') ∧ w'.cell? ⟨rb, 0, none⟩ = some (.slice (some ⟨gg, 0, none⟩) ql rcap) ∧ w'.cell? ⟨gg, q * 5, none⟩ = some (.bool f1) ∧ w'.cell? ⟨gg, q * 5 + 1, none⟩ = some (.int .i64 g1) ∧ w'.cell? ⟨gg, q * 5 + 2, none⟩ = some (.bool f2) ∧ w'.cell? ⟨gg, q * 5 + 3, none⟩ = some (.int .i64 g2) ∧ w'.cell? ⟨gg, q * 5 + 4, none⟩ = some (.slice qa bl qc)) X) := fun X hX => by
              have h1 := P1'.out.below hX
              exact ⟨h1.cell 0, h1.cell 1, h1.cell 2, h1.cell 3, h1.cell 4, cell_keep hX rr.out, cell_keep hX e0.out, cell_keep hX e1.out, cell_keep hX e2.out, cell_keep hX e3.out, cell_keep hX e4.out⟩
            have HS14 := hide (hK14.out W3.drew ((Below.refl _ _).drew))
            refine regionL 14 (fun w' => w'.cell? ⟨PP, 0, none⟩ = some (.bool f1) ∧ w'.cell? ⟨PP, 1, none⟩ = some (.int .i64 g1) ∧ w'.cell? ⟨PP, 2, none⟩ = some (.bool f2) ∧ w'.cell? ⟨PP, 3, none⟩ = some (.int .i64 g2) ∧ w'.cell? ⟨PP, 4, none⟩ = some (.slice a' bl c') ∧ w'.cell? ⟨rb, 0, none⟩ = some (.slice (some ⟨gg, 0, none⟩) ql rcap) ∧ w'.cell? ⟨gg, q * 5, none⟩ = some (.bool f1) ∧ w'.cell? ⟨gg, q * 5 + 1, none⟩ = some (.int .i64 g1) ∧ w'.cell? ⟨gg, q * 5 + 2, none⟩ = some (.bool f2) ∧ w'.cell? ⟨gg, q * 5 + 3, none⟩ = some (.int .i64 g2) ∧ w'.cell? ⟨gg, q * 5 + 4, none⟩ = some (.slice qa bl qc)) mixed HS14.out (fun hHeld => ?_)
            refine pickA (v := ?_) 0 (some 80) rfl rfl (by kernel_rfl) (by kernel_rfl) (by kernel_rfl) (by decide) (fun _ _ _ h => h) (by rfl) ?_ (by assumption) ?_
            rotate_left
            · intro w'
              go_simp
              try with_reducible rfl
            try simp only [Act.put, List.setIfInBounds_toArray, List.set_cons_zero, List.set_cons_succ]
            refine pickA (v := ?_) 1 (some 81) rfl rfl (by kernel_rfl) (by kernel_rfl) (by kernel_rfl) (by decide) (fun _ _ _ h => h) (by rfl) ?_ (by assumption) ?_
            rotate_left
            · intro w'
              go_simp
              try with_reducible rfl
            try simp only [Act.put, List.setIfInBounds_toArray, List.set_cons_zero, List.set_cons_succ]
            refine pickA (v := ?_) 2 (some 82) rfl rfl (by kernel_rfl) (by kernel_rfl) (by kernel_rfl) (by decide) (fun _ _ _ h => h) (by rfl) ?_ (by assumption) ?_
            rotate_left
            · intro w'
              go_simp
              try with_reducible rfl
            try simp only [Act.put, List.setIfInBounds_toArray, List.set_cons_zero, List.set_cons_succ]
            refine pickL (v := ?_) 3 (some 83) rfl rfl (by kernel_rfl) (by kernel_rfl) (by kernel_rfl) (by decide) (by kernel_rfl) (by kernel_rfl) (fun _ _ _ h => h) (by rfl) ?_ (by assumption) ?_
            rotate_left
            · intro w' hSw
              obtain ⟨s0, s1, s2, s3, s4, s5, s6, s7, s8, s9, s10⟩ := hSw
              go_simp
              try with_reducible rfl
            try simp only [Act.put, List.setIfInBounds_toArray, List.set_cons_zero, List.set_cons_succ]
            refine pickA (v := ?_) 4 (some 84) rfl rfl (by kernel_rfl) (by kernel_rfl) (by kernel_rfl) (by decide) (fun _ _ _ h => h) (by rfl) ?_ (by assumption) ?_
            rotate_left
            · intro w'
              go_simp
              try with_reducible rfl
            try simp only [Act.put, List.setIfInBounds_toArray, List.set_cons_zero, List.set_cons_succ]
            refine pickA (v := ?_) 5 (some 85) rfl rfl (by kernel_rfl) (by kernel_rfl) (by kernel_rfl) (by decide) (fun _ _ _ h => h) (by rfl) ?_ (by assumption) ?_
            rotate_left
            · intro w'
              go_simp
              try with_reducible rfl
            try simp only [Act.put, List.setIfInBounds_toArray, List.set_cons_zero, List.set_cons_succ]
            refine pickA (v := ?_) 6 (some 86) rfl rfl (by kernel_rfl) (by kernel_rfl) (by kernel_rfl) (by decide) (fun _ _ _ h => h) (by rfl) ?_ (by assumption) ?_
            rotate_left
            · intro w'
              go_simp
              try with_reducible rfl
            try simp only [Act.put, List.setIfInBounds_toArray, List.set_cons_zero, List.set_cons_succ]
            refine pickL (v := ?_) 7 (some 87) rfl rfl (by kernel_rfl) (by kernel_rfl) (by kernel_rfl) (by decide) (by kernel_rfl) (by kernel_rfl) (fun _ _ _ h => h) (by rfl) ?_ (by assumption) ?_
            rotate_left
            · intro w' hSw
              obtain ⟨s0, s1, s2, s3, s4, s5, s6, s7, s8, s9, s10⟩ := hSw
              go_simp
              try with_reducible rfl
            try simp only [Act.put, List.setIfInBounds_toArray, List.set_cons_zero, List.set_cons_succ]
            refine pickA (v := ?_) 8 (some 88) rfl rfl (by kernel_rfl) (by kernel_rfl) (by kernel_rfl) (by decide) (fun _ _ _ h => h) (by rfl) ?_ (by assumption) ?_
            rotate_left
            · intro w'
              go_simp
              try with_reducible rfl
            try simp only [Act.put, List.setIfInBounds_toArray, List.set_cons_zero, List.set_cons_succ]
            refine pickA (v := ?_) 9 (some 89) rfl rfl (by kernel_rfl) (by kernel_rfl) (by kernel_rfl) (by decide) (fun _ _ _ h => h) (by rfl) ?_ (by assumption) ?_
            rotate_left
            · intro w'
              go_simp
              try with_reducible rfl
            try simp only [Act.put, List.setIfInBounds_toArray, List.set_cons_zero, List.set_cons_succ]
            refine pickL (v := ?_) 10 (some 90) rfl rfl (by kernel_rfl) (by kernel_rfl) (by kernel_rfl) (by decide) (by kernel_rfl) (by kernel_rfl) (fun _ _ _ h => h) (by rfl) ?_ (by assumption) ?_
            rotate_left
            · intro w' hSw
              obtain ⟨s0, s1, s2, s3, s4, s5, s6, s7, s8, s9, s10⟩ := hSw
              go_simp
              try with_reducible rfl
            try simp only [Act.put, List.setIfInBounds_toArray, List.set_cons_zero, List.set_cons_succ]
            refine oneL (i := 11) (by kernel_rfl) rfl (fun K hK => ?_)
            go_simp
            refine (same_len f1 f1 g1 g1 f2 f2 g2 g2 a' qa c' qc bl bl us us hlen.out hlen.out hnil.out Q4.out.nil _ (hus.out ▸ Y4.out.rd) (hus.out ▸ Q4.out.rd)).mono ?_; rintro e W5 ⟨⟨t, rfl, ht⟩, hb⟩
            obtain rfl := ht rfl rfl rfl rfl rfl
            have hb5 := hide hb
            have hS5 := hide (hK14.out W5 (((Below.refl _ _).drew).trans (hb.mono (by simp))))
            clear hb
            refine hK.out _ _ ?_ ?_
            · exact hS5.out
            clear hK K
            try simp only [Act.put, List.setIfInBounds_toArray, List.set_cons_zero, List.set_cons_succ]
            clear hHeld
            have hHeld : (fun w' => w'.cell? ⟨PP, 0, none⟩ = some (.bool f1) ∧ w'.cell? ⟨PP, 1, none⟩ = some (.int .i64 g1) ∧ w'.cell? ⟨PP, 2, none⟩ = some (.bool f2) ∧ w'.cell? ⟨PP, 3, none⟩ = some (.int .i64 g2) ∧ w'.cell? ⟨PP, 4, none⟩ = some (.slice a' bl c') ∧ w'.cell? ⟨rb, 0, none⟩ = some (.slice (some ⟨gg, 0, none⟩) ql rcap) ∧ w'.cell? ⟨gg, q * 5, none⟩ = some (.bool f1) ∧ w'.cell? ⟨gg, q * 5 + 1, none⟩ = some (.int .i64 g1) ∧ w'.cell? ⟨gg, q * 5 + 2, none⟩ = some (.bool f2) ∧ w'.cell? ⟨gg, q * 5 + 3, none⟩ = some (.int .i64 g2) ∧ w'.cell? ⟨gg, q * 5 + 4, none⟩ = some (.slice qa bl qc)) W5 := hS5.out
            refine pickA (v := ?_) 12 (some 92) rfl rfl (by kernel_rfl) (by kernel_rfl) (by kernel_rfl) (by decide) (fun _ _ _ h => h) (by rfl) ?_ (by assumption) ?_
            rotate_left
            · intro w'
              go_simp
              try with_reducible rfl
            try simp only [Act.put, List.setIfInBounds_toArray, List.set_cons_zero, List.set_cons_succ]
            refine pickA (v := ?_) 13 (some 93) rfl rfl (by kernel_rfl) (by kernel_rfl) (by kernel_rfl) (by decide) (fun _ _ _ h => h) (by rfl) ?_ (by assumption) ?_
            rotate_left
            · intro w'
              go_simp
              try with_reducible rfl
            try simp only [Act.put, List.setIfInBounds_toArray, List.set_cons_zero, List.set_cons_succ]
            refine doneL (by kernel_rfl) ?_ _
            clear hHeld
            go_wp2
            exact ⟨⟨q + 1, by omega, by simp, BQ.out.trans ((((Below.refl _ _).drew).trans (hb5.out.mono (by simp))).mono BQ.out.size)⟩, by simp [intOf]; omega⟩
          · go_wp2_with fail
            refine (alive_any _).mono ?_; rintro e w9 ⟨rfl, hb⟩
            have hb2 := hbq.trans (hb.mono hbq.size)
            have HB9 := hide (HBw.out.trans (hb2.mono HBw.out.size))
            clear hb hb2
            go_wp2
            go_ret
            exact ⟨rfl, HB9.out⟩
    · skip
      obtain ⟨ra, rcap, hrv, -, -⟩ := hB.two.rs.row.row.shape
      subst hrv
      have hql := hB.two.rs.len
      have HB0 := hide hB
      clear hB
      go_wp2
      rename World => wq
      generalize hqe : qs.length = ql at *
      replace hqe := hide hqe
      go_loopw [7] (fun i wx => ∃ q : Nat, q ≤ ql ∧ i = .int .i64 (q : Int) ∧ Below wq.heap.size wq wx) (fun i _ => ql - (intOf i).toNat)
      case atStart => exact ⟨0, by omega, rfl, Below.refl _ _⟩
      case round =>
        obtain ⟨q, hq, rfl, hbq⟩ := hrel
        have Hq := HB0.out.bel hbq
        have r0 : wr.cell? ⟨rb, 0, none⟩ = some (.slice ra ql rcap) := Hq.two.rs.blk.cell 0
        have rlt : rb < wr.heap.size := Hq.two.rs.blk.lt
        by_cases hlq : q < ql
        · have hjq : q < qs.length := by rw [hqe.out]; exact hlq
          have hi : q < ps.length := by rw [Hq.like.len]; exact hjq
          have hkey := hide (Hq.like.at_ q hi hjq)
          obtain ⟨us, hus⟩ := Hq.us ps[q] (List.getElem_mem hi)
          have hlen : Hid (us.length = ps[q].bs.length) := by
            show _ = _
            rw [hus]; simp [nums]
          have C1 := hide (at_ok b m v ps c k _ Hq.two.ns q hi)
          have hQ1 := hide (Hq.two.rs.row.by_ qs[q] (List.getElem_mem hjq))
          obtain ⟨gg, cap', he, hcap, hmax, e0, e1, e2, e3, e4⟩ := Hq.two.rs.cells q hjq
          injection he with he1 he2 he3
          subst he1 he3
          replace hus := hide hus
          have BQ0 := hide hbq
          have E0 := hide e0
          have E1 := hide e1
          have E2 := hide e2
          have E3 := hide e3
          have E4 := hide e4
          have RR := hide r0
          clear Hq hbq e0 e1 e2 e3 e4 he2 hcap hmax
          generalize ps[q] = p at *
          generalize qs[q] = qq at *
          obtain ⟨f1, g1, f2, g2, pa, pc, bs⟩ := p
          obtain ⟨r1, s1, r2, s2, qa, qc, bs'⟩ := qq
          obtain ⟨rfl, rfl, rfl, rfl, rfl⟩ : f1 = r1 ∧ g1 = s1 ∧ f2 = r2 ∧ g2 = s2 ∧ bs = bs' := by
            have := hkey.out
            simp only [Pc.key, Prod.mk.injEq] at this
            exact this
          simp only [] at hus
          clear hkey hjq hi
          go_wp2_with fail
          clear r0 rlt
          refine C1.out.mono ?_
          rintro e W ⟨x, rfl, ⟨a', c', rfl, hby, -, hnil⟩, hb⟩
          simp only [] at hby hlen hQ1 E0 E1 E2 E3 E4
          generalize hbl : bs.length = bl at *
          have belz := (Below.refl W.heap.size W).alloc (Nat.le_refl _) (.cells #[.bool f1, .int .i64 g1, .bool f2, .int .i64 g2, .slice a' bl c'] 35)
          have P1 := IsB.new W #[.bool f1, .int .i64 g1, .bool f2, .int .i64 g2, .slice a' bl c'] 35
          have Y4 := hide ((hby.below belz).below ((Below.refl _ _).drew))
          have Q4 := hide (((hQ1.out.below hb).below belz).below ((Below.refl _ _).drew))
          have BQ1 := BQ0.out.trans (hb.mono BQ0.out.size)
          have BQ := hide (BQ1.trans (belz.mono BQ1.size))
          have e0 := hide (cell_keep belz (cell_keep hb E0.out))
          have e1 := hide (cell_keep belz (cell_keep hb E1.out))
          have e2 := hide (cell_keep belz (cell_keep hb E2.out))
          have e3 := hide (cell_keep belz (cell_keep hb E3.out))
          have e4 := hide (cell_keep belz (cell_keep hb E4.out))
          have rr := hide (cell_keep belz (cell_keep hb RR.out))
          replace hnil := hide hnil
          replace hbl := hide hbl
          have P1' := hide P1
          clear hb belz C1 hby hQ1 BQ0 BQ1 E0 E1 E2 E3 E4 RR P1
          go_wp2
          generalize W.heap.size = PP at P1' ⊢
          generalize W.alloc (.cells #[.bool f1, .int .i64 g1, .bool f2, .int .i64 g2, .slice a' bl c'] 35) = W3 at *
          have hK14 : Hid (∀ X, Below W3.heap.size W3 X → (fun w' => w'.cell? ⟨PP, 0, none⟩ = some (.bool f1) ∧ w'.cell? ⟨PP, 1, none⟩ = some (.int .i64 g1) ∧ w'.cell? ⟨PP, 2, none⟩ = some (.bool f2) ∧ w'.cell? ⟨PP, 3, none⟩ = some (.int .i64 g2) ∧ w'.cell? ⟨PP, 4, none⟩ = some (.slice a' bl c') ∧ w'.cell? ⟨rb, 0, none⟩ = some (.slice (some ⟨gg, 0, none⟩) ql rcap) ∧ w'.cell? ⟨gg, q * 5, none⟩ = some (.bool f1) ∧ w'.cell? ⟨gg, q * 5 + 1, none⟩ = some (.int .i64 g1) ∧ w'.cell? ⟨gg, q * 5 + 2, none⟩ = some (.bool f2) ∧ w'.cell? ⟨gg, q * 5 + 3, none⟩ = some (.int .i64 g2) ∧ w'.cell? ⟨gg, q * 5 + 4, none⟩ = some (.slice qa bl qc)) X) := fun X hX => by
            have h1 := P1'.out.below hX
            exact ⟨h1.cell 0, h1.cell 1, h1.cell 2, h1.cell 3, h1.cell 4, cell_keep hX rr.out, cell_keep hX e0.out, cell_keep hX e1.out, cell_keep hX e2.out, cell_keep hX e3.out, cell_keep hX e4.out⟩
          have HS14 := hide (hK14.out W3.drew ((Below.refl _ _).drew))
          refine regionL 14 (fun w' => w'.cell? ⟨PP, 0, none⟩ = some (.bool f1) ∧ w'.cell? ⟨PP, 1, none⟩ = some (.int .i64 g1) ∧ w'.cell? ⟨PP, 2, none⟩ = some (.bool f2) ∧ w'.cell? ⟨PP, 3, none⟩ = some (.int .i64 g2) ∧ w'.cell? ⟨PP, 4, none⟩ = some (.slice a' bl c') ∧ w'.cell? ⟨rb, 0, none⟩ = some (.slice (some ⟨gg, 0, none⟩) ql rcap) ∧ w'.cell? ⟨gg, q * 5, none⟩ = some (.bool f1) ∧ w'.cell? ⟨gg, q * 5 + 1, none⟩ = some (.int .i64 g1) ∧ w'.cell? ⟨gg, q * 5 + 2, none⟩ = some (.bool f2) ∧ w'.cell? ⟨gg, q * 5 + 3, none⟩ = some (.int .i64 g2) ∧ w'.cell? ⟨gg, q * 5 + 4, none⟩ = some (.slice qa bl qc)) mixed HS14.out (fun hHeld => ?_)
          refine pickA (v := ?_) 0 (some 80) rfl rfl (by kernel_rfl) (by kernel_rfl) (by kernel_rfl) (by decide) (fun _ _ _ h => h) (by rfl) ?_ (by assumption) ?_
          rotate_left
          · intro w'
            go_simp
            try with_reducible rfl
          try simp only [Act.put, List.setIfInBounds_toArray, List.set_cons_zero, List.set_cons_succ]
          refine pickA (v := ?_) 1 (some 81) rfl rfl (by kernel_rfl) (by kernel_rfl) (by kernel_rfl) (by decide) (fun _ _ _ h => h) (by rfl) ?_ (by assumption) ?_
          rotate_left
          · intro w'
            go_simp
            try with_reducible rfl
          try simp only [Act.put, List.setIfInBounds_toArray, List.set_cons_zero, List.set_cons_succ]
          refine pickA (v := ?_) 2 (some 82) rfl rfl (by kernel_rfl) (by kernel_rfl) (by kernel_rfl) (by decide) (fun _ _ _ h => h) (by rfl) ?_ (by assumption) ?_
          rotate_left
          · intro w'
            go_simp
            try with_reducible rfl
          try simp only [Act.put, List.setIfInBounds_toArray, List.set_cons_zero, List.set_cons_succ]
          refine pickL (v := ?_) 3 (some 83) rfl rfl (by kernel_rfl) (by kernel_rfl) (by kernel_rfl) (by decide) (by kernel_rfl) (by kernel_rfl) (fun _ _ _ h => h) (by rfl) ?_ (by assumption) ?_
          rotate_left
          · intro w' hSw
            obtain ⟨s0, s1, s2, s3, s4, s5, s6, s7, s8, s9, s10⟩ := hSw
            go_simp
            try with_reducible rfl
          try simp only [Act.put, List.setIfInBounds_toArray, List.set_cons_zero, List.set_cons_succ]
          refine pickA (v := ?_) 4 (some 84) rfl rfl (by kernel_rfl) (by kernel_rfl) (by kernel_rfl) (by decide) (fun _ _ _ h => h) (by rfl) ?_ (by assumption) ?_
          rotate_left
          · intro w'
            go_simp
            try with_reducible rfl
          try simp only [Act.put, List.setIfInBounds_toArray, List.set_cons_zero, List.set_cons_succ]
          refine pickA (v := ?_) 5 (some 85) rfl rfl (by kernel_rfl) (by kernel_rfl) (by kernel_rfl) (by decide) (fun _ _ _ h => h) (by rfl) ?_ (by assumption) ?_
          rotate_left
          · intro w'
            go_simp
            try with_reducible rfl
          try simp only [Act.put, List.setIfInBounds_toArray, List.set_cons_zero, List.set_cons_succ]
          refine pickA (v := ?_) 6 (some 86) rfl rfl (by kernel_rfl) (by kernel_rfl) (by kernel_rfl) (by decide) (fun _ _ _ h => h) (by rfl) ?_ (by assumption) ?_
          rotate_left
          · intro w'
            go_simp
            try with_reducible rfl
          try simp only [Act.put, List.setIfInBounds_toArray, List.set_cons_zero, List.set_cons_succ]
          refine pickL (v := ?_) 7 (some 87) rfl rfl (by kernel_rfl) (by kernel_rfl) (by kernel_rfl) (by decide) (by kernel_rfl) (by kernel_rfl) (fun _ _ _ h => h) (by rfl) ?_ (by assumption) ?_
          rotate_left
          · intro w' hSw
            obtain ⟨s0, s1, s2, s3, s4, s5, s6, s7, s8, s9, s10⟩ := hSw
            go_simp
            try with_reducible rfl
          try simp only [Act.put, List.setIfInBounds_toArray, List.set_cons_zero, List.set_cons_succ]
          refine pickA (v := ?_) 8 (some 88) rfl rfl (by kernel_rfl) (by kernel_rfl) (by kernel_rfl) (by decide) (fun _ _ _ h => h) (by rfl) ?_ (by assumption) ?_
          rotate_left
          · intro w'
            go_simp
            try with_reducible rfl
          try simp only [Act.put, List.setIfInBounds_toArray, List.set_cons_zero, List.set_cons_succ]
          refine pickA (v := ?_) 9 (some 89) rfl rfl (by kernel_rfl) (by kernel_rfl) (by kernel_rfl) (by decide) (fun _ _ _ h => h) (by rfl) ?_ (by assumption) ?_
          rotate_left
          · intro w'
            go_simp
            try with_reducible rfl
          try simp only [Act.put, List.setIfInBounds_toArray, List.set_cons_zero, List.set_cons_succ]
          refine pickL (v := ?_) 10 (some 90) rfl rfl (by kernel_rfl) (by kernel_rfl) (by kernel_rfl) (by decide) (by kernel_rfl) (by kernel_rfl) (fun _ _ _ h => h) (by rfl) ?_ (by assumption) ?_
          rotate_left
          · intro w' hSw
            obtain ⟨s0, s1, s2, s3, s4, s5, s6, s7, s8, s9, s10⟩ := hSw
            go_simp
            try with_reducible rfl
          try simp only [Act.put, List.setIfInBounds_toArray, List.set_cons_zero, List.set_cons_succ]
          refine oneL (i := 11) (by kernel_rfl) rfl (fun K hK => ?_)
          go_simp
          refine (same_len f1 f1 g1 g1 f2 f2 g2 g2 a' qa c' qc bl bl us us hlen.out hlen.out hnil.out Q4.out.nil _ (hus.out ▸ Y4.out.rd) (hus.out ▸ Q4.out.rd)).mono ?_; rintro e W5 ⟨⟨t, rfl, ht⟩, hb⟩
          obtain rfl := ht rfl rfl rfl rfl rfl
          have hb5 := hide hb
          have hS5 := hide (hK14.out W5 (((Below.refl _ _).drew).trans (hb.mono (by simp))))
          clear hb
          refine hK.out _ _ ?_ ?_
          · exact hS5.out
          clear hK K
          try simp only [Act.put, List.setIfInBounds_toArray, List.set_cons_zero, List.set_cons_succ]
          clear hHeld
          have hHeld : (fun w' => w'.cell? ⟨PP, 0, none⟩ = some (.bool f1) ∧ w'.cell? ⟨PP, 1, none⟩ = some (.int .i64 g1) ∧ w'.cell? ⟨PP, 2, none⟩ = some (.bool f2) ∧ w'.cell? ⟨PP, 3, none⟩ = some (.int .i64 g2) ∧ w'.cell? ⟨PP, 4, none⟩ = some (.slice a' bl c') ∧ w'.cell? ⟨rb, 0, none⟩ = some (.slice (some ⟨gg, 0, none⟩) ql rcap) ∧ w'.cell? ⟨gg, q * 5, none⟩ = some (.bool f1) ∧ w'.cell? ⟨gg, q * 5 + 1, none⟩ = some (.int .i64 g1) ∧ w'.cell? ⟨gg, q * 5 + 2, none⟩ = some (.bool f2) ∧ w'.cell? ⟨gg, q * 5 + 3, none⟩ = some (.int .i64 g2) ∧ w'.cell? ⟨gg, q * 5 + 4, none⟩ = some (.slice qa bl qc)) W5 := hS5.out
          refine pickA (v := ?_) 12 (some 92) rfl rfl (by kernel_rfl) (by kernel_rfl) (by kernel_rfl) (by decide) (fun _ _ _ h => h) (by rfl) ?_ (by assumption) ?_
          rotate_left
          · intro w'
            go_simp
            try with_reducible rfl
          try simp only [Act.put, List.setIfInBounds_toArray, List.set_cons_zero, List.set_cons_succ]
          refine pickA (v := ?_) 13 (some 93) rfl rfl (by kernel_rfl) (by kernel_rfl) (by kernel_rfl) (by decide) (fun _ _ _ h => h) (by rfl) ?_ (by assumption) ?_
          rotate_left
          · intro w'
            go_simp
            try with_reducible rfl
          try simp only [Act.put, List.setIfInBounds_toArray, List.set_cons_zero, List.set_cons_succ]
          refine doneL (by kernel_rfl) ?_ _
          clear hHeld
          go_wp2
          exact ⟨⟨q + 1, by omega, by simp, BQ.out.trans ((((Below.refl _ _).drew).trans (hb5.out.mono (by simp))).mono BQ.out.size)⟩, by simp [intOf]; omega⟩
        · go_wp2_with fail
          refine (alive_any _).mono ?_; rintro e w9 ⟨rfl, hb⟩
          have hb2 := hbq.trans (hb.mono hbq.size)
          have HB9 := hide (HBw.out.trans (hb2.mono HBw.out.size))
          clear hb hb2
          go_wp2
          go_ret
          exact ⟨rfl, HB9.out⟩

end Go.Proofs.Ytoinjmddmahpkaa
