/- Package pack: vectors, read of any bytes. -/
import Derived.Test.YtmhcmlegdoapdaaDoorRH
import Derived.Test.YtmhcmlegdoapdaaDoorQG
namespace Go.Proofs.YtmhcmlegdoapdaaDoor
open Go.RowKit

set_option maxHeartbeats 400000 in
theorem vright_no (n b : Int) (h : 32 < n) (w : World) :
    Calls Tryd.prog 52 #[(.agg #[.int .i64 (n), .int .u64 (b)])] w fun e w' => e = .returned (.int .i64 10) ∧ Gr w w' := by
  have g1 : decide (n < 0) = false := by simp; omega
  have g2 : decide (32 < n) = true := by simp; omega
  go_enter Tryd.func52, Tryd.ntmps52
  go_wp2
  go_ret
  exact ⟨rfl, (Gr.refl w).alloc _⟩

/-- How many bits of a vector's last byte are not its. -/
def spare (n : Nat) : Nat := 8 * ((n + 7) / 8) - n
/-- A vector. -/
def pvec : List Int → PR (Int × Int)
  | [] => .bad 0 32
  | c :: l => if c ≤ 32 then (match phigh ((c.toNat + 7) / 8) l with
    | .ok x n => if x % 2 ^ spare c.toNat = 0 then .ok (c, x / 2 ^ spare c.toNat) (n + 1) else .bad n 31
    | .bad i e => .bad (i + 1) e) else .bad 0 31
theorem vec_info : (Tryd.prog.info? 27).map (·.size) = some 2 := by kernel_rfl
theorem vec_results (W : World) (g : Nat) (cs : Array Value) (h : IsB W g cs 27) (hs : cs.size = 2) (T : Array Value) (hp : T.getD 2 undef = .pointer (some ⟨g, 0, none⟩)) : (results Tryd.f69 T).run Tryd.prog W = .ok (.agg cs) W :=
  results_cell_row rfl T W g 27 cs (0, 0) _ hp h Tryd.underlying27 rfl (by rw [hs]; exact vec_info)
theorem and_mask (x : Int) (s : Nat) (hs : s < 8) (h0 : 0 ≤ x) (h1 : x < 18446744073709551616) : bits .and .u64 x (2 ^ s - 1) = x % 2 ^ s := by
  obtain ⟨n, rfl⟩ := Int.eq_ofNat_of_zero_le h0
  have e : (2 : Int) ^ s - 1 = ((2 ^ s - 1 : Nat) : Int) := by
    have := Nat.two_pow_pos s
    rw [Int.natCast_sub (by omega), Int.natCast_pow]; rfl
  have hp : 2 ^ s ≤ 256 := Nat.pow_le_pow_right (n := 2) (by omega) (show s ≤ 8 by omega)
  rw [e, u64_and_nat n _ (by omega) (by omega), Nat.and_two_pow_sub_one_eq_mod, Int.natCast_emod, Int.natCast_pow]
  rfl

theorem wrap_p (s : Nat) (h : s < 8) : IntKind.u64.wrap (2 ^ s) = 2 ^ s := by
  have : ∀ s, s < 8 → IntKind.u64.wrap ((2 : Int) ^ s) = 2 ^ s := by decide
  exact this s h
theorem wrap_q (s : Nat) (h : s < 8) : IntKind.u64.wrap (2 ^ s - 1) = 2 ^ s - 1 := by
  have : ∀ s, s < 8 → IntKind.u64.wrap ((2 : Int) ^ s - 1) = 2 ^ s - 1 := by decide
  exact this s h

set_option maxHeartbeats 4000000 in
set_option maxRecDepth 100000 in
theorem vector_any {sb : Nat} (R : Nat) (l : List Int) (at' : Int) (fl : Value) (w : World) (h : Lft w R sb l at' fl) (hsb : sb < w.heap.size) :
    Calls Tryd.prog 69 #[.pointer (some ⟨R, 0, none⟩)] w fun e w' => Post w R sb l at' fl (fun x : Int × Int => (.agg #[.int .i64 (x.1), .int .u64 (x.2)])) (pvec l) e w' := by
  have mixed : Tryd.prog.follows .mixedOrders = true := by kernel_rfl
  have hRl := h.lt
  have hat := h.at0
  have I0 := IsB.new w #[.int .i64 0, .int .u64 0] 27
  have HG0 := hide (show Gr w (w.alloc (.cells #[.int .i64 0, .int .u64 0] 27)) from (Gr.refl w).alloc _)
  rcases l with _ | ⟨c, r⟩
  · have h1 := hide (one_none R at' fl _ (h.gr HG0.out))
    clear h I0
    go_enter Tryd.func69, Tryd.ntmps69
    go_wp2_with fail
    refine h1.out.mono ?_; rintro e w1 ⟨rfl, hg⟩
    exact ⟨rfl, Post.badI 0 32 rfl (by simp) (grown_trans (grown_of_gr HG0.out _) hg)⟩
  · have h1 := hide (one_some R c r at' fl _ (h.gr HG0.out))
    have hcb := h.bd c List.mem_cons_self
    have HBD := hide (fun x hx => h.bd x (List.mem_cons_of_mem c hx))
    clear h
    obtain ⟨c, rfl⟩ := Int.eq_ofNat_of_zero_le hcb.1
    replace I0 := hide I0
    have hwc : IntKind.i64.wrap (c : Int) = (c : Int) := by rw [IntKind.wrap_i64]; omega
    have hl0 := I0.out.lt
    go_enter Tryd.func69, Tryd.ntmps69
    go_wp2_with fail
    generalize w.alloc (.cells #[.int .i64 0, .int .u64 0] 27) = W0 at h1 I0 HG0 hl0 ⊢
    refine h1.out.mono ?_; rintro e w1 ⟨rfl, hl, hg⟩
    have hs1 := hg.size
    have HA := hide ((I0.out.grown hg (by simp; omega)).alloc (.cells #[.int .i64 (c : Int), .int .u64 0] 27))
    have HBk := hide (IsB.new w1 #[.int .i64 (c : Int), .int .u64 0] 27)
    have HL := hide (hl.gr ((Gr.refl w1).alloc (.cells #[.int .i64 (c : Int), .int .u64 0] 27)))
    have HGR := hide (grown_trans (grown_trans (grown_of_gr HG0.out (some R)) hg) (grown_of_gr ((Gr.refl w1).alloc (.cells #[.int .i64 (c : Int), .int .u64 0] 27)) _))
    have hs2 : w1.heap.size < (w1.alloc (.cells #[.int .i64 (c : Int), .int .u64 0] 27)).heap.size := by rw [World.size_alloc]; omega
    clear hl hg h1 I0
    go_wp2
    generalize hB : w1.heap.size = B at HBk hs1 hs2 ⊢
    generalize w1.alloc (.cells #[.int .i64 (c : Int), .int .u64 0] 27) = W2 at HA HBk HL HGR hs2 ⊢
    clear hB
    by_cases hck : c ≤ 32
    · have ck := hide (fun (x : World) => vright_yes (c : Int) 0 (rt_of c 0 hck (Nat.two_pow_pos _)) (by omega) x)
      obtain ⟨m, s, hm4, hs8, hms, hmv, hsv⟩ : ∃ m s : Nat, m ≤ 4 ∧ s < 8 ∧ 8 * m = c + s ∧ (c + 7) / 8 = m ∧ spare c = s := ⟨(c + 7) / 8, spare c, by omega, by unfold spare; omega, by unfold spare; omega, rfl, rfl⟩
      have hbb := fun (x : World) => bitBytes_any c (by omega) x
      rw [hmv] at hbb
      replace hbb := hide hbb
      have HPK : pvec ((c : Int) :: r) = match phigh m r with
        | .ok x n => if x % 2 ^ s = 0 then .ok ((c : Int), x / 2 ^ s) (n + 1) else .bad n 31
        | .bad i e => .bad (i + 1) e := by
          rw [← hmv, ← hsv]; exact if_pos (by omega)
      have hh := hide (fun (x : World) (hx : Lft x R sb r (at' + 1) fl) => high_any m (by omega) R r (at' + 1) fl x hx)
      have hms' : 8 * (m : Int) - (c : Int) = (s : Int) := by omega
      have hwu : IntKind.i64.wrap (8 * (m : Int)) = 8 * (m : Int) := by rw [IntKind.wrap_i64]; omega
      have hxb : ∀ x n, phigh m r = .ok x n → 0 ≤ x ∧ x < 18446744073709551616 := by
        intro x n hx
        unfold phigh at hx
        by_cases hmr : m ≤ r.length
        · rw [if_pos hmr] at hx
          cases hx
          have := hval_bd (r.take m) (fun y hy => HBD.out y (List.mem_of_mem_take hy))
          rw [List.length_take, Nat.min_eq_left hmr] at this
          have hp : (256 : Int) ^ m ≤ 72057594037927936 := pow_le8 m (by omega)
          omega
        · rw [if_neg hmr] at hx; cases hx
      clear hmv hsv
      rcases hp : phigh m r with ⟨x, n⟩ | ⟨i, er⟩
      · have hx := hxb x n hp
        rw [hp] at HPK
        simp only [] at HPK
        replace hp := hide hp
        have HAM := hide (and_mask x s hs8 hx.1 hx.2)
        clear hxb
        by_cases hz : x % 2 ^ s = 0
        · rw [if_pos hz] at HPK
          replace HPK := hide HPK
          refine wp_region_held_drew (S := (fun w' => Gr W2 w')) (by assumption) ((Gr.refl W2).drew) (fun hHeld => ?_)
          refine take_yes (v := ?_) 0 (some 13) rfl rfl (by kernel_rfl) (by kernel_rfl) (by kernel_rfl) (fun _ _ _ h => h) (by rfl) ?_ (by assumption) ?_
          rotate_left
          · intro w' hSw
            go_simp
            try with_reducible rfl
          try simp only [Act.put, List.setIfInBounds_toArray, List.set_cons_zero, List.set_cons_succ]
          refine take_yes (v := ?_) 1 (some 14) rfl rfl (by kernel_rfl) (by kernel_rfl) (by kernel_rfl) (fun _ _ _ h => h) (by rfl) ?_ (by assumption) ?_
          rotate_left
          · intro w' hSw
            go_simp
            try with_reducible rfl
          try simp only [Act.put, List.setIfInBounds_toArray, List.set_cons_zero, List.set_cons_succ]
          refine take_yes (v := ?_) 2 (some 15) rfl rfl (by kernel_rfl) (by kernel_rfl) (by kernel_rfl) (fun _ _ _ h => h) (by rfl) ?_ (by assumption) ?_
          rotate_left
          · intro w' hSw
            go_simp
            try with_reducible rfl
          try simp only [Act.put, List.setIfInBounds_toArray, List.set_cons_zero, List.set_cons_succ]
          refine take_yes (v := ?_) 3 (some 16) rfl rfl (by kernel_rfl) (by kernel_rfl) (by kernel_rfl) (fun _ _ _ h => h) (by rfl) ?_ (by assumption) ?_
          rotate_left
          · intro w' hSw
            have d0 : w'.cell? ⟨B, 0, none⟩ = some (.int .i64 (c : Int)) := hSw.cell (by exact hs2) (HBk.out.cell 0)
            have d1 : w'.cell? ⟨B, 1, none⟩ = some (.int .u64 0) := hSw.cell (by exact hs2) (HBk.out.cell 1)
            go_simp
            try with_reducible rfl
          try simp only [Act.put, List.setIfInBounds_toArray, List.set_cons_zero, List.set_cons_succ]
          refine wpAnyH_ready (rs := [4]) (by kernel_rfl) (by simp) ?_
          refine AllReadyH.cons rfl (fun K hK => ?_) AllReadyH.nil
          go_simp
          go_at_call 52
          refine (ck.out _).mono ?_; rintro e w3 ⟨rfl, hg3⟩
          first | refine hK.out _ _ ?_ (fun hHeld => ?_) | (go_wp2_with fail; refine hK.out _ _ ?_ (fun hHeld => ?_))
          · exact hHeld.trans hg3
          clear hK K
          try simp only [Act.put, List.setIfInBounds_toArray, List.set_cons_zero, List.set_cons_succ]
          refine take_yes (v := ?_) 5 (some 18) rfl rfl (by kernel_rfl) (by kernel_rfl) (by kernel_rfl) (fun _ _ _ h => h) (by rfl) ?_ (by assumption) ?_
          rotate_left
          · intro w' hSw
            go_simp
            try with_reducible rfl
          try simp only [Act.put, List.setIfInBounds_toArray, List.set_cons_zero, List.set_cons_succ]
          refine wpAnyH_ready (rs := [6]) (by kernel_rfl) (by simp) ?_
          refine AllReadyH.cons rfl (fun K hK => ?_) AllReadyH.nil
          go_simp
          go_at_call 76
          refine (must_yes _ _).mono ?_; rintro e w4 ⟨rfl, rfl⟩
          first | refine hK.out _ _ ?_ (fun hHeld => ?_) | (go_wp2_with fail; refine hK.out _ _ ?_ (fun hHeld => ?_))
          · exact hHeld
          clear hK K
          try simp only [Act.put, List.setIfInBounds_toArray, List.set_cons_zero, List.set_cons_succ]
          refine wpAnyH_done (by kernel_rfl) ?_ _
          have HB3 := hide (HBk.out.gr hHeld)
          have HA3 := hide (HA.out.gr hHeld)
          have HL3 := hide (HL.out.gr hHeld)
          have HG3 := hide (grown_trans HGR.out (grown_of_gr hHeld (some R)))
          clear HBk HA HL HGR ck
          have hs3 := HB3.out.lt
          have b0 := HB3.out.cell 0
          simp only [List.getElem?_toArray, List.getElem?_cons_zero] at b0
          clear hHeld
          go_wp2_with fail
          refine (hbb.out _).mono ?_; rintro e w5 ⟨rfl, rfl⟩
          go_wp2_with fail
          refine (hh.out _ HL3.out).mono ?_
          intro e w6 hE
          unfold Post at hE
          rw [hp.out] at hE
          obtain ⟨⟨rfl, h1, h2⟩, hg6⟩ := hE
          have HB6 := hide (HB3.out.grown hg6 (by simp; omega))
          have HA6 := hide (HA3.out.grown hg6 (by simp; omega))
          have H2 := hide h2
          have HG6 := hide (grown_trans HG3.out hg6)
          clear h2 hg6 HB3 HA3 HL3 HG3 b0
          go_wp2
          have hmin : min s 64 = s := by omega
          have hwp : IntKind.u64.wrap (2 ^ s) = 2 ^ s := wrap_p s hs8
          have hwq : IntKind.u64.wrap (2 ^ s - 1) = 2 ^ s - 1 := wrap_q s hs8
          have ham : bits .and .u64 x (2 ^ s - 1) = x % 2 ^ s := HAM.out
          refine wp_region_held_drew (S := (fun w' => w' = w6.drew)) (by assumption) rfl (fun hHeld => ?_)
          refine take_yes (v := ?_) 0 (some 33) rfl rfl (by kernel_rfl) (by kernel_rfl) (by kernel_rfl) (fun _ _ _ h => h) (by rfl) ?_ (by assumption) ?_
          rotate_left
          · intro w' hSw
            go_simp
            try with_reducible rfl
          try simp only [Act.put, List.setIfInBounds_toArray, List.set_cons_zero, List.set_cons_succ]
          refine take_yes (v := ?_) 1 (some 34) rfl rfl (by kernel_rfl) (by kernel_rfl) (by kernel_rfl) (fun _ _ _ h => h) (by rfl) ?_ (by assumption) ?_
          rotate_left
          · intro w' hSw
            go_simp
            try with_reducible rfl
          try simp only [Act.put, List.setIfInBounds_toArray, List.set_cons_zero, List.set_cons_succ]
          refine take_yes (v := ?_) 2 (some 35) rfl rfl (by kernel_rfl) (by kernel_rfl) (by kernel_rfl) (fun _ _ _ h => h) (by rfl) ?_ (by assumption) ?_
          rotate_left
          · intro w' hSw
            go_simp
            try with_reducible rfl
          try simp only [Act.put, List.setIfInBounds_toArray, List.set_cons_zero, List.set_cons_succ]
          refine take_yes (v := ?_) 3 (some 36) rfl rfl (by kernel_rfl) (by kernel_rfl) (by kernel_rfl) (fun _ _ _ h => h) (by rfl) ?_ (by assumption) ?_
          rotate_left
          · intro w' hSw
            go_simp
            try with_reducible rfl
          try simp only [Act.put, List.setIfInBounds_toArray, List.set_cons_zero, List.set_cons_succ]
          refine take_yes (v := ?_) 4 (some 37) rfl rfl (by kernel_rfl) (by kernel_rfl) (by kernel_rfl) (fun _ _ _ h => h) (by rfl) ?_ (by assumption) ?_
          rotate_left
          · intro w' hSw
            go_simp
            try with_reducible rfl
          try simp only [Act.put, List.setIfInBounds_toArray, List.set_cons_zero, List.set_cons_succ]
          refine take_yes (v := ?_) 5 (some 38) rfl rfl (by kernel_rfl) (by kernel_rfl) (by kernel_rfl) (fun _ _ _ h => h) (by rfl) ?_ (by assumption) ?_
          rotate_left
          · intro w' hSw
            go_simp
            try with_reducible rfl
          try simp only [Act.put, List.setIfInBounds_toArray, List.set_cons_zero, List.set_cons_succ]
          refine take_yes (v := ?_) 6 (some 39) rfl rfl (by kernel_rfl) (by kernel_rfl) (by kernel_rfl) (fun _ _ _ h => h) (by rfl) ?_ (by assumption) ?_
          rotate_left
          · intro w' hSw
            go_simp
            try with_reducible rfl
          try simp only [Act.put, List.setIfInBounds_toArray, List.set_cons_zero, List.set_cons_succ]
          refine take_yes (v := ?_) 7 (some 40) rfl rfl (by kernel_rfl) (by kernel_rfl) (by kernel_rfl) (fun _ _ _ h => h) (by rfl) ?_ (by assumption) ?_
          rotate_left
          · intro w' hSw
            go_simp
            try with_reducible rfl
          try simp only [Act.put, List.setIfInBounds_toArray, List.set_cons_zero, List.set_cons_succ]
          refine take_yes (v := ?_) 8 (some 41) rfl rfl (by kernel_rfl) (by kernel_rfl) (by kernel_rfl) (fun _ _ _ h => h) (by rfl) ?_ (by assumption) ?_
          rotate_left
          · intro w' hSw
            go_simp
            try with_reducible rfl
          try simp only [Act.put, List.setIfInBounds_toArray, List.set_cons_zero, List.set_cons_succ]
          refine wpAnyH_ready (rs := [9]) (by kernel_rfl) (by simp) ?_
          refine AllReadyH.cons rfl (fun K hK => ?_) AllReadyH.nil
          go_simp
          go_at_call 76
          refine (must_yes _ _).mono ?_; rintro e w7 ⟨rfl, rfl⟩
          first | refine hK.out _ _ ?_ (fun hHeld => ?_) | (go_wp2_with fail; refine hK.out _ _ ?_ (fun hHeld => ?_))
          · rfl
          clear hK K
          try simp only [Act.put, List.setIfInBounds_toArray, List.set_cons_zero, List.set_cons_succ]
          refine wpAnyH_done (by kernel_rfl) ?_ _
          clear hHeld ham hz HAM
          have HB7 := hide (show IsB w6.drew B #[.int .i64 (c : Int), .int .u64 0] 27 from HB6.out)
          have HA7 := hide (show IsB w6.drew w.heap.size #[.int .i64 0, .int .u64 0] 27 from HA6.out)
          have H7 := hide H2.out.drew
          have HG7 := hide (grown_trans HG6.out (grown_of_gr ((Gr.refl w6).drew) _))
          clear HB6 HA6 H2 HG6
          generalize w6.drew = w7 at HB7 HA7 H7 HG7 ⊢
          have b0 : w7.cell? ⟨B, 0, none⟩ = some (.int .i64 (c : Int)) := HB7.out.cell 0
          have b1 : w7.cell? ⟨B, 1, none⟩ = some (.int .u64 0) := HB7.out.cell 1
          have b2 := HB7.out.free 1
          have a0 : w7.cell? ⟨w.heap.size, 0, none⟩ = some (.int .i64 0) := HA7.out.cell 0
          have a1 : w7.cell? ⟨w.heap.size, 1, none⟩ = some (.int .u64 0) := HA7.out.cell 1
          have f0 := HA7.out.free 0
          have f1 := HA7.out.free 1
          have n1 : B ≠ w.heap.size := by omega
          go_wp2
          have HA8 := (HA7.out.setOther (a := ⟨B, 1, none⟩) (by simp only []; omega) (.int .u64 (x / 2 ^ s)))
          refine bodyPost_ret (vec_results _ w.heap.size _ ((HA8.set0of2 (.int .i64 (c : Int))).set1of2 (.int .u64 (x / 2 ^ s))) rfl _ rfl) rfl ?_
          refine Post.okI ((c : Int), x / 2 ^ s) (n + 1) HPK.out rfl (by rw [List.length_cons]; omega) ?_ (grown_new (grown_new (grown_new HG7.out (a := ⟨B, 1, none⟩) (by simp only []; omega) _) (a := ⟨w.heap.size, 0, none⟩) (by simp) _) (a := ⟨w.heap.size, 1, none⟩) (by simp) _)
          have h3 := ((H7.out.set (a := ⟨B, 1, none⟩) (by simp only []; omega) (by simp only []; omega) (.int .u64 (x / 2 ^ s))).set (a := ⟨w.heap.size, 0, none⟩) (by simp only []; omega) (by simp only []; omega) (.int .i64 (c : Int))).set (a := ⟨w.heap.size, 1, none⟩) (by simp only []; omega) (by simp only []; omega) (.int .u64 (x / 2 ^ s))
          rw [Int.add_assoc, Int.add_comm 1 (n : Int)] at h3
          exact h3
        · rw [if_neg hz] at HPK
          replace HPK := hide HPK
          refine wp_region_held_drew (S := (fun w' => Gr W2 w')) (by assumption) ((Gr.refl W2).drew) (fun hHeld => ?_)
          refine take_yes (v := ?_) 0 (some 13) rfl rfl (by kernel_rfl) (by kernel_rfl) (by kernel_rfl) (fun _ _ _ h => h) (by rfl) ?_ (by assumption) ?_
          rotate_left
          · intro w' hSw
            go_simp
            try with_reducible rfl
          try simp only [Act.put, List.setIfInBounds_toArray, List.set_cons_zero, List.set_cons_succ]
          refine take_yes (v := ?_) 1 (some 14) rfl rfl (by kernel_rfl) (by kernel_rfl) (by kernel_rfl) (fun _ _ _ h => h) (by rfl) ?_ (by assumption) ?_
          rotate_left
          · intro w' hSw
            go_simp
            try with_reducible rfl
          try simp only [Act.put, List.setIfInBounds_toArray, List.set_cons_zero, List.set_cons_succ]
          refine take_yes (v := ?_) 2 (some 15) rfl rfl (by kernel_rfl) (by kernel_rfl) (by kernel_rfl) (fun _ _ _ h => h) (by rfl) ?_ (by assumption) ?_
          rotate_left
          · intro w' hSw
            go_simp
            try with_reducible rfl
          try simp only [Act.put, List.setIfInBounds_toArray, List.set_cons_zero, List.set_cons_succ]
          refine take_yes (v := ?_) 3 (some 16) rfl rfl (by kernel_rfl) (by kernel_rfl) (by kernel_rfl) (fun _ _ _ h => h) (by rfl) ?_ (by assumption) ?_
          rotate_left
          · intro w' hSw
            have d0 : w'.cell? ⟨B, 0, none⟩ = some (.int .i64 (c : Int)) := hSw.cell (by exact hs2) (HBk.out.cell 0)
            have d1 : w'.cell? ⟨B, 1, none⟩ = some (.int .u64 0) := hSw.cell (by exact hs2) (HBk.out.cell 1)
            go_simp
            try with_reducible rfl
          try simp only [Act.put, List.setIfInBounds_toArray, List.set_cons_zero, List.set_cons_succ]
          refine wpAnyH_ready (rs := [4]) (by kernel_rfl) (by simp) ?_
          refine AllReadyH.cons rfl (fun K hK => ?_) AllReadyH.nil
          go_simp
          go_at_call 52
          refine (ck.out _).mono ?_; rintro e w3 ⟨rfl, hg3⟩
          first | refine hK.out _ _ ?_ (fun hHeld => ?_) | (go_wp2_with fail; refine hK.out _ _ ?_ (fun hHeld => ?_))
          · exact hHeld.trans hg3
          clear hK K
          try simp only [Act.put, List.setIfInBounds_toArray, List.set_cons_zero, List.set_cons_succ]
          refine take_yes (v := ?_) 5 (some 18) rfl rfl (by kernel_rfl) (by kernel_rfl) (by kernel_rfl) (fun _ _ _ h => h) (by rfl) ?_ (by assumption) ?_
          rotate_left
          · intro w' hSw
            go_simp
            try with_reducible rfl
          try simp only [Act.put, List.setIfInBounds_toArray, List.set_cons_zero, List.set_cons_succ]
          refine wpAnyH_ready (rs := [6]) (by kernel_rfl) (by simp) ?_
          refine AllReadyH.cons rfl (fun K hK => ?_) AllReadyH.nil
          go_simp
          go_at_call 76
          refine (must_yes _ _).mono ?_; rintro e w4 ⟨rfl, rfl⟩
          first | refine hK.out _ _ ?_ (fun hHeld => ?_) | (go_wp2_with fail; refine hK.out _ _ ?_ (fun hHeld => ?_))
          · exact hHeld
          clear hK K
          try simp only [Act.put, List.setIfInBounds_toArray, List.set_cons_zero, List.set_cons_succ]
          refine wpAnyH_done (by kernel_rfl) ?_ _
          have HB3 := hide (HBk.out.gr hHeld)
          have HA3 := hide (HA.out.gr hHeld)
          have HL3 := hide (HL.out.gr hHeld)
          have HG3 := hide (grown_trans HGR.out (grown_of_gr hHeld (some R)))
          clear HBk HA HL HGR ck
          have hs3 := HB3.out.lt
          have b0 := HB3.out.cell 0
          simp only [List.getElem?_toArray, List.getElem?_cons_zero] at b0
          clear hHeld
          go_wp2_with fail
          refine (hbb.out _).mono ?_; rintro e w5 ⟨rfl, rfl⟩
          go_wp2_with fail
          refine (hh.out _ HL3.out).mono ?_
          intro e w6 hE
          unfold Post at hE
          rw [hp.out] at hE
          obtain ⟨⟨rfl, h1, h2⟩, hg6⟩ := hE
          have HB6 := hide (HB3.out.grown hg6 (by simp; omega))
          have HA6 := hide (HA3.out.grown hg6 (by simp; omega))
          have H2 := hide h2
          have HG6 := hide (grown_trans HG3.out hg6)
          clear h2 hg6 HB3 HA3 HL3 HG3 b0
          go_wp2
          have hmin : min s 64 = s := by omega
          have hwp : IntKind.u64.wrap (2 ^ s) = 2 ^ s := wrap_p s hs8
          have hwq : IntKind.u64.wrap (2 ^ s - 1) = 2 ^ s - 1 := wrap_q s hs8
          have ham : bits .and .u64 x (2 ^ s - 1) = x % 2 ^ s := HAM.out
          have hz' : (x % 2 ^ s == 0) = false := by simp [hz]
          refine wp_region_held_drew (S := (fun w' => w' = w6.drew)) (by assumption) rfl (fun hHeld => ?_)
          refine take_yes (v := ?_) 0 (some 33) rfl rfl (by kernel_rfl) (by kernel_rfl) (by kernel_rfl) (fun _ _ _ h => h) (by rfl) ?_ (by assumption) ?_
          rotate_left
          · intro w' hSw
            go_simp
            try with_reducible rfl
          try simp only [Act.put, List.setIfInBounds_toArray, List.set_cons_zero, List.set_cons_succ]
          refine take_yes (v := ?_) 1 (some 34) rfl rfl (by kernel_rfl) (by kernel_rfl) (by kernel_rfl) (fun _ _ _ h => h) (by rfl) ?_ (by assumption) ?_
          rotate_left
          · intro w' hSw
            go_simp
            try with_reducible rfl
          try simp only [Act.put, List.setIfInBounds_toArray, List.set_cons_zero, List.set_cons_succ]
          refine take_yes (v := ?_) 2 (some 35) rfl rfl (by kernel_rfl) (by kernel_rfl) (by kernel_rfl) (fun _ _ _ h => h) (by rfl) ?_ (by assumption) ?_
          rotate_left
          · intro w' hSw
            go_simp
            try with_reducible rfl
          try simp only [Act.put, List.setIfInBounds_toArray, List.set_cons_zero, List.set_cons_succ]
          refine take_yes (v := ?_) 3 (some 36) rfl rfl (by kernel_rfl) (by kernel_rfl) (by kernel_rfl) (fun _ _ _ h => h) (by rfl) ?_ (by assumption) ?_
          rotate_left
          · intro w' hSw
            go_simp
            try with_reducible rfl
          try simp only [Act.put, List.setIfInBounds_toArray, List.set_cons_zero, List.set_cons_succ]
          refine take_yes (v := ?_) 4 (some 37) rfl rfl (by kernel_rfl) (by kernel_rfl) (by kernel_rfl) (fun _ _ _ h => h) (by rfl) ?_ (by assumption) ?_
          rotate_left
          · intro w' hSw
            go_simp
            try with_reducible rfl
          try simp only [Act.put, List.setIfInBounds_toArray, List.set_cons_zero, List.set_cons_succ]
          refine take_yes (v := ?_) 5 (some 38) rfl rfl (by kernel_rfl) (by kernel_rfl) (by kernel_rfl) (fun _ _ _ h => h) (by rfl) ?_ (by assumption) ?_
          rotate_left
          · intro w' hSw
            go_simp
            try with_reducible rfl
          try simp only [Act.put, List.setIfInBounds_toArray, List.set_cons_zero, List.set_cons_succ]
          refine take_yes (v := ?_) 6 (some 39) rfl rfl (by kernel_rfl) (by kernel_rfl) (by kernel_rfl) (fun _ _ _ h => h) (by rfl) ?_ (by assumption) ?_
          rotate_left
          · intro w' hSw
            go_simp
            try with_reducible rfl
          try simp only [Act.put, List.setIfInBounds_toArray, List.set_cons_zero, List.set_cons_succ]
          refine take_yes (v := ?_) 7 (some 40) rfl rfl (by kernel_rfl) (by kernel_rfl) (by kernel_rfl) (fun _ _ _ h => h) (by rfl) ?_ (by assumption) ?_
          rotate_left
          · intro w' hSw
            go_simp
            try with_reducible rfl
          try simp only [Act.put, List.setIfInBounds_toArray, List.set_cons_zero, List.set_cons_succ]
          refine take_yes (v := ?_) 8 (some 41) rfl rfl (by kernel_rfl) (by kernel_rfl) (by kernel_rfl) (fun _ _ _ h => h) (by rfl) ?_ (by assumption) ?_
          rotate_left
          · intro w' hSw
            go_simp
            try with_reducible rfl
          try simp only [Act.put, List.setIfInBounds_toArray, List.set_cons_zero, List.set_cons_succ]
          refine wpAnyH_ready (rs := [9]) (by kernel_rfl) (by simp) ?_
          refine AllReadyH.cons rfl (fun K hK => ?_) AllReadyH.nil
          go_simp
          go_at_call 76
          refine (must_bad R (r.drop n) (at' + 1 + (n : Int)) (by omega) fl _ H2.out.drew).mono ?_; rintro e w7 ⟨rfl, rfl⟩
          exact ⟨rfl, Post.badI n 31 HPK.out (by congr 2; omega) (grown_trans HG6.out (grown_of_gr ((Gr.refl _).drew) _))⟩
      · rw [hp] at HPK
        replace hp := hide hp
        replace HPK := hide HPK
        clear hxb
        refine wp_region_held_drew (S := (fun w' => Gr W2 w')) (by assumption) ((Gr.refl W2).drew) (fun hHeld => ?_)
        refine take_yes (v := ?_) 0 (some 13) rfl rfl (by kernel_rfl) (by kernel_rfl) (by kernel_rfl) (fun _ _ _ h => h) (by rfl) ?_ (by assumption) ?_
        rotate_left
        · intro w' hSw
          go_simp
          try with_reducible rfl
        try simp only [Act.put, List.setIfInBounds_toArray, List.set_cons_zero, List.set_cons_succ]
        refine take_yes (v := ?_) 1 (some 14) rfl rfl (by kernel_rfl) (by kernel_rfl) (by kernel_rfl) (fun _ _ _ h => h) (by rfl) ?_ (by assumption) ?_
        rotate_left
        · intro w' hSw
          go_simp
          try with_reducible rfl
        try simp only [Act.put, List.setIfInBounds_toArray, List.set_cons_zero, List.set_cons_succ]
        refine take_yes (v := ?_) 2 (some 15) rfl rfl (by kernel_rfl) (by kernel_rfl) (by kernel_rfl) (fun _ _ _ h => h) (by rfl) ?_ (by assumption) ?_
        rotate_left
        · intro w' hSw
          go_simp
          try with_reducible rfl
        try simp only [Act.put, List.setIfInBounds_toArray, List.set_cons_zero, List.set_cons_succ]
        refine take_yes (v := ?_) 3 (some 16) rfl rfl (by kernel_rfl) (by kernel_rfl) (by kernel_rfl) (fun _ _ _ h => h) (by rfl) ?_ (by assumption) ?_
        rotate_left
        · intro w' hSw
          have d0 : w'.cell? ⟨B, 0, none⟩ = some (.int .i64 (c : Int)) := hSw.cell (by exact hs2) (HBk.out.cell 0)
          have d1 : w'.cell? ⟨B, 1, none⟩ = some (.int .u64 0) := hSw.cell (by exact hs2) (HBk.out.cell 1)
          go_simp
          try with_reducible rfl
        try simp only [Act.put, List.setIfInBounds_toArray, List.set_cons_zero, List.set_cons_succ]
        refine wpAnyH_ready (rs := [4]) (by kernel_rfl) (by simp) ?_
        refine AllReadyH.cons rfl (fun K hK => ?_) AllReadyH.nil
        go_simp
        go_at_call 52
        refine (ck.out _).mono ?_; rintro e w3 ⟨rfl, hg3⟩
        first | refine hK.out _ _ ?_ (fun hHeld => ?_) | (go_wp2_with fail; refine hK.out _ _ ?_ (fun hHeld => ?_))
        · exact hHeld.trans hg3
        clear hK K
        try simp only [Act.put, List.setIfInBounds_toArray, List.set_cons_zero, List.set_cons_succ]
        refine take_yes (v := ?_) 5 (some 18) rfl rfl (by kernel_rfl) (by kernel_rfl) (by kernel_rfl) (fun _ _ _ h => h) (by rfl) ?_ (by assumption) ?_
        rotate_left
        · intro w' hSw
          go_simp
          try with_reducible rfl
        try simp only [Act.put, List.setIfInBounds_toArray, List.set_cons_zero, List.set_cons_succ]
        refine wpAnyH_ready (rs := [6]) (by kernel_rfl) (by simp) ?_
        refine AllReadyH.cons rfl (fun K hK => ?_) AllReadyH.nil
        go_simp
        go_at_call 76
        refine (must_yes _ _).mono ?_; rintro e w4 ⟨rfl, rfl⟩
        first | refine hK.out _ _ ?_ (fun hHeld => ?_) | (go_wp2_with fail; refine hK.out _ _ ?_ (fun hHeld => ?_))
        · exact hHeld
        clear hK K
        try simp only [Act.put, List.setIfInBounds_toArray, List.set_cons_zero, List.set_cons_succ]
        refine wpAnyH_done (by kernel_rfl) ?_ _
        have HB3 := hide (HBk.out.gr hHeld)
        have HA3 := hide (HA.out.gr hHeld)
        have HL3 := hide (HL.out.gr hHeld)
        have HG3 := hide (grown_trans HGR.out (grown_of_gr hHeld (some R)))
        clear HBk HA HL HGR ck
        have hs3 := HB3.out.lt
        have b0 := HB3.out.cell 0
        simp only [List.getElem?_toArray, List.getElem?_cons_zero] at b0
        clear hHeld
        go_wp2_with fail
        refine (hbb.out _).mono ?_; rintro e w5 ⟨rfl, rfl⟩
        go_wp2_with fail
        refine (hh.out _ HL3.out).mono ?_
        intro e w6 hE
        unfold Post at hE
        rw [hp.out] at hE
        obtain ⟨rfl, hg6⟩ := hE
        exact ⟨rfl, Post.badI (i + 1) er HPK.out (by rw [Int.natCast_add, Int.add_assoc, Int.add_comm 1 (i : Int)]; rfl) (grown_trans HG3.out hg6)⟩
    · have ck := hide (fun (x : World) => vright_no (c : Int) 0 (by omega) x)
      have HPK := hide (show pvec ((c : Int) :: r) = .bad 0 31 from if_neg (by omega))
      refine wp_region_held_drew (S := (fun w' => Gr W2 w')) (by assumption) ((Gr.refl W2).drew) (fun hHeld => ?_)
      refine take_yes (v := ?_) 0 (some 13) rfl rfl (by kernel_rfl) (by kernel_rfl) (by kernel_rfl) (fun _ _ _ h => h) (by rfl) ?_ (by assumption) ?_
      rotate_left
      · intro w' hSw
        go_simp
        try with_reducible rfl
      try simp only [Act.put, List.setIfInBounds_toArray, List.set_cons_zero, List.set_cons_succ]
      refine take_yes (v := ?_) 1 (some 14) rfl rfl (by kernel_rfl) (by kernel_rfl) (by kernel_rfl) (fun _ _ _ h => h) (by rfl) ?_ (by assumption) ?_
      rotate_left
      · intro w' hSw
        go_simp
        try with_reducible rfl
      try simp only [Act.put, List.setIfInBounds_toArray, List.set_cons_zero, List.set_cons_succ]
      refine take_yes (v := ?_) 2 (some 15) rfl rfl (by kernel_rfl) (by kernel_rfl) (by kernel_rfl) (fun _ _ _ h => h) (by rfl) ?_ (by assumption) ?_
      rotate_left
      · intro w' hSw
        go_simp
        try with_reducible rfl
      try simp only [Act.put, List.setIfInBounds_toArray, List.set_cons_zero, List.set_cons_succ]
      refine take_yes (v := ?_) 3 (some 16) rfl rfl (by kernel_rfl) (by kernel_rfl) (by kernel_rfl) (fun _ _ _ h => h) (by rfl) ?_ (by assumption) ?_
      rotate_left
      · intro w' hSw
        have d0 : w'.cell? ⟨B, 0, none⟩ = some (.int .i64 (c : Int)) := hSw.cell (by exact hs2) (HBk.out.cell 0)
        have d1 : w'.cell? ⟨B, 1, none⟩ = some (.int .u64 0) := hSw.cell (by exact hs2) (HBk.out.cell 1)
        go_simp
        try with_reducible rfl
      try simp only [Act.put, List.setIfInBounds_toArray, List.set_cons_zero, List.set_cons_succ]
      refine wpAnyH_ready (rs := [4]) (by kernel_rfl) (by simp) ?_
      refine AllReadyH.cons rfl (fun K hK => ?_) AllReadyH.nil
      go_simp
      go_at_call 52
      refine (ck.out _).mono ?_; rintro e w3 ⟨rfl, hg3⟩
      first | refine hK.out _ _ ?_ (fun hHeld => ?_) | (go_wp2_with fail; refine hK.out _ _ ?_ (fun hHeld => ?_))
      · exact hHeld.trans hg3
      clear hK K
      try simp only [Act.put, List.setIfInBounds_toArray, List.set_cons_zero, List.set_cons_succ]
      refine take_yes (v := ?_) 5 (some 18) rfl rfl (by kernel_rfl) (by kernel_rfl) (by kernel_rfl) (fun _ _ _ h => h) (by rfl) ?_ (by assumption) ?_
      rotate_left
      · intro w' hSw
        go_simp
        try with_reducible rfl
      try simp only [Act.put, List.setIfInBounds_toArray, List.set_cons_zero, List.set_cons_succ]
      refine wpAnyH_ready (rs := [6]) (by kernel_rfl) (by simp) ?_
      refine AllReadyH.cons rfl (fun K hK => ?_) AllReadyH.nil
      go_simp
      go_at_call 76
      refine (must_bad R r (at' + 1) (by omega) fl _ (HL.out.gr hHeld)).mono ?_; rintro e w4 ⟨rfl, rfl⟩
      exact ⟨rfl, Post.badI 0 31 HPK.out (by simp) (grown_trans HGR.out (grown_of_gr hHeld _))⟩

end Go.Proofs.YtmhcmlegdoapdaaDoor
