/- Package pack: keys, read of any bytes. -/
import Derived.Test.YtmhcmlegdoapdaaDoorRG
import Derived.Test.YtmhcmlegdoapdaaDoorQW
namespace Go.Proofs.YtmhcmlegdoapdaaDoor
open Go.RowKit

/-- A key. -/
def pkey : List Int → PR (Int × Int)
  | [] => .bad 0 32
  | r :: l => if 1 ≤ r ∧ r ≤ 3 then (match phigh (if r = 2 then 8 else 0) l with
    | .ok x n => .ok (r, x) (n + 1)
    | .bad i e => .bad (i + 1) e) else .bad 0 31
theorem key_info : (Tryd.prog.info? 30).map (·.size) = some 2 := by kernel_rfl
theorem key_results (W : World) (g : Nat) (cs : Array Value) (h : IsB W g cs 30) (hs : cs.size = 2) (T : Array Value) (hp : T.getD 2 undef = .pointer (some ⟨g, 0, none⟩)) : (results Tryd.f70 T).run Tryd.prog W = .ok (.agg cs) W :=
  results_cell_row rfl T W g 30 cs (0, 0) _ hp h Tryd.underlying30 rfl (by rw [hs]; exact key_info)
theorem IsB.set0of2 {w : World} {b : Nat} {x y : Value} {t : TypeId} (h : IsB w b #[x, y] t) (v : Value) : IsB (w.setCell ⟨b, 0, none⟩ v) b #[v, y] t := by
  unfold IsB at *
  rw [Sort.setCell_eq]
  simp only [Sort.mapBlock, Array.getElem?_modify, if_true, h, Option.map_some, Sort.onCells]
  rfl
theorem IsB.set1of2 {w : World} {b : Nat} {x y : Value} {t : TypeId} (h : IsB w b #[x, y] t) (v : Value) : IsB (w.setCell ⟨b, 1, none⟩ v) b #[x, v] t := by
  unfold IsB at *
  rw [Sort.setCell_eq]
  simp only [Sort.mapBlock, Array.getElem?_modify, if_true, h, Option.map_some, Sort.onCells]
  rfl
theorem Lft.set {sb : Nat} {w : World} {R : Nat} {l : List Int} {at' : Int} {fl : Value} (h : Lft w R sb l at' fl) {a : Addr} (hne : R ≠ a.block) (hs : sb ≠ a.block) (u : Value) : Lft (w.setCell a u) R sb l at' fl := by
  obtain ⟨ad, cap, h, h1, h2, h3, h4, h5, hz, h6⟩ := h
  refine ⟨ad, cap, IsB.setOther h hne u, h1, h2, h3, h4, h5, hz, ?_⟩
  rcases h6 with h6 | ⟨b, o, g1, g2, g3, g4⟩
  · exact Or.inl h6
  · refine Or.inr ⟨b, o, g1, g2, by rw [size_setCell]; exact g3, fun j hj => ?_⟩
    rw [World.cell?_of_block (w := w) (Below.heap_setCell w a u b (by have := hz.2 _ g1; simp only [] at this; omega))]; exact g4 j hj

theorem ck0 (r : Int) : ckE r 0 = if 1 ≤ r ∧ r ≤ 3 then 0 else 20 := by
  unfold ckE
  by_cases h : 1 ≤ r ∧ r ≤ 3
  · rw [if_pos h, if_pos (by omega)]
  · rw [if_neg h, if_neg (by omega)]

theorem Ranks.grown {w w' : World} {R : Nat} (h : Ranks w) (hg : w.grownBy w' (some R)) (hR : R ≠ 0) : Ranks w' := by
  obtain ⟨h0, h1, h2, h3, h4, h5⟩ := h
  have k : ∀ {j : Nat} {v : Value}, w.cell? ⟨0, j, none⟩ = some v → w'.cell? ⟨0, j, none⟩ = some v := fun hc => hg.cell hc (by simpa using Ne.symm hR)
  exact ⟨k h0, k h1, k h2, k h3, k h4, k h5⟩

set_option maxHeartbeats 4000000 in
set_option maxRecDepth 100000 in
theorem key_any {sb : Nat} (R : Nat) (l : List Int) (at' : Int) (fl : Value) (w : World) (h : Lft w R sb l at' fl) (hRk : Ranks w) (hRg : R ≠ 0) (hsb : sb < w.heap.size) :
    Calls Tryd.prog 70 #[.pointer (some ⟨R, 0, none⟩)] w fun e w' => Post w R sb l at' fl (fun x : Int × Int => (.agg #[.int .i64 (x.1), .int .u64 (x.2)])) (pkey l) e w' := by
  have mixed : Tryd.prog.follows .mixedOrders = true := by kernel_rfl
  have hRl := h.lt
  have hat := h.at0
  have I0 := IsB.new w #[.int .i64 0, .int .u64 0] 30
  have HG0 := hide (show Gr w (w.alloc (.cells #[.int .i64 0, .int .u64 0] 30)) from (Gr.refl w).alloc _)
  rcases l with _ | ⟨c, r⟩
  · have h1 := hide (one_none R at' fl _ (h.gr HG0.out))
    clear h I0
    go_enter Tryd.func70, Tryd.ntmps70
    go_wp2_with fail
    refine h1.out.mono ?_; rintro e w1 ⟨rfl, hg⟩
    exact ⟨rfl, Post.badI 0 32 rfl (by simp) (grown_trans (grown_of_gr HG0.out _) hg)⟩
  · have h1 := hide (one_some R c r at' fl _ (h.gr HG0.out))
    have hcb := h.bd c List.mem_cons_self
    clear h
    replace I0 := hide I0
    have hwc : IntKind.i64.wrap c = c := by rw [IntKind.wrap_i64]; omega
    have hl0 := I0.out.lt
    go_enter Tryd.func70, Tryd.ntmps70
    go_wp2_with fail
    generalize w.alloc (.cells #[.int .i64 0, .int .u64 0] 30) = W0 at h1 I0 HG0 hl0 ⊢
    refine h1.out.mono ?_; rintro e w1 ⟨rfl, hl, hg⟩
    have hs1 := hg.size
    have HA := hide ((I0.out.grown hg (by simp; omega)).alloc (.cells #[.int .i64 c, .int .u64 0] 30))
    have HBk := hide (IsB.new w1 #[.int .i64 c, .int .u64 0] 30)
    have HL := hide (hl.gr ((Gr.refl w1).alloc (.cells #[.int .i64 c, .int .u64 0] 30)))
    have HGR := hide (grown_trans (grown_trans (grown_of_gr HG0.out (some R)) hg) (grown_of_gr ((Gr.refl w1).alloc (.cells #[.int .i64 c, .int .u64 0] 30)) _))
    have HRK := hide (hRk.grown HGR.out hRg)
    have hs2 : w1.heap.size < (w1.alloc (.cells #[.int .i64 c, .int .u64 0] 30)).heap.size := by rw [World.size_alloc]; omega
    clear hl hg h1 I0
    go_wp2
    generalize hB : w1.heap.size = B at HBk hs1 hs2 ⊢
    generalize w1.alloc (.cells #[.int .i64 c, .int .u64 0] 30) = W2 at HA HBk HL HGR HRK hs2 ⊢
    clear hB
    by_cases hck : 1 ≤ c ∧ c ≤ 3
    · have ck := fun (x : World) (hx : Ranks x) => kCheck_any c 0 x hx
      rw [ck0, if_pos hck] at ck
      replace ck := hide ck
      obtain ⟨m, hm8, hrb, hmi⟩ : ∃ m : Nat, m ≤ 8 ∧ (∀ x : World, Calls Tryd.prog 50 #[.int .i64 c] x fun e w' => e = .returned (.int .i64 (m : Int)) ∧ w' = x) ∧ (if c = 2 then 8 else 0) = m := by
        refine ⟨if c = 2 then 8 else 0, by split <;> omega, fun x => ?_, rfl⟩
        have := rankBytes_any c x
        by_cases h2 : c = 2
        · rw [if_pos h2] at this ⊢; exact this
        · rw [if_neg h2] at this ⊢; exact this
      have HPK : pkey (c :: r) = match phigh m r with
        | .ok x n => .ok (c, x) (n + 1)
        | .bad i e => .bad (i + 1) e := by rw [← hmi]; exact if_pos hck
      have hh := fun (x : World) (hx : Lft x R sb r (at' + 1) fl) => high_any m hm8 R r (at' + 1) fl x hx
      replace hh := hide hh
      replace hrb := hide hrb
      clear hck hmi
      rcases hp : phigh m r with ⟨x, n⟩ | ⟨i, er⟩
      · rw [hp] at HPK
        replace hp := hide hp
        replace HPK := hide HPK
        refine wp_region_held_drew (S := (fun w' => Gr W2 w')) (by assumption) ((Gr.refl W2).drew) (fun hHeld => ?_)
        refine take_yes (v := ?_) 0 (some 10) rfl rfl (by kernel_rfl) (by kernel_rfl) (by kernel_rfl) (fun _ _ _ h => h) (by rfl) ?_ (by assumption) ?_
        rotate_left
        · intro w' hSw
          go_simp
          try with_reducible rfl
        try simp only [Act.put, List.setIfInBounds_toArray, List.set_cons_zero, List.set_cons_succ]
        refine take_yes (v := ?_) 1 (some 11) rfl rfl (by kernel_rfl) (by kernel_rfl) (by kernel_rfl) (fun _ _ _ h => h) (by rfl) ?_ (by assumption) ?_
        rotate_left
        · intro w' hSw
          go_simp
          try with_reducible rfl
        try simp only [Act.put, List.setIfInBounds_toArray, List.set_cons_zero, List.set_cons_succ]
        refine take_yes (v := ?_) 2 (some 12) rfl rfl (by kernel_rfl) (by kernel_rfl) (by kernel_rfl) (fun _ _ _ h => h) (by rfl) ?_ (by assumption) ?_
        rotate_left
        · intro w' hSw
          go_simp
          try with_reducible rfl
        try simp only [Act.put, List.setIfInBounds_toArray, List.set_cons_zero, List.set_cons_succ]
        refine take_yes (v := ?_) 3 (some 13) rfl rfl (by kernel_rfl) (by kernel_rfl) (by kernel_rfl) (fun _ _ _ h => h) (by rfl) ?_ (by assumption) ?_
        rotate_left
        · intro w' hSw
          have d0 : w'.cell? ⟨B, 0, none⟩ = some (.int .i64 c) := hSw.cell (by exact hs2) (HBk.out.cell 0)
          have d1 : w'.cell? ⟨B, 1, none⟩ = some (.int .u64 0) := hSw.cell (by exact hs2) (HBk.out.cell 1)
          go_simp
          try with_reducible rfl
        try simp only [Act.put, List.setIfInBounds_toArray, List.set_cons_zero, List.set_cons_succ]
        refine wpAnyH_ready (rs := [4]) (by kernel_rfl) (by simp) ?_
        refine AllReadyH.cons rfl (fun K hK => ?_) AllReadyH.nil
        go_simp
        go_at_call 53
        refine (ck.out _ (HRK.out.gr hHeld)).mono ?_; rintro e w3 ⟨rfl, hg3⟩
        first | refine hK.out _ _ ?_ (fun hHeld => ?_) | (go_wp2_with fail; refine hK.out _ _ ?_ (fun hHeld => ?_))
        · exact hHeld.trans hg3
        clear hK K
        try simp only [Act.put, List.setIfInBounds_toArray, List.set_cons_zero, List.set_cons_succ]
        refine take_yes (v := ?_) 5 (some 15) rfl rfl (by kernel_rfl) (by kernel_rfl) (by kernel_rfl) (fun _ _ _ h => h) (by rfl) ?_ (by assumption) ?_
        rotate_left
        · intro w' hSw
          go_simp
          try with_reducible rfl
        try simp only [Act.put, List.setIfInBounds_toArray, List.set_cons_zero, List.set_cons_succ]
        refine wpAnyH_ready (rs := [6]) (by kernel_rfl) (by simp) ?_
        refine AllReadyH.cons rfl (fun K hK => ?_) AllReadyH.nil
        go_simp
        go_at_call 76
        refine (must_yes _ _).mono ?_; rintro e w4 ⟨rfl, rfl⟩
        first | refine hK.out _ _ ?_ (fun hHeld => ?_) | (go_wp2_with fail; refine hK.out _ _ ?_ (fun hHeld => ?_))
        · exact hHeld
        clear hK K
        try simp only [Act.put, List.setIfInBounds_toArray, List.set_cons_zero, List.set_cons_succ]
        refine wpAnyH_done (by kernel_rfl) ?_ _
        have HB3 := hide (HBk.out.gr hHeld)
        have HA3 := hide (HA.out.gr hHeld)
        have HL3 := hide (HL.out.gr hHeld)
        have HG3 := hide (grown_trans HGR.out (grown_of_gr hHeld (some R)))
        clear HBk HA HL HGR HRK hHeld ck
        have hs3 := HB3.out.lt
        go_wp2
        refine wp_region_held_drew (S := (fun w' => w'.cell? ⟨B, 0, none⟩ = some (.int .i64 c))) (by assumption) (HB3.out.cell 0) (fun hHeld => ?_)
        refine take_yes (v := ?_) 0 (some 17) rfl rfl (by kernel_rfl) (by kernel_rfl) (by kernel_rfl) (fun _ _ _ h => h) (by rfl) ?_ (by assumption) ?_
        rotate_left
        · intro w' hSw
          go_simp
          try with_reducible rfl
        try simp only [Act.put, List.setIfInBounds_toArray, List.set_cons_zero, List.set_cons_succ]
        refine take_yes (v := ?_) 1 (some 18) rfl rfl (by kernel_rfl) (by kernel_rfl) (by kernel_rfl) (fun _ _ _ h => h) (by rfl) ?_ (by assumption) ?_
        rotate_left
        · intro w' hSw
          go_simp
          try with_reducible rfl
        try simp only [Act.put, List.setIfInBounds_toArray, List.set_cons_zero, List.set_cons_succ]
        refine take_yes (v := ?_) 2 (some 19) rfl rfl (by kernel_rfl) (by kernel_rfl) (by kernel_rfl) (fun _ _ _ h => h) (by rfl) ?_ (by assumption) ?_
        rotate_left
        · intro w' hSw
          go_simp
          try with_reducible rfl
        try simp only [Act.put, List.setIfInBounds_toArray, List.set_cons_zero, List.set_cons_succ]
        refine take_yes (v := ?_) 3 (some 20) rfl rfl (by kernel_rfl) (by kernel_rfl) (by kernel_rfl) (fun _ _ _ h => h) (by rfl) ?_ (by assumption) ?_
        rotate_left
        · intro w' hSw
          go_simp
          try with_reducible rfl
        try simp only [Act.put, List.setIfInBounds_toArray, List.set_cons_zero, List.set_cons_succ]
        refine take_yes (v := ?_) 4 (some 21) rfl rfl (by kernel_rfl) (by kernel_rfl) (by kernel_rfl) (fun _ _ _ h => h) (by rfl) ?_ (by assumption) ?_
        rotate_left
        · intro w' hSw
          go_simp
          try with_reducible rfl
        try simp only [Act.put, List.setIfInBounds_toArray, List.set_cons_zero, List.set_cons_succ]
        refine wpAnyH_ready (rs := [5]) (by kernel_rfl) (by simp) ?_
        refine AllReadyH.cons rfl (fun K hK => ?_) AllReadyH.nil
        go_simp
        go_at_call 50
        refine (hrb.out _).mono ?_; rintro e w5 ⟨rfl, rfl⟩
        first | refine hK.out _ _ ?_ (fun hHeld => ?_) | (go_wp2_with fail; refine hK.out _ _ ?_ (fun hHeld => ?_))
        · exact hHeld
        clear hK K
        try simp only [Act.put, List.setIfInBounds_toArray, List.set_cons_zero, List.set_cons_succ]
        refine wpAnyH_ready (rs := [6]) (by kernel_rfl) (by simp) ?_
        refine AllReadyH.cons rfl (fun K hK => ?_) AllReadyH.nil
        go_simp
        go_at_call 80
        refine (hh.out _ HL3.out.drew).mono ?_
        intro e w6 hE
        unfold Post at hE
        rw [hp.out] at hE
        obtain ⟨⟨rfl, h1, h2⟩, hg6⟩ := hE
        have hg6' := grown_trans (grown_of_gr ((Gr.refl _).drew) (some R)) hg6
        have HB6 := hide (HB3.out.grown hg6' (by simp; omega))
        have HA6 := hide (HA3.out.grown hg6' (by simp; omega))
        have H2 := hide h2
        have HG6 := hide (grown_trans HG3.out hg6')
        have e1 : w6.cell? ⟨B, 1, none⟩ = some (.int .u64 0) := HB6.out.cell 1
        have e2 := HB6.out.free 1
        clear h2 hg6 hg6' HB3 HA3 HL3 HG3
        first | refine hK.out _ _ ?_ (fun hHeld => ?_) | (go_wp2_with fail; refine hK.out _ _ ?_ (fun hHeld => ?_))
        · exact HB6.out.cell 0
        clear hK K
        refine take_yes (v := ?_) 7 (some 24) rfl rfl (by kernel_rfl) (by kernel_rfl) (by kernel_rfl) (fun _ _ _ h => h) (by rfl) ?_ (by assumption) ?_
        rotate_left
        · intro w' hSw
          go_simp
          try with_reducible rfl
        try simp only [Act.put, List.setIfInBounds_toArray, List.set_cons_zero, List.set_cons_succ]
        refine wpAnyH_ready (rs := [8]) (by kernel_rfl) (by simp) ?_
        refine AllReadyH.cons rfl (fun K hK => ?_) AllReadyH.nil
        go_simp
        refine hK.out _ _ ?_ (fun hHeld => ?_)
        · exact (HB6.out.set1of2 (.int .u64 x)).cell 0
        clear hK K
        try simp only [Act.put, List.setIfInBounds_toArray]
        refine wpAnyH_done (by kernel_rfl) ?_ _
        have HB7 := hide (HB6.out.set1of2 (.int .u64 x))
        have HA7 := hide (HA6.out.setOther (a := ⟨B, 1, none⟩) (by simp only []; omega) (.int .u64 x))
        have H7 := hide (H2.out.set (a := ⟨B, 1, none⟩) (by simp only []; omega) (by simp only []; omega) (.int .u64 x))
        have HG7 := hide (grown_new HG6.out (a := ⟨B, 1, none⟩) (by simp only []; omega) (.int .u64 x))
        clear HB6 HA6 H2 HG6 hHeld e1 e2
        generalize w6.setCell ⟨B, 1, none⟩ (.int .u64 x) = w7 at HB7 HA7 H7 HG7 ⊢
        have d0 : w7.cell? ⟨B, 0, none⟩ = some (.int .i64 c) := HB7.out.cell 0
        have d1 : w7.cell? ⟨B, 1, none⟩ = some (.int .u64 x) := HB7.out.cell 1
        have a0 : w7.cell? ⟨w.heap.size, 0, none⟩ = some (.int .i64 0) := HA7.out.cell 0
        have a1 : w7.cell? ⟨w.heap.size, 1, none⟩ = some (.int .u64 0) := HA7.out.cell 1
        have f0 := HA7.out.free 0
        have f1 := HA7.out.free 1
        go_wp2
        refine bodyPost_ret (key_results _ w.heap.size _ ((HA7.out.set0of2 (.int .i64 c)).set1of2 (.int .u64 x)) rfl _ rfl) rfl ?_
        refine Post.okI (c, x) (n + 1) HPK.out rfl (by rw [List.length_cons]; omega) ?_ (grown_new (grown_new HG7.out (a := ⟨w.heap.size, 0, none⟩) (by simp) _) (a := ⟨w.heap.size, 1, none⟩) (by simp) _)
        have h3 := (H7.out.set (a := ⟨w.heap.size, 0, none⟩) (by simp only []; omega) (by simp only []; omega) (.int .i64 c)).set (a := ⟨w.heap.size, 1, none⟩) (by simp only []; omega) (by simp only []; omega) (.int .u64 x)
        rw [Int.add_assoc, Int.add_comm 1 (n : Int)] at h3
        exact h3
      · rw [hp] at HPK
        replace hp := hide hp
        replace HPK := hide HPK
        refine wp_region_held_drew (S := (fun w' => Gr W2 w')) (by assumption) ((Gr.refl W2).drew) (fun hHeld => ?_)
        refine take_yes (v := ?_) 0 (some 10) rfl rfl (by kernel_rfl) (by kernel_rfl) (by kernel_rfl) (fun _ _ _ h => h) (by rfl) ?_ (by assumption) ?_
        rotate_left
        · intro w' hSw
          go_simp
          try with_reducible rfl
        try simp only [Act.put, List.setIfInBounds_toArray, List.set_cons_zero, List.set_cons_succ]
        refine take_yes (v := ?_) 1 (some 11) rfl rfl (by kernel_rfl) (by kernel_rfl) (by kernel_rfl) (fun _ _ _ h => h) (by rfl) ?_ (by assumption) ?_
        rotate_left
        · intro w' hSw
          go_simp
          try with_reducible rfl
        try simp only [Act.put, List.setIfInBounds_toArray, List.set_cons_zero, List.set_cons_succ]
        refine take_yes (v := ?_) 2 (some 12) rfl rfl (by kernel_rfl) (by kernel_rfl) (by kernel_rfl) (fun _ _ _ h => h) (by rfl) ?_ (by assumption) ?_
        rotate_left
        · intro w' hSw
          go_simp
          try with_reducible rfl
        try simp only [Act.put, List.setIfInBounds_toArray, List.set_cons_zero, List.set_cons_succ]
        refine take_yes (v := ?_) 3 (some 13) rfl rfl (by kernel_rfl) (by kernel_rfl) (by kernel_rfl) (fun _ _ _ h => h) (by rfl) ?_ (by assumption) ?_
        rotate_left
        · intro w' hSw
          have d0 : w'.cell? ⟨B, 0, none⟩ = some (.int .i64 c) := hSw.cell (by exact hs2) (HBk.out.cell 0)
          have d1 : w'.cell? ⟨B, 1, none⟩ = some (.int .u64 0) := hSw.cell (by exact hs2) (HBk.out.cell 1)
          go_simp
          try with_reducible rfl
        try simp only [Act.put, List.setIfInBounds_toArray, List.set_cons_zero, List.set_cons_succ]
        refine wpAnyH_ready (rs := [4]) (by kernel_rfl) (by simp) ?_
        refine AllReadyH.cons rfl (fun K hK => ?_) AllReadyH.nil
        go_simp
        go_at_call 53
        refine (ck.out _ (HRK.out.gr hHeld)).mono ?_; rintro e w3 ⟨rfl, hg3⟩
        first | refine hK.out _ _ ?_ (fun hHeld => ?_) | (go_wp2_with fail; refine hK.out _ _ ?_ (fun hHeld => ?_))
        · exact hHeld.trans hg3
        clear hK K
        try simp only [Act.put, List.setIfInBounds_toArray, List.set_cons_zero, List.set_cons_succ]
        refine take_yes (v := ?_) 5 (some 15) rfl rfl (by kernel_rfl) (by kernel_rfl) (by kernel_rfl) (fun _ _ _ h => h) (by rfl) ?_ (by assumption) ?_
        rotate_left
        · intro w' hSw
          go_simp
          try with_reducible rfl
        try simp only [Act.put, List.setIfInBounds_toArray, List.set_cons_zero, List.set_cons_succ]
        refine wpAnyH_ready (rs := [6]) (by kernel_rfl) (by simp) ?_
        refine AllReadyH.cons rfl (fun K hK => ?_) AllReadyH.nil
        go_simp
        go_at_call 76
        refine (must_yes _ _).mono ?_; rintro e w4 ⟨rfl, rfl⟩
        first | refine hK.out _ _ ?_ (fun hHeld => ?_) | (go_wp2_with fail; refine hK.out _ _ ?_ (fun hHeld => ?_))
        · exact hHeld
        clear hK K
        try simp only [Act.put, List.setIfInBounds_toArray, List.set_cons_zero, List.set_cons_succ]
        refine wpAnyH_done (by kernel_rfl) ?_ _
        have HB3 := hide (HBk.out.gr hHeld)
        have HA3 := hide (HA.out.gr hHeld)
        have HL3 := hide (HL.out.gr hHeld)
        have HG3 := hide (grown_trans HGR.out (grown_of_gr hHeld (some R)))
        clear HBk HA HL HGR HRK hHeld ck
        have hs3 := HB3.out.lt
        go_wp2
        refine wp_region_held_drew (S := (fun w' => w'.cell? ⟨B, 0, none⟩ = some (.int .i64 c))) (by assumption) (HB3.out.cell 0) (fun hHeld => ?_)
        refine take_yes (v := ?_) 0 (some 17) rfl rfl (by kernel_rfl) (by kernel_rfl) (by kernel_rfl) (fun _ _ _ h => h) (by rfl) ?_ (by assumption) ?_
        rotate_left
        · intro w' hSw
          go_simp
          try with_reducible rfl
        try simp only [Act.put, List.setIfInBounds_toArray, List.set_cons_zero, List.set_cons_succ]
        refine take_yes (v := ?_) 1 (some 18) rfl rfl (by kernel_rfl) (by kernel_rfl) (by kernel_rfl) (fun _ _ _ h => h) (by rfl) ?_ (by assumption) ?_
        rotate_left
        · intro w' hSw
          go_simp
          try with_reducible rfl
        try simp only [Act.put, List.setIfInBounds_toArray, List.set_cons_zero, List.set_cons_succ]
        refine take_yes (v := ?_) 2 (some 19) rfl rfl (by kernel_rfl) (by kernel_rfl) (by kernel_rfl) (fun _ _ _ h => h) (by rfl) ?_ (by assumption) ?_
        rotate_left
        · intro w' hSw
          go_simp
          try with_reducible rfl
        try simp only [Act.put, List.setIfInBounds_toArray, List.set_cons_zero, List.set_cons_succ]
        refine take_yes (v := ?_) 3 (some 20) rfl rfl (by kernel_rfl) (by kernel_rfl) (by kernel_rfl) (fun _ _ _ h => h) (by rfl) ?_ (by assumption) ?_
        rotate_left
        · intro w' hSw
          go_simp
          try with_reducible rfl
        try simp only [Act.put, List.setIfInBounds_toArray, List.set_cons_zero, List.set_cons_succ]
        refine take_yes (v := ?_) 4 (some 21) rfl rfl (by kernel_rfl) (by kernel_rfl) (by kernel_rfl) (fun _ _ _ h => h) (by rfl) ?_ (by assumption) ?_
        rotate_left
        · intro w' hSw
          go_simp
          try with_reducible rfl
        try simp only [Act.put, List.setIfInBounds_toArray, List.set_cons_zero, List.set_cons_succ]
        refine wpAnyH_ready (rs := [5]) (by kernel_rfl) (by simp) ?_
        refine AllReadyH.cons rfl (fun K hK => ?_) AllReadyH.nil
        go_simp
        go_at_call 50
        refine (hrb.out _).mono ?_; rintro e w5 ⟨rfl, rfl⟩
        first | refine hK.out _ _ ?_ (fun hHeld => ?_) | (go_wp2_with fail; refine hK.out _ _ ?_ (fun hHeld => ?_))
        · exact hHeld
        clear hK K
        try simp only [Act.put, List.setIfInBounds_toArray, List.set_cons_zero, List.set_cons_succ]
        refine wpAnyH_ready (rs := [6]) (by kernel_rfl) (by simp) ?_
        refine AllReadyH.cons rfl (fun K hK => ?_) AllReadyH.nil
        go_simp
        go_at_call 80
        refine (hh.out _ HL3.out.drew).mono ?_
        intro e w6 hE
        unfold Post at hE
        rw [hp.out] at hE
        obtain ⟨rfl, hg6⟩ := hE
        exact ⟨rfl, Post.badI (i + 1) er HPK.out (by rw [Int.natCast_add, Int.add_assoc, Int.add_comm 1 (i : Int)]; rfl) (grown_trans HG3.out (grown_trans (grown_of_gr ((Gr.refl _).drew) _) hg6))⟩
    · have ck := fun (x : World) (hx : Ranks x) => kCheck_any c 0 x hx
      rw [ck0, if_neg hck] at ck
      replace ck := hide ck
      have HPK := hide (show pkey (c :: r) = .bad 0 31 from if_neg hck)
      refine wp_region_held_drew (S := (fun w' => Gr W2 w')) (by assumption) ((Gr.refl W2).drew) (fun hHeld => ?_)
      refine take_yes (v := ?_) 0 (some 10) rfl rfl (by kernel_rfl) (by kernel_rfl) (by kernel_rfl) (fun _ _ _ h => h) (by rfl) ?_ (by assumption) ?_
      rotate_left
      · intro w' hSw
        go_simp
        try with_reducible rfl
      try simp only [Act.put, List.setIfInBounds_toArray, List.set_cons_zero, List.set_cons_succ]
      refine take_yes (v := ?_) 1 (some 11) rfl rfl (by kernel_rfl) (by kernel_rfl) (by kernel_rfl) (fun _ _ _ h => h) (by rfl) ?_ (by assumption) ?_
      rotate_left
      · intro w' hSw
        go_simp
        try with_reducible rfl
      try simp only [Act.put, List.setIfInBounds_toArray, List.set_cons_zero, List.set_cons_succ]
      refine take_yes (v := ?_) 2 (some 12) rfl rfl (by kernel_rfl) (by kernel_rfl) (by kernel_rfl) (fun _ _ _ h => h) (by rfl) ?_ (by assumption) ?_
      rotate_left
      · intro w' hSw
        go_simp
        try with_reducible rfl
      try simp only [Act.put, List.setIfInBounds_toArray, List.set_cons_zero, List.set_cons_succ]
      refine take_yes (v := ?_) 3 (some 13) rfl rfl (by kernel_rfl) (by kernel_rfl) (by kernel_rfl) (fun _ _ _ h => h) (by rfl) ?_ (by assumption) ?_
      rotate_left
      · intro w' hSw
        have d0 : w'.cell? ⟨B, 0, none⟩ = some (.int .i64 c) := hSw.cell (by exact hs2) (HBk.out.cell 0)
        have d1 : w'.cell? ⟨B, 1, none⟩ = some (.int .u64 0) := hSw.cell (by exact hs2) (HBk.out.cell 1)
        go_simp
        try with_reducible rfl
      try simp only [Act.put, List.setIfInBounds_toArray, List.set_cons_zero, List.set_cons_succ]
      refine wpAnyH_ready (rs := [4]) (by kernel_rfl) (by simp) ?_
      refine AllReadyH.cons rfl (fun K hK => ?_) AllReadyH.nil
      go_simp
      go_at_call 53
      refine (ck.out _ (HRK.out.gr hHeld)).mono ?_; rintro e w3 ⟨rfl, hg3⟩
      first | refine hK.out _ _ ?_ (fun hHeld => ?_) | (go_wp2_with fail; refine hK.out _ _ ?_ (fun hHeld => ?_))
      · exact hHeld.trans hg3
      clear hK K
      try simp only [Act.put, List.setIfInBounds_toArray, List.set_cons_zero, List.set_cons_succ]
      refine take_yes (v := ?_) 5 (some 15) rfl rfl (by kernel_rfl) (by kernel_rfl) (by kernel_rfl) (fun _ _ _ h => h) (by rfl) ?_ (by assumption) ?_
      rotate_left
      · intro w' hSw
        go_simp
        try with_reducible rfl
      try simp only [Act.put, List.setIfInBounds_toArray, List.set_cons_zero, List.set_cons_succ]
      refine wpAnyH_ready (rs := [6]) (by kernel_rfl) (by simp) ?_
      refine AllReadyH.cons rfl (fun K hK => ?_) AllReadyH.nil
      go_simp
      go_at_call 76
      refine (must_bad R r (at' + 1) (by omega) fl _ (HL.out.gr hHeld)).mono ?_; rintro e w4 ⟨rfl, rfl⟩
      exact ⟨rfl, Post.badI 0 31 HPK.out (by simp) (grown_trans HGR.out (grown_of_gr hHeld _))⟩

end Go.Proofs.YtmhcmlegdoapdaaDoor
