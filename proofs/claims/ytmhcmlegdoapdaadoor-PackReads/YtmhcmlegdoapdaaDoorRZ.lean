/- The document's reader: keys, of any bytes. -/
import Derived.Test.YtmhcmlegdoapdaaDoorRY
namespace Go.Proofs.YtmhcmlegdoapdaaDoor
open Go.RowKit

theorem DR.gr {w w' : World} {Q sb : Nat} {L : List Int} {p : Nat} {e : Int} (h : DR w Q sb L p e) (hg : Gr w w') : DR w' Q sb L p e := by
  obtain ⟨a, cap, h1, h2, h3, h4, h5, h6, h7, h8⟩ := h
  refine ⟨a, cap, IsB.gr h1 hg, h2, h3, h4, h5, h6, h7, ?_⟩
  rcases h8 with h8 | ⟨b, o, g1, g2, g3, g4⟩
  · exact Or.inl h8
  · exact Or.inr ⟨b, o, g1, g2, Nat.lt_of_lt_of_le g3 hg.le, fun j hj => hg.cell (by exact g3) (g4 j hj)⟩
theorem DR.set {w : World} {Q sb : Nat} {L : List Int} {p : Nat} {e : Int} (h : DR w Q sb L p e) {a : Addr} (hne : Q ≠ a.block) (hs : sb ≠ a.block) (u : Value) : DR (w.setCell a u) Q sb L p e := by
  obtain ⟨ad, cap, h1, h2, h3, h4, h5, h6, h7, h8⟩ := h
  refine ⟨ad, cap, IsB.setOther h1 hne u, h2, h3, h4, h5, h6, h7, ?_⟩
  rcases h8 with h8 | ⟨b, o, g1, g2, g3, g4⟩
  · exact Or.inl h8
  · refine Or.inr ⟨b, o, g1, g2, by rw [size_setCell]; exact g3, fun j hj => ?_⟩
    rw [World.cell?_of_block (w := w) (Below.heap_setCell w a u b (by have := h7 _ g1; simp only [] at this; omega))]; exact g4 j hj
/-- What is left behind two numbers that were to be read. -/
def DPair (w : World) (Q sb : Nat) (L : List Int) (p : Nat) (r : PR (Int × Int)) (e : Ending) (w' : World) : Prop :=
  (match r with
    | .ok x n => e = .returned ((.agg #[.int .i64 (x.1), .int .u64 (x.2)])) ∧ DR w' Q sb L (p + n) 0
    | .bad i er => (∃ k1 k2 : Int, e = .returned ((.agg #[.int .i64 (k1), .int .u64 (k2)]))) ∧ DR w' Q sb L (p + i) er ∧ er ≠ 0) ∧ w.grownBy w' (some Q)
theorem rkey_results (W : World) (g : Nat) (cs : Array Value) (h : IsB W g cs 30) (hs : cs.size = 2) (T : Array Value) (hp : T.getD 2 undef = .pointer (some ⟨g, 0, none⟩)) : (results Tryd.f61 T).run Tryd.prog W = .ok (.agg cs) W :=
  results_cell_row rfl T W g 30 cs (0, 0) _ hp h Tryd.underlying30 rfl (by rw [hs]; exact key_info)

set_option maxHeartbeats 4000000 in
set_option maxRecDepth 100000 in
/-- The document's key behind its first byte, which is not 2. -/
theorem rkey_one (Q sb : Nat) (L : List Int) (CC : Int) (hC : 0 ≤ CC ∧ CC < 256) (hc2 : CC ≠ 2) (q : Nat) (er : Int) (w : World) (hQ : Q < w.heap.size) (hsb : sb < w.heap.size)
    (hb : ∀ W, Gr w W → Calls Tryd.prog 59 #[.pointer (some ⟨Q, 0, none⟩), .int .u8 1, .int .u8 3] W fun r w' => r = .returned (.int .u8 CC) ∧ DR w' Q sb L q er ∧ W.grownBy w' (some Q)) :
    Calls Tryd.prog 61 #[.pointer (some ⟨Q, 0, none⟩)] w fun e w' => e = .returned ((.agg #[.int .i64 (CC), .int .u64 (0)])) ∧ DR w' Q sb L q er ∧ w.grownBy w' (some Q) := by
  have I0 := IsB.new w #[.int .i64 0, .int .u64 0] 30
  have HG0 := hide (show Gr w (w.alloc (.cells #[.int .i64 0, .int .u64 0] 30)) from (Gr.refl w).alloc _)
  have h1 := hide (hb _ HG0.out)
  have hl0 := I0.lt
  replace I0 := hide I0
  have hwc : IntKind.i64.wrap CC = CC := by rw [IntKind.wrap_i64]; omega
  have hn2 : (CC == 2) = false := by simp [hc2]
  clear hb
  go_enter Tryd.func61, Tryd.ntmps61
  go_wp2_with fail
  generalize w.alloc (.cells #[.int .i64 0, .int .u64 0] 30) = W0 at h1 I0 HG0 hl0 ⊢
  refine h1.out.mono ?_; rintro r w1 ⟨rfl, hd, hg⟩
  have hs1 := hg.size
  have HA := hide ((I0.out.grown hg (by simp; omega)).alloc (.cells #[.int .i64 CC, .int .u64 0] 30))
  have HK := hide (IsB.new w1 #[.int .i64 CC, .int .u64 0] 30)
  have HD := hide (hd.gr ((Gr.refl w1).alloc (.cells #[.int .i64 CC, .int .u64 0] 30)))
  have HG := hide (grown_trans (grown_trans (grown_of_gr HG0.out (some Q)) hg) (grown_of_gr ((Gr.refl w1).alloc (.cells #[.int .i64 CC, .int .u64 0] 30)) _))
  clear hd hg h1 I0
  have e0 : (w1.alloc (.cells #[.int .i64 CC, .int .u64 0] 30)).cell? ⟨w1.heap.size, 0, none⟩ = some (.int .i64 CC) := HK.out.cell 0
  have e1 : (w1.alloc (.cells #[.int .i64 CC, .int .u64 0] 30)).cell? ⟨w1.heap.size, 1, none⟩ = some (.int .u64 0) := HK.out.cell 1
  have a0 : (w1.alloc (.cells #[.int .i64 CC, .int .u64 0] 30)).cell? ⟨w.heap.size, 0, none⟩ = some (.int .i64 0) := HA.out.cell 0
  have a1 : (w1.alloc (.cells #[.int .i64 CC, .int .u64 0] 30)).cell? ⟨w.heap.size, 1, none⟩ = some (.int .u64 0) := HA.out.cell 1
  have f0 := HA.out.free 0
  have f1 := HA.out.free 1
  go_wp2
  refine bodyPost_ret (rkey_results _ w.heap.size _ ((HA.out.set0of2 (.int .i64 CC)).set1of2 (.int .u64 0)) rfl _ rfl) rfl ⟨rfl, ?_, grown_new (grown_new HG.out (a := ⟨w.heap.size, 0, none⟩) (by simp) _) (a := ⟨w.heap.size, 1, none⟩) (by simp) _⟩
  exact (HD.out.set (a := ⟨w.heap.size, 0, none⟩) (by simp only []; omega) (by simp only []; omega) (.int .i64 CC)).set (a := ⟨w.heap.size, 1, none⟩) (by simp only []; omega) (by simp only []; omega) (.int .u64 0)

/-- How far the document's key has come behind its first byte. -/
def KPh (wr : World) (Q sb : Nat) (L rest : List Int) (p j : Nat) (X : Int) : Prop :=
  (j ≤ rest.length ∧ X = hval (rest.take j) ∧ DR wr Q sb L (p + 1 + j) 0) ∨ (rest.length < 8 ∧ DR wr Q sb L (p + 1 + rest.length) 32)
theorem pbyte_all (c : Int) (l : List Int) (h : 0 ≤ c ∧ c < 256) : pbyte 0 255 (c :: l) = .ok c 1 := if_pos ⟨h.1, by omega⟩

set_option maxHeartbeats 8000000 in
set_option maxRecDepth 100000 in
theorem rkey_two (Q sb : Nat) (L rest : List Int) (p : Nat) (hrest : L.drop (p + 1) = rest) (w : World) (hQ : Q < w.heap.size) (hsb : sb < w.heap.size) (hbd : ∀ c ∈ L, 0 ≤ c ∧ c < 256)
    (hb : ∀ W, Gr w W → Calls Tryd.prog 59 #[.pointer (some ⟨Q, 0, none⟩), .int .u8 1, .int .u8 3] W fun r w' => r = .returned (.int .u8 2) ∧ DR w' Q sb L (p + 1) 0 ∧ W.grownBy w' (some Q)) :
    Calls Tryd.prog 61 #[.pointer (some ⟨Q, 0, none⟩)] w fun e w' => ∃ X : Int, e = .returned ((.agg #[.int .i64 (2), .int .u64 (X)])) ∧ KPh w' Q sb L rest p 8 X ∧ w.grownBy w' (some Q) := by
  have mixed : Tryd.prog.follows .mixedOrders = true := by kernel_rfl
  have I0 := IsB.new w #[.int .i64 0, .int .u64 0] 30
  have HG0 := hide (show Gr w (w.alloc (.cells #[.int .i64 0, .int .u64 0] 30)) from (Gr.refl w).alloc _)
  have h1 := hide (hb _ HG0.out)
  have hl0 := I0.lt
  replace I0 := hide I0
  have HBD := hide hbd
  have HRS := hide hrest
  clear hb hbd hrest
  go_enter Tryd.func61, Tryd.ntmps61
  go_wp2_with fail
  generalize w.alloc (.cells #[.int .i64 0, .int .u64 0] 30) = W0 at h1 I0 HG0 hl0 ⊢
  refine h1.out.mono ?_; rintro r w1 ⟨rfl, hd, hg⟩
  have hs1 := hg.size
  have HA := hide ((I0.out.grown hg (by simp; omega)).alloc (.cells #[.int .i64 2, .int .u64 0] 30))
  have HK := hide (IsB.new w1 #[.int .i64 2, .int .u64 0] 30)
  have HD := hide (hd.gr ((Gr.refl w1).alloc (.cells #[.int .i64 2, .int .u64 0] 30)))
  have HG := hide (grown_trans (grown_trans (grown_of_gr HG0.out (some Q)) hg) (grown_of_gr ((Gr.refl w1).alloc (.cells #[.int .i64 2, .int .u64 0] 30)) _))
  clear hd hg h1 I0
  have e0 : (w1.alloc (.cells #[.int .i64 2, .int .u64 0] 30)).cell? ⟨w1.heap.size, 0, none⟩ = some (.int .i64 2) := HK.out.cell 0
  go_wp2
  clear e0
  have hBl := HK.out.lt
  generalize hB : w1.heap.size = B at HK hs1 hBl ⊢
  generalize w1.alloc (.cells #[.int .i64 2, .int .u64 0] 30) = W2 at HA HK HD HG hBl ⊢
  clear hB
  go_loopw [4] (fun i wr => ∃ (j : Nat) (X : Int), i = .int .i64 (j : Int) ∧ j ≤ 8 ∧ 0 ≤ X ∧ X < 18446744073709551616 ∧ Hid (KPh wr Q sb L rest p j X) ∧ Hid (IsB wr B #[.int .i64 2, .int .u64 X] 30) ∧ Hid (IsB wr w.heap.size #[.int .i64 0, .int .u64 0] 30) ∧ Hid (w.grownBy wr (some Q))) (fun i _ => (8 - intOf i).toNat)
  case atStart => exact ⟨0, 0, rfl, by omega, by omega, by omega, hide (Or.inl ⟨by omega, rfl, HD.out⟩), HK, HA, HG⟩
  case round =>
    clear HD HK HA HG
    obtain ⟨j, X, rfl, hj8, hX0, hX1, HP, HK, HA, HG⟩ := hrel
    have e1 : wr.cell? ⟨B, 1, none⟩ = some (.int .u64 X) := HK.out.cell 1
    by_cases hj : j < 8
    · obtain ⟨c, q', er', hcb, hby, hnext⟩ : ∃ (c : Int) (q' : Nat) (er' : Int), (0 ≤ c ∧ c < 256) ∧ (Calls Tryd.prog 59 #[.pointer (some ⟨Q, 0, none⟩), .int .u8 0, .int .u8 255] wr.drew fun r w' => r = .returned (.int .u8 c) ∧ DR w' Q sb L q' er' ∧ wr.drew.grownBy w' (some Q)) ∧
          (∀ W, DR W Q sb L q' er' → KPh W Q sb L rest p (j + 1) (IntKind.u64.wrap (IntKind.u64.wrap (X * 256) + c))) := by
        rcases HP.out with ⟨h1, h2, h3⟩ | ⟨h1, h2⟩
        · by_cases hjr : j < rest.length
          · have hd1 : L.drop (p + 1 + j) = rest[j] :: rest.drop (j + 1) := by rw [← List.drop_drop, HRS.out]; exact List.drop_eq_getElem_cons hjr
            have hcb : 0 ≤ rest[j] ∧ rest[j] < 256 := HBD.out _ (List.mem_of_mem_drop (by rw [HRS.out]; exact List.getElem_mem hjr))
            refine ⟨rest[j], p + 1 + j + 1, 0, hcb, ?_, ?_⟩
            · have hr := rbyte_any Q sb L (p + 1 + j) 0 255 wr.drew h3.drew
              rw [hd1, pbyte_all _ _ hcb] at hr
              refine hr.mono ?_
              rintro r w' ⟨⟨rfl, hd⟩, hg⟩
              exact ⟨rfl, hd, hg⟩
            · intro W hW
              refine Or.inl ⟨by omega, ?_, hW⟩
              have hbx := hval_bd (rest.take j) (fun x hx => HBD.out x (List.mem_of_mem_drop (by rw [HRS.out]; exact List.mem_of_mem_take hx)))
              rw [List.length_take, Nat.min_eq_left (by omega), ← h2] at hbx
              have hp8 := pow_le8 j hj
              rw [List.take_succ_eq_append_getElem hjr, hval_snoc, ← h2]
              have w1 : IntKind.u64.wrap (X * 256) = X * 256 := by rw [IntKind.wrap_u64]; omega
              rw [w1, IntKind.wrap_u64]; omega
          · have hje : j = rest.length := by omega
            have hle := h3.le
            have hpe : p + 1 + j = L.length := by
              have := congrArg List.length HRS.out
              rw [List.length_drop] at this
              omega
            refine ⟨0, p + 1 + j, 32, by omega, ?_, ?_⟩
            · have hr := rbyte_any Q sb L (p + 1 + j) 0 255 wr.drew h3.drew
              have he : pbyte 0 255 (L.drop (p + 1 + j)) = .bad 0 32 := by rw [hpe, List.drop_length]; rfl
              rw [he] at hr
              refine hr.mono ?_
              rintro r w' ⟨⟨rfl, hd, _⟩, hg⟩
              exact ⟨rfl, hd, hg⟩
            · intro W hW
              exact Or.inr ⟨by omega, by rw [← hje]; exact hW⟩
        · refine ⟨0, p + 1 + rest.length, 32, by omega, ?_, ?_⟩
          · refine (rbyte_bad Q sb L _ 32 (by omega) 0 255 wr.drew h2.drew).mono ?_
            rintro r w' ⟨rfl, rfl⟩
            exact ⟨rfl, h2.drew, ⟨rfl, rfl, rfl, Nat.le_refl _, fun _ _ _ => rfl⟩⟩
          · intro W hW
            exact Or.inr ⟨h1, hW⟩
      obtain ⟨M1, hM1⟩ : ∃ M1, IntKind.u64.wrap (X * 256) = M1 := ⟨_, rfl⟩
      rw [hM1] at hnext
      obtain ⟨NX, hNX⟩ : ∃ NX, IntKind.u64.wrap (M1 + c) = NX := ⟨_, rfl⟩
      rw [hNX] at hnext
      have hNb : 0 ≤ NX ∧ NX < 18446744073709551616 := by rw [← hNX, IntKind.wrap_u64]; omega
      have hwc : IntKind.u64.wrap c = c := by rw [IntKind.wrap_u64]; omega
      replace hby := hide hby
      have HNX := hide hnext
      clear hnext HP
      go_wp2
      refine wp_region_held_drew (S := fun _ => True) (by assumption) trivial (fun _ => ?_)
      refine take_yes (v := ?_) 0 (some 16) rfl rfl (by kernel_rfl) (by kernel_rfl) (by kernel_rfl) (fun _ _ _ h => h) (by rfl) ?_ trivial ?_
      rotate_left
      · intro w' hSw
        go_simp
        try with_reducible rfl
      try simp only [Act.put, List.setIfInBounds_toArray, List.set_cons_zero, List.set_cons_succ]
      refine take_yes (v := ?_) 3 (some 19) rfl rfl (by kernel_rfl) (by kernel_rfl) (by kernel_rfl) (fun _ _ _ h => h) (by rfl) ?_ trivial ?_
      rotate_left
      · intro w' hSw
        go_simp
        try with_reducible rfl
      try simp only [Act.put, List.setIfInBounds_toArray, List.set_cons_zero, List.set_cons_succ]
      refine wpAnyH_ready (rs := [1, 4]) (by kernel_rfl) (by simp) ?_
      refine (AllReadyH.cons rfl (fun K hK => ?_) (AllReadyH.cons rfl (fun K hK => ?_) AllReadyH.nil))
      · go_simp
        refine hK.out _ _ trivial (fun _ => ?_)
        clear hK K
        try simp only [Act.put, List.setIfInBounds_toArray, List.set_cons_zero, List.set_cons_succ]
        refine wpAnyH_ready (rs := [2, 4]) (by kernel_rfl) (by simp) ?_
        refine (AllReadyH.cons rfl (fun K hK => ?_) (AllReadyH.cons rfl (fun K hK => ?_) AllReadyH.nil))
        · go_simp
          refine hK.out _ _ trivial (fun _ => ?_)
          clear hK K
          try simp only [Act.put, List.setIfInBounds_toArray, List.set_cons_zero, List.set_cons_succ]
          refine wpAnyH_ready (rs := [4]) (by kernel_rfl) (by simp) ?_
          refine (AllReadyH.cons rfl (fun K hK => ?_) AllReadyH.nil)
          · go_simp
            go_at_call 59
            refine hby.out.mono ?_
            rintro e w5 ⟨rfl, hd5, hg5'⟩
            have hg5 : wr.grownBy w5 (some Q) := grown_trans (grown_of_gr ((Gr.refl wr).drew) (some Q)) hg5'
            clear hg5'
            have HD5 := hide hd5
            have HK5 := hide (HK.out.grown hg5 (by intro h; simp only [Option.some.injEq] at h; omega))
            have HA5 := hide (HA.out.grown hg5 (by intro h; simp only [Option.some.injEq] at h; omega))
            have HG5 := hide (grown_trans HG.out hg5)
            have e1 : w5.cell? ⟨B, 1, none⟩ = some (.int .u64 X) := HK5.out.cell 1
            have e2 := HK5.out.free 1
            clear hd5 hg5
            first | refine hK.out _ _ trivial (fun _ => ?_) | (go_wp2_with fail; refine hK.out _ _ trivial (fun _ => ?_))
            clear hK K
            try simp only [Act.put, List.setIfInBounds_toArray, List.set_cons_zero, List.set_cons_succ]
            refine wpAnyH_ready (rs := [5]) (by kernel_rfl) (by simp) ?_
            refine (AllReadyH.cons rfl (fun K hK => ?_) AllReadyH.nil)
            · go_simp
              refine hK.out _ _ trivial (fun _ => ?_)
              clear hK K
              try simp only [Act.put, List.setIfInBounds_toArray, List.set_cons_zero, List.set_cons_succ]
              refine wpAnyH_ready (rs := [6]) (by kernel_rfl) (by simp) ?_
              refine (AllReadyH.cons rfl (fun K hK => ?_) AllReadyH.nil)
              · go_simp
                refine hK.out _ _ trivial (fun _ => ?_)
                clear hK K
                try simp only [Act.put, List.setIfInBounds_toArray, List.set_cons_zero, List.set_cons_succ]
                refine wpAnyH_ready (rs := [7]) (by kernel_rfl) (by simp) ?_
                refine (AllReadyH.cons rfl (fun K hK => ?_) AllReadyH.nil)
                · go_simp
                  refine hK.out _ _ trivial (fun _ => ?_)
                  clear hK K
                  try simp only [Act.put, List.setIfInBounds_toArray, List.set_cons_zero, List.set_cons_succ]
                  refine wpAnyH_ready (rs := [8]) (by kernel_rfl) (by simp) ?_
                  refine (AllReadyH.cons rfl (fun K hK => ?_) AllReadyH.nil)
                  · go_simp
                    refine hK.out _ _ trivial (fun _ => ?_)
                    clear hK K
                    try simp only [Act.put, List.setIfInBounds_toArray]
                    refine wpAnyH_done (by kernel_rfl) ?_ _
                    have HK6 := hide (HK5.out.set1of2 (.int .u64 NX))
                    have HA6 := hide (HA5.out.setOther (a := ⟨B, 1, none⟩) (by simp only []; omega) (.int .u64 NX))
                    have HD6 := hide (HD5.out.set (a := ⟨B, 1, none⟩) (by simp only []; omega) (by simp only []; omega) (.int .u64 NX))
                    have HG6 := hide (grown_new HG5.out (a := ⟨B, 1, none⟩) (by simp only []; omega) (.int .u64 NX))
                    clear HK5 HA5 HD5 HG5 e1 e2
                    generalize w5.setCell ⟨B, 1, none⟩ (.int .u64 NX) = w6 at HK6 HA6 HD6 HG6 ⊢
                    go_wp2
                    go_roundw
                    case rel => exact ⟨j + 1, NX, by go_num, by omega, hNb.1, hNb.2, hide (HNX.out _ HD6.out), HK6, HA6, HG6⟩
                    case measure => simp [intOf]; omega
        · go_simp
          go_at_call 59
          refine hby.out.mono ?_
          rintro e w5 ⟨rfl, hd5, hg5'⟩
          have hg5 : wr.grownBy w5 (some Q) := grown_trans (grown_of_gr ((Gr.refl wr).drew) (some Q)) hg5'
          clear hg5'
          have HD5 := hide hd5
          have HK5 := hide (HK.out.grown hg5 (by intro h; simp only [Option.some.injEq] at h; omega))
          have HA5 := hide (HA.out.grown hg5 (by intro h; simp only [Option.some.injEq] at h; omega))
          have HG5 := hide (grown_trans HG.out hg5)
          have e1 : w5.cell? ⟨B, 1, none⟩ = some (.int .u64 X) := HK5.out.cell 1
          have e2 := HK5.out.free 1
          clear hd5 hg5
          first | refine hK.out _ _ trivial (fun _ => ?_) | (go_wp2_with fail; refine hK.out _ _ trivial (fun _ => ?_))
          clear hK K
          try simp only [Act.put, List.setIfInBounds_toArray, List.set_cons_zero, List.set_cons_succ]
          refine wpAnyH_ready (rs := [2, 5]) (by kernel_rfl) (by simp) ?_
          refine (AllReadyH.cons rfl (fun K hK => ?_) (AllReadyH.cons rfl (fun K hK => ?_) AllReadyH.nil))
          · go_simp
            refine hK.out _ _ trivial (fun _ => ?_)
            clear hK K
            try simp only [Act.put, List.setIfInBounds_toArray, List.set_cons_zero, List.set_cons_succ]
            refine wpAnyH_ready (rs := [5]) (by kernel_rfl) (by simp) ?_
            refine (AllReadyH.cons rfl (fun K hK => ?_) AllReadyH.nil)
            · go_simp
              refine hK.out _ _ trivial (fun _ => ?_)
              clear hK K
              try simp only [Act.put, List.setIfInBounds_toArray, List.set_cons_zero, List.set_cons_succ]
              refine wpAnyH_ready (rs := [6]) (by kernel_rfl) (by simp) ?_
              refine (AllReadyH.cons rfl (fun K hK => ?_) AllReadyH.nil)
              · go_simp
                refine hK.out _ _ trivial (fun _ => ?_)
                clear hK K
                try simp only [Act.put, List.setIfInBounds_toArray, List.set_cons_zero, List.set_cons_succ]
                refine wpAnyH_ready (rs := [7]) (by kernel_rfl) (by simp) ?_
                refine (AllReadyH.cons rfl (fun K hK => ?_) AllReadyH.nil)
                · go_simp
                  refine hK.out _ _ trivial (fun _ => ?_)
                  clear hK K
                  try simp only [Act.put, List.setIfInBounds_toArray, List.set_cons_zero, List.set_cons_succ]
                  refine wpAnyH_ready (rs := [8]) (by kernel_rfl) (by simp) ?_
                  refine (AllReadyH.cons rfl (fun K hK => ?_) AllReadyH.nil)
                  · go_simp
                    refine hK.out _ _ trivial (fun _ => ?_)
                    clear hK K
                    try simp only [Act.put, List.setIfInBounds_toArray]
                    refine wpAnyH_done (by kernel_rfl) ?_ _
                    have HK6 := hide (HK5.out.set1of2 (.int .u64 NX))
                    have HA6 := hide (HA5.out.setOther (a := ⟨B, 1, none⟩) (by simp only []; omega) (.int .u64 NX))
                    have HD6 := hide (HD5.out.set (a := ⟨B, 1, none⟩) (by simp only []; omega) (by simp only []; omega) (.int .u64 NX))
                    have HG6 := hide (grown_new HG5.out (a := ⟨B, 1, none⟩) (by simp only []; omega) (.int .u64 NX))
                    clear HK5 HA5 HD5 HG5 e1 e2
                    generalize w5.setCell ⟨B, 1, none⟩ (.int .u64 NX) = w6 at HK6 HA6 HD6 HG6 ⊢
                    go_wp2
                    go_roundw
                    case rel => exact ⟨j + 1, NX, by go_num, by omega, hNb.1, hNb.2, hide (HNX.out _ HD6.out), HK6, HA6, HG6⟩
                    case measure => simp [intOf]; omega
          · go_simp
            refine hK.out _ _ trivial (fun _ => ?_)
            clear hK K
            try simp only [Act.put, List.setIfInBounds_toArray, List.set_cons_zero, List.set_cons_succ]
            refine wpAnyH_ready (rs := [2]) (by kernel_rfl) (by simp) ?_
            refine (AllReadyH.cons rfl (fun K hK => ?_) AllReadyH.nil)
            · go_simp
              refine hK.out _ _ trivial (fun _ => ?_)
              clear hK K
              try simp only [Act.put, List.setIfInBounds_toArray, List.set_cons_zero, List.set_cons_succ]
              refine wpAnyH_ready (rs := [6]) (by kernel_rfl) (by simp) ?_
              refine (AllReadyH.cons rfl (fun K hK => ?_) AllReadyH.nil)
              · go_simp
                refine hK.out _ _ trivial (fun _ => ?_)
                clear hK K
                try simp only [Act.put, List.setIfInBounds_toArray, List.set_cons_zero, List.set_cons_succ]
                refine wpAnyH_ready (rs := [7]) (by kernel_rfl) (by simp) ?_
                refine (AllReadyH.cons rfl (fun K hK => ?_) AllReadyH.nil)
                · go_simp
                  refine hK.out _ _ trivial (fun _ => ?_)
                  clear hK K
                  try simp only [Act.put, List.setIfInBounds_toArray, List.set_cons_zero, List.set_cons_succ]
                  refine wpAnyH_ready (rs := [8]) (by kernel_rfl) (by simp) ?_
                  refine (AllReadyH.cons rfl (fun K hK => ?_) AllReadyH.nil)
                  · go_simp
                    refine hK.out _ _ trivial (fun _ => ?_)
                    clear hK K
                    try simp only [Act.put, List.setIfInBounds_toArray]
                    refine wpAnyH_done (by kernel_rfl) ?_ _
                    have HK6 := hide (HK5.out.set1of2 (.int .u64 NX))
                    have HA6 := hide (HA5.out.setOther (a := ⟨B, 1, none⟩) (by simp only []; omega) (.int .u64 NX))
                    have HD6 := hide (HD5.out.set (a := ⟨B, 1, none⟩) (by simp only []; omega) (by simp only []; omega) (.int .u64 NX))
                    have HG6 := hide (grown_new HG5.out (a := ⟨B, 1, none⟩) (by simp only []; omega) (.int .u64 NX))
                    clear HK5 HA5 HD5 HG5 e1 e2
                    generalize w5.setCell ⟨B, 1, none⟩ (.int .u64 NX) = w6 at HK6 HA6 HD6 HG6 ⊢
                    go_wp2
                    go_roundw
                    case rel => exact ⟨j + 1, NX, by go_num, by omega, hNb.1, hNb.2, hide (HNX.out _ HD6.out), HK6, HA6, HG6⟩
                    case measure => simp [intOf]; omega
      · go_simp
        go_at_call 59
        refine hby.out.mono ?_
        rintro e w5 ⟨rfl, hd5, hg5'⟩
        have hg5 : wr.grownBy w5 (some Q) := grown_trans (grown_of_gr ((Gr.refl wr).drew) (some Q)) hg5'
        clear hg5'
        have HD5 := hide hd5
        have HK5 := hide (HK.out.grown hg5 (by intro h; simp only [Option.some.injEq] at h; omega))
        have HA5 := hide (HA.out.grown hg5 (by intro h; simp only [Option.some.injEq] at h; omega))
        have HG5 := hide (grown_trans HG.out hg5)
        have e1 : w5.cell? ⟨B, 1, none⟩ = some (.int .u64 X) := HK5.out.cell 1
        have e2 := HK5.out.free 1
        clear hd5 hg5
        first | refine hK.out _ _ trivial (fun _ => ?_) | (go_wp2_with fail; refine hK.out _ _ trivial (fun _ => ?_))
        clear hK K
        try simp only [Act.put, List.setIfInBounds_toArray, List.set_cons_zero, List.set_cons_succ]
        refine wpAnyH_ready (rs := [1, 5]) (by kernel_rfl) (by simp) ?_
        refine (AllReadyH.cons rfl (fun K hK => ?_) (AllReadyH.cons rfl (fun K hK => ?_) AllReadyH.nil))
        · go_simp
          refine hK.out _ _ trivial (fun _ => ?_)
          clear hK K
          try simp only [Act.put, List.setIfInBounds_toArray, List.set_cons_zero, List.set_cons_succ]
          refine wpAnyH_ready (rs := [2, 5]) (by kernel_rfl) (by simp) ?_
          refine (AllReadyH.cons rfl (fun K hK => ?_) (AllReadyH.cons rfl (fun K hK => ?_) AllReadyH.nil))
          · go_simp
            refine hK.out _ _ trivial (fun _ => ?_)
            clear hK K
            try simp only [Act.put, List.setIfInBounds_toArray, List.set_cons_zero, List.set_cons_succ]
            refine wpAnyH_ready (rs := [5]) (by kernel_rfl) (by simp) ?_
            refine (AllReadyH.cons rfl (fun K hK => ?_) AllReadyH.nil)
            · go_simp
              refine hK.out _ _ trivial (fun _ => ?_)
              clear hK K
              try simp only [Act.put, List.setIfInBounds_toArray, List.set_cons_zero, List.set_cons_succ]
              refine wpAnyH_ready (rs := [6]) (by kernel_rfl) (by simp) ?_
              refine (AllReadyH.cons rfl (fun K hK => ?_) AllReadyH.nil)
              · go_simp
                refine hK.out _ _ trivial (fun _ => ?_)
                clear hK K
                try simp only [Act.put, List.setIfInBounds_toArray, List.set_cons_zero, List.set_cons_succ]
                refine wpAnyH_ready (rs := [7]) (by kernel_rfl) (by simp) ?_
                refine (AllReadyH.cons rfl (fun K hK => ?_) AllReadyH.nil)
                · go_simp
                  refine hK.out _ _ trivial (fun _ => ?_)
                  clear hK K
                  try simp only [Act.put, List.setIfInBounds_toArray, List.set_cons_zero, List.set_cons_succ]
                  refine wpAnyH_ready (rs := [8]) (by kernel_rfl) (by simp) ?_
                  refine (AllReadyH.cons rfl (fun K hK => ?_) AllReadyH.nil)
                  · go_simp
                    refine hK.out _ _ trivial (fun _ => ?_)
                    clear hK K
                    try simp only [Act.put, List.setIfInBounds_toArray]
                    refine wpAnyH_done (by kernel_rfl) ?_ _
                    have HK6 := hide (HK5.out.set1of2 (.int .u64 NX))
                    have HA6 := hide (HA5.out.setOther (a := ⟨B, 1, none⟩) (by simp only []; omega) (.int .u64 NX))
                    have HD6 := hide (HD5.out.set (a := ⟨B, 1, none⟩) (by simp only []; omega) (by simp only []; omega) (.int .u64 NX))
                    have HG6 := hide (grown_new HG5.out (a := ⟨B, 1, none⟩) (by simp only []; omega) (.int .u64 NX))
                    clear HK5 HA5 HD5 HG5 e1 e2
                    generalize w5.setCell ⟨B, 1, none⟩ (.int .u64 NX) = w6 at HK6 HA6 HD6 HG6 ⊢
                    go_wp2
                    go_roundw
                    case rel => exact ⟨j + 1, NX, by go_num, by omega, hNb.1, hNb.2, hide (HNX.out _ HD6.out), HK6, HA6, HG6⟩
                    case measure => simp [intOf]; omega
          · go_simp
            refine hK.out _ _ trivial (fun _ => ?_)
            clear hK K
            try simp only [Act.put, List.setIfInBounds_toArray, List.set_cons_zero, List.set_cons_succ]
            refine wpAnyH_ready (rs := [2]) (by kernel_rfl) (by simp) ?_
            refine (AllReadyH.cons rfl (fun K hK => ?_) AllReadyH.nil)
            · go_simp
              refine hK.out _ _ trivial (fun _ => ?_)
              clear hK K
              try simp only [Act.put, List.setIfInBounds_toArray, List.set_cons_zero, List.set_cons_succ]
              refine wpAnyH_ready (rs := [6]) (by kernel_rfl) (by simp) ?_
              refine (AllReadyH.cons rfl (fun K hK => ?_) AllReadyH.nil)
              · go_simp
                refine hK.out _ _ trivial (fun _ => ?_)
                clear hK K
                try simp only [Act.put, List.setIfInBounds_toArray, List.set_cons_zero, List.set_cons_succ]
                refine wpAnyH_ready (rs := [7]) (by kernel_rfl) (by simp) ?_
                refine (AllReadyH.cons rfl (fun K hK => ?_) AllReadyH.nil)
                · go_simp
                  refine hK.out _ _ trivial (fun _ => ?_)
                  clear hK K
                  try simp only [Act.put, List.setIfInBounds_toArray, List.set_cons_zero, List.set_cons_succ]
                  refine wpAnyH_ready (rs := [8]) (by kernel_rfl) (by simp) ?_
                  refine (AllReadyH.cons rfl (fun K hK => ?_) AllReadyH.nil)
                  · go_simp
                    refine hK.out _ _ trivial (fun _ => ?_)
                    clear hK K
                    try simp only [Act.put, List.setIfInBounds_toArray]
                    refine wpAnyH_done (by kernel_rfl) ?_ _
                    have HK6 := hide (HK5.out.set1of2 (.int .u64 NX))
                    have HA6 := hide (HA5.out.setOther (a := ⟨B, 1, none⟩) (by simp only []; omega) (.int .u64 NX))
                    have HD6 := hide (HD5.out.set (a := ⟨B, 1, none⟩) (by simp only []; omega) (by simp only []; omega) (.int .u64 NX))
                    have HG6 := hide (grown_new HG5.out (a := ⟨B, 1, none⟩) (by simp only []; omega) (.int .u64 NX))
                    clear HK5 HA5 HD5 HG5 e1 e2
                    generalize w5.setCell ⟨B, 1, none⟩ (.int .u64 NX) = w6 at HK6 HA6 HD6 HG6 ⊢
                    go_wp2
                    go_roundw
                    case rel => exact ⟨j + 1, NX, by go_num, by omega, hNb.1, hNb.2, hide (HNX.out _ HD6.out), HK6, HA6, HG6⟩
                    case measure => simp [intOf]; omega
        · go_simp
          refine hK.out _ _ trivial (fun _ => ?_)
          clear hK K
          try simp only [Act.put, List.setIfInBounds_toArray, List.set_cons_zero, List.set_cons_succ]
          refine wpAnyH_ready (rs := [1]) (by kernel_rfl) (by simp) ?_
          refine (AllReadyH.cons rfl (fun K hK => ?_) AllReadyH.nil)
          · go_simp
            refine hK.out _ _ trivial (fun _ => ?_)
            clear hK K
            try simp only [Act.put, List.setIfInBounds_toArray, List.set_cons_zero, List.set_cons_succ]
            refine wpAnyH_ready (rs := [2]) (by kernel_rfl) (by simp) ?_
            refine (AllReadyH.cons rfl (fun K hK => ?_) AllReadyH.nil)
            · go_simp
              refine hK.out _ _ trivial (fun _ => ?_)
              clear hK K
              try simp only [Act.put, List.setIfInBounds_toArray, List.set_cons_zero, List.set_cons_succ]
              refine wpAnyH_ready (rs := [6]) (by kernel_rfl) (by simp) ?_
              refine (AllReadyH.cons rfl (fun K hK => ?_) AllReadyH.nil)
              · go_simp
                refine hK.out _ _ trivial (fun _ => ?_)
                clear hK K
                try simp only [Act.put, List.setIfInBounds_toArray, List.set_cons_zero, List.set_cons_succ]
                refine wpAnyH_ready (rs := [7]) (by kernel_rfl) (by simp) ?_
                refine (AllReadyH.cons rfl (fun K hK => ?_) AllReadyH.nil)
                · go_simp
                  refine hK.out _ _ trivial (fun _ => ?_)
                  clear hK K
                  try simp only [Act.put, List.setIfInBounds_toArray, List.set_cons_zero, List.set_cons_succ]
                  refine wpAnyH_ready (rs := [8]) (by kernel_rfl) (by simp) ?_
                  refine (AllReadyH.cons rfl (fun K hK => ?_) AllReadyH.nil)
                  · go_simp
                    refine hK.out _ _ trivial (fun _ => ?_)
                    clear hK K
                    try simp only [Act.put, List.setIfInBounds_toArray]
                    refine wpAnyH_done (by kernel_rfl) ?_ _
                    have HK6 := hide (HK5.out.set1of2 (.int .u64 NX))
                    have HA6 := hide (HA5.out.setOther (a := ⟨B, 1, none⟩) (by simp only []; omega) (.int .u64 NX))
                    have HD6 := hide (HD5.out.set (a := ⟨B, 1, none⟩) (by simp only []; omega) (by simp only []; omega) (.int .u64 NX))
                    have HG6 := hide (grown_new HG5.out (a := ⟨B, 1, none⟩) (by simp only []; omega) (.int .u64 NX))
                    clear HK5 HA5 HD5 HG5 e1 e2
                    generalize w5.setCell ⟨B, 1, none⟩ (.int .u64 NX) = w6 at HK6 HA6 HD6 HG6 ⊢
                    go_wp2
                    go_roundw
                    case rel => exact ⟨j + 1, NX, by go_num, by omega, hNb.1, hNb.2, hide (HNX.out _ HD6.out), HK6, HA6, HG6⟩
                    case measure => simp [intOf]; omega
    · obtain rfl : j = 8 := by omega
      have a0 : wr.cell? ⟨w.heap.size, 0, none⟩ = some (.int .i64 0) := HA.out.cell 0
      have a1 : wr.cell? ⟨w.heap.size, 1, none⟩ = some (.int .u64 0) := HA.out.cell 1
      have e0 : wr.cell? ⟨B, 0, none⟩ = some (.int .i64 2) := HK.out.cell 0
      have f0 := HA.out.free 0
      have f1 := HA.out.free 1
      go_wp2
      refine bodyPost_ret (rkey_results _ w.heap.size _ ((HA.out.set0of2 (.int .i64 2)).set1of2 (.int .u64 X)) rfl _ rfl) rfl ⟨X, rfl, ?_, grown_new (grown_new HG.out (a := ⟨w.heap.size, 0, none⟩) (by simp) _) (a := ⟨w.heap.size, 1, none⟩) (by simp) _⟩
      rcases HP.out with ⟨h1, h2, h3⟩ | ⟨h1, h2⟩
      · exact Or.inl ⟨h1, h2, (h3.set (a := ⟨w.heap.size, 0, none⟩) (by simp only []; omega) (by simp only []; omega) _).set (a := ⟨w.heap.size, 1, none⟩) (by simp only []; omega) (by simp only []; omega) _⟩
      · exact Or.inr ⟨h1, (h2.set (a := ⟨w.heap.size, 0, none⟩) (by simp only []; omega) (by simp only []; omega) _).set (a := ⟨w.heap.size, 1, none⟩) (by simp only []; omega) (by simp only []; omega) _⟩

/-- The document's key, of any bytes. -/
theorem rkey_any (Q sb : Nat) (L : List Int) (p : Nat) (w : World) (h : DR w Q sb L p 0) (hsb : sb < w.heap.size) :
    Calls Tryd.prog 61 #[.pointer (some ⟨Q, 0, none⟩)] w fun e w' => DPair w Q sb L p (pkey (L.drop p)) e w' := by
  have hbd := h.bd
  have hQ := h.lt
  have hby := fun (W : World) (hg : Gr w W) => rbyte_any Q sb L p 1 3 W (h.gr hg)
  rcases hd : L.drop p with _ | ⟨c, rest⟩
  · rw [hd] at hby
    have hb0 : pbyte 1 3 ([] : List Int) = .bad 0 32 := rfl
    rw [hb0] at hby
    refine (rkey_one Q sb L 0 (by omega) (by omega) p 32 w hQ hsb (fun W hg => (hby W hg).mono ?_)).mono ?_
    · rintro r w' ⟨⟨rfl, hd', _⟩, hg'⟩
      exact ⟨rfl, hd', hg'⟩
    · rintro e w' ⟨rfl, hd', hg'⟩
      exact ⟨⟨⟨0, 0, rfl⟩, hd', by omega⟩, hg'⟩
  · have hcb := hbd c (List.mem_of_mem_drop (by rw [hd]; exact List.mem_cons_self))
    have hr1 : L.drop (p + 1) = rest := by
      have : L.drop (p + 1) = (L.drop p).drop 1 := by rw [List.drop_drop]
      rw [this, hd]; rfl
    rw [hd] at hby
    by_cases hc : 1 ≤ c ∧ c ≤ 3
    · have hb0 : pbyte 1 3 (c :: rest) = .ok c 1 := if_pos hc
      rw [hb0] at hby
      have hpk : pkey (c :: rest) = match phigh (if c = 2 then 8 else 0) rest with
        | .ok x n => .ok (c, x) (n + 1)
        | .bad i e => .bad (i + 1) e := if_pos hc
      by_cases h2 : c = 2
      · subst h2
        rw [if_pos rfl] at hpk
        refine (rkey_two Q sb L rest p hr1 w hQ hsb hbd (fun W hg => (hby W hg).mono ?_)).mono ?_
        · rintro r w' ⟨⟨rfl, hd'⟩, hg'⟩
          exact ⟨rfl, hd', hg'⟩
        · rintro e w' ⟨X, rfl, hk, hg'⟩
          rcases hk with ⟨k1, k2, k3⟩ | ⟨k1, k2⟩
          · have e8 : phigh 8 rest = .ok X 8 := by rw [k2]; exact if_pos k1
            rw [hpk, e8]
            exact ⟨⟨rfl, by rw [show p + (8 + 1) = p + 1 + 8 from by omega]; exact k3⟩, hg'⟩
          · have e8 : phigh 8 rest = .bad rest.length 32 := if_neg (by omega)
            rw [hpk, e8]
            exact ⟨⟨⟨2, X, rfl⟩, by rw [show p + (rest.length + 1) = p + 1 + rest.length from by omega]; exact k2, by omega⟩, hg'⟩
      · rw [if_neg h2] at hpk
        have e0 : phigh 0 rest = .ok 0 0 := if_pos (by omega)
        rw [hpk, e0]
        refine (rkey_one Q sb L c hcb h2 (p + 1) 0 w hQ hsb (fun W hg => (hby W hg).mono ?_)).mono ?_
        · rintro r w' ⟨⟨rfl, hd'⟩, hg'⟩
          exact ⟨rfl, hd', hg'⟩
        · rintro e w' ⟨rfl, hd', hg'⟩
          exact ⟨⟨rfl, hd'⟩, hg'⟩
    · have hb0 : pbyte 1 3 (c :: rest) = .bad 0 31 := if_neg hc
      rw [hb0] at hby
      have hpk : pkey (c :: rest) = .bad 0 31 := if_neg hc
      rw [hpk]
      refine (rkey_one Q sb L 0 (by omega) (by omega) p 31 w hQ hsb (fun W hg => (hby W hg).mono ?_)).mono ?_
      · rintro r w' ⟨⟨rfl, hd', _⟩, hg'⟩
        exact ⟨rfl, hd', hg'⟩
      · rintro e w' ⟨rfl, hd', hg'⟩
        exact ⟨⟨⟨0, 0, rfl⟩, hd', by omega⟩, hg'⟩
/-- The document's key behind a fault. -/
theorem rkey_bad (Q sb : Nat) (L : List Int) (p : Nat) (er : Int) (he : er ≠ 0) (w : World) (h : DR w Q sb L p er) (hsb : sb < w.heap.size) :
    Calls Tryd.prog 61 #[.pointer (some ⟨Q, 0, none⟩)] w fun e w' => e = .returned ((.agg #[.int .i64 (0), .int .u64 (0)])) ∧ DR w' Q sb L p er ∧ w.grownBy w' (some Q) := by
  refine rkey_one Q sb L 0 (by omega) (by omega) p er w h.lt hsb (fun W hg => (rbyte_bad Q sb L p er he 1 3 W (h.gr hg)).mono ?_)
  rintro r w' ⟨rfl, rfl⟩
  exact ⟨rfl, h.gr hg, ⟨rfl, rfl, rfl, Nat.le_refl _, fun _ _ _ => rfl⟩⟩

end Go.Proofs.YtmhcmlegdoapdaaDoor
