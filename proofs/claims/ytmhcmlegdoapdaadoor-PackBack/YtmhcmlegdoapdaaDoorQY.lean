/- Package pack: readFields, where nothing is at fault. -/
import Derived.Test.YtmhcmlegdoapdaaDoorQX
namespace Go.Proofs.YtmhcmlegdoapdaaDoor
open Go.RowKit

theorem Tryd.infoField : (Tryd.prog.info? 34).map (fun i => (i.zero, i.size, i.bytes)) = some (some (.agg #[.int .i64 0, .int .u64 0, .int .i64 0, .bool false, .slice none 0 0, .int .i64 0, .int .u64 0, .int .i64 0, .int .u64 0, .int .i64 0, .int .i64 0, .int .u64 0, .int .i64 0, .int .u64 0]), 14, 128) := by kernel_rfl

theorem owns_le {w : World} {base base' : Nat} {e : TypeId} {sz : Nat} {v : Value} {n : Nat} {xs : List Value} (h : base' ≤ base) (ho : w.ownsRow base e sz v n xs) : w.ownsRow base' e sz v n xs := by
  obtain ⟨h1, h2⟩ := ho
  refine ⟨h1, ?_⟩
  rcases h2 with h' | ⟨g', cap', cur, h', h3, h4⟩
  · exact Or.inl h'
  · exact Or.inr ⟨g', cap', cur, h', Nat.le_trans h h3, h4⟩
theorem one14 (f0 f1 f2 : Int) (f3 : Bool) (f4 : Option Addr) (f5 f6 : Nat) (f7 f8 f9 f10 f11 f12 f13 f14 f15 : Int) : ∀ u ∈ (#[.int .i64 f0, .int .u64 f1, .int .i64 f2, .bool f3, .slice f4 f5 f6, .int .i64 f7, .int .u64 f8, .int .i64 f9, .int .u64 f10, .int .i64 f11, .int .i64 f12, .int .u64 f13, .int .i64 f14, .int .u64 f15] : Array Value).toList, u.oneCell' = true := by
  intro u hu
  simp only [List.mem_cons, List.not_mem_nil, or_false] at hu
  rcases hu with rfl | rfl | rfl | rfl | rfl | rfl | rfl | rfl | rfl | rfl | rfl | rfl | rfl | rfl <;> rfl

set_option maxHeartbeats 8000000 in
set_option maxRecDepth 100000 in
theorem readFields_ok (vs : List FV) (hvs : ∀ v ∈ vs, Reads v) (hn : vs.length ≤ 1000) (b o len cap kb ko kc : Nat) (w : World) (hR : Ranks w) (hb : b < w.heap.size) (hlen : (encs vs).length ≤ len) (hcap : len ≤ cap) (hcap2 : cap ≤ 100000000)
    (hC : ∀ j (hj : j < (encs vs).length), w.cell? ⟨b, o + j, none⟩ = some (.int .u8 (encs vs)[j])) (hK : ∀ (j : Nat) (v : FV), vs[j]? = some v → w.cell? ⟨kb, ko + j, none⟩ = some (.int .i64 v.kind)) :
    Calls Tryd.prog 36 #[.slice (some ⟨b, o, none⟩) len cap, .slice (some ⟨kb, ko, none⟩) vs.length kc] w fun e w' => ∃ fa fc fs, e = .returned (.tuple #[.slice fa vs.length fc, .int .i64 ((encs vs).length : Int), .int .i64 0]) ∧ fs.length = vs.length ∧ w'.ownsRow w.heap.size 34 14 (.slice fa vs.length fc) vs.length (cellsOf fs) ∧ (∀ (j : Nat) (v : FV) (f : Fd), vs[j]? = some v → fs[j]? = some f → v.At w' w.heap.size f) ∧ RowKit.Below w.heap.size w w' := by
  have mixed : Tryd.prog.follows .mixedOrders = true := by kernel_rfl
  have hmf : ∀ (fn : Fn) (first cap : Array Value) (w : World), (Instr.makeFunc fn first cap).run Tryd.prog w = .ok (.func fn first cap) w := fun _ _ _ _ => rfl
  obtain ⟨i0, hi, hz0, hz1, hz2⟩ := info_parts Tryd.infoField
  have HC := hide hC
  have HK := hide hK
  have HVS := hide hvs
  have HRK := hide hR
  clear hC hK hvs hR
  go_enter_defers Tryd.func36, Tryd.ntmps36
  go_wp2
  have I0 := (((IsB.new w #[.slice none 0 0] 22).alloc (.cells #[.int .i64 0] 3)).alloc (.cells #[.int .i64 0] 36)).alloc (.cells #[.slice (some ⟨b, o, none⟩) len cap, .int .i64 0, .slice none 0 0] 96)
  have I1 := ((IsB.new (w.alloc (.cells #[.slice none 0 0] 22)) #[.int .i64 0] 3).alloc (.cells #[.int .i64 0] 36)).alloc (.cells #[.slice (some ⟨b, o, none⟩) len cap, .int .i64 0, .slice none 0 0] 96)
  have I2 := (IsB.new ((w.alloc (.cells #[.slice none 0 0] 22)).alloc (.cells #[.int .i64 0] 3)) #[.int .i64 0] 36).alloc (.cells #[.slice (some ⟨b, o, none⟩) len cap, .int .i64 0, .slice none 0 0] 96)
  have I3 := IsB.new (((w.alloc (.cells #[.slice none 0 0] 22)).alloc (.cells #[.int .i64 0] 3)).alloc (.cells #[.int .i64 0] 36)) #[.slice (some ⟨b, o, none⟩) len cap, .int .i64 0, .slice none 0 0] 96
  simp only [World.size_alloc] at I1 I2 I3
  have HG := hide (show Gr w ((((w.alloc (.cells #[.slice none 0 0] 22)).alloc (.cells #[.int .i64 0] 3)).alloc (.cells #[.int .i64 0] 36)).alloc (.cells #[.slice (some ⟨b, o, none⟩) len cap, .int .i64 0, .slice none 0 0] 96)) from ((((Gr.refl w).alloc _).alloc _).alloc _).alloc _)
  replace I0 := hide I0
  replace I1 := hide I1
  replace I2 := hide I2
  replace I3 := hide I3
  generalize (((w.alloc (.cells #[.slice none 0 0] 22)).alloc (.cells #[.int .i64 0] 3)).alloc (.cells #[.int .i64 0] 36)).alloc (.cells #[.slice (some ⟨b, o, none⟩) len cap, .int .i64 0, .slice none 0 0] 96) = W at I0 I1 I2 I3 HG ⊢
  have hl3 := I3.out.lt
  have HF0 := hide (show RF w W vs w.heap.size (w.heap.size + 1) (w.heap.size + 1 + 1) (w.heap.size + 1 + 1 + 1) b o len cap 0 none 0 [] W from
    ⟨rfl, (fun j v f _ h => by simp at h), World.ownsRow_nil _ _ _ _, ⟨o, (fun _ => by simp [encs]), by simp only [List.take_zero, encs, List.flatMap_nil, List.length_nil, Nat.sub_zero]; exact I3.out⟩, I0.out, I1.out, I2.out, HG.out.below, Nat.le_refl _⟩)
  clear I0 I1 I2 I3
  go_loopw [16] (fun i wr => ∃ (k : Nat) (fa : Option Addr) (fc : Nat) (fs : List Fd), k ≤ vs.length ∧ i = .int .i64 (k : Int) ∧ Hid (RF w W vs w.heap.size (w.heap.size + 1) (w.heap.size + 1 + 1) (w.heap.size + 1 + 1 + 1) b o len cap k fa fc fs wr)) (fun i _ => vs.length - (intOf i).toNat)
  case atStart => exact ⟨0, none, 0, [], by omega, rfl, HF0⟩
  case round =>
    clear HF0
    obtain ⟨k, fa, fc, fs, hk, rfl, HF⟩ := hrel
    by_cases hlt : k < vs.length
    · have hvk : vs[k]? = some vs[k] := List.getElem?_eq_getElem hlt
      have hmem : vs[k] ∈ vs := List.getElem_mem hlt
      have hkc : wr.cell? ⟨kb, ko + k, none⟩ = some (.int .i64 vs[k].kind) := (HF.out.below.cell (lt_of_cell (HK.out k _ hvk))).trans (HK.out k _ hvk)
      have HAt := hide (fun j hj => encs_at vs k _ hvk j hj)
      have HS := hide (encs_snoc vs k _ hvk)
      have hle := encs_le vs (k + 1)
      have hle2 := hle
      rw [HS.out, List.length_append] at hle2
      obtain ⟨o', hoo, hrd⟩ := HF.out.rd
      have r0 : wr.cell? ⟨w.heap.size + 1 + 1 + 1, 2, none⟩ = some (.slice fa k fc) := hrd.cell 2
      generalize vs[k] = v at *
      have hfa := HVS.out v hmem (w.heap.size + 1 + 1 + 1) b o' (len - (encs (vs.take k)).length) (cap - (encs (vs.take k)).length) ((encs (vs.take k)).length : Int) (by omega) (by omega) (.slice fa k fc) wr.drew hrd (by omega) (by omega) (by omega) (by omega)
        (fun j hj => by
          obtain ⟨h2, e2⟩ := HAt.out j hj
          have e3 := HC.out _ h2
          rw [e2] at e3
          rw [hoo (by omega), Nat.add_assoc]
          exact (HF.out.below.cell (lt_of_cell e3)).trans e3) (HRK.out.below HF.out.below.drew)
      rw [Nat.sub_sub, Nat.sub_sub, ← Int.natCast_add, ← List.length_append, ← HS.out] at hfa
      replace hfa := hide hfa
      have HX : ∀ o2, (v.enc.length < len - (encs (vs.take k)).length → o2 = o' + v.enc.length) → (encs (vs.take (k + 1))).length < len → o2 = o + (encs (vs.take (k + 1))).length := by
        intro o2 h1 h2
        rw [HS.out, List.length_append] at h2 ⊢
        rw [h1 (by omega), hoo (by omega)]
        omega
      replace HX := hide HX
      have hWs := HF.out.size
      clear hrd hoo HAt hmem
      go_wp2
      refine wp_region_noPanic ?_
      refine wp_region_held_drew (S := fun _ => True) (by assumption) trivial (fun _ => ?_)
      refine take_yes (v := ?_) 0 (some 20) rfl rfl (by kernel_rfl) (by kernel_rfl) (by kernel_rfl) (fun _ _ _ h => (h : False).elim) (by rfl) ?_ trivial ?_
      rotate_left
      · intro w hSw
        go_simp
        try with_reducible rfl
      try simp only [Act.put, List.setIfInBounds_toArray, List.set_cons_zero, List.set_cons_succ]
      refine take_yes (v := ?_) 2 (some 22) rfl rfl (by kernel_rfl) (by kernel_rfl) (by kernel_rfl) (fun _ _ _ h => (h : False).elim) (by rfl) ?_ trivial ?_
      rotate_left
      · intro w hSw
        go_simp
        try with_reducible rfl
      try simp only [Act.put, List.setIfInBounds_toArray, List.set_cons_zero, List.set_cons_succ]
      refine wpAnyH_ready (rs := [1, 3]) (by kernel_rfl) (by simp) ?_
      refine (AllReadyH.cons rfl (fun K hK => ?_) (AllReadyH.cons rfl (fun K hK => ?_) AllReadyH.nil))
      · go_simp
        refine hK.out _ _ trivial (fun _ => ?_)
        clear hK K
        try simp only [Act.put, List.setIfInBounds_toArray, List.set_cons_zero, List.set_cons_succ]
        refine wpAnyH_ready (rs := [3]) (by kernel_rfl) (by simp) ?_
        refine (AllReadyH.cons rfl (fun K hK => ?_) AllReadyH.nil)
        · go_simp
          go_at_call 56
          refine hfa.out.mono ?_
          rintro e w1 ⟨⟨f0, f1, f2, f3, f4, f5, f6, f7, f8, f9, f10, f11, f12, f13, f14, f15, rfl, hat⟩, ⟨o2, hoo2, hrd2⟩, hg1⟩
          have r2 : w1.cell? ⟨w.heap.size + 1 + 1 + 1, 2, none⟩ = some (.slice fa k fc) := hrd2.cell 2
          replace hg1 : wr.grownBy w1 (some (w.heap.size + 1 + 1 + 1)) := grown_trans (grown_of_gr ((Gr.refl wr).drew) _) hg1
          have HAT := hide hat
          have HRD2 := hide hrd2
          have HOO2 := hide hoo2
          have HG1 := hide hg1
          clear hat hrd2 hoo2 hg1
          first | refine hK.out _ _ trivial (fun _ => ?_) | (go_wp2_with fail; refine hK.out _ _ trivial (fun _ => ?_))
          clear hK K
          try simp only [Act.put, List.setIfInBounds_toArray, List.set_cons_zero, List.set_cons_succ]
          refine wpAnyH_ready (rs := [4]) (by kernel_rfl) (by simp) ?_
          refine (AllReadyH.cons rfl (fun K hK => ?_) AllReadyH.nil)
          · have r3 : (w1.alloc (.cells #[.int .i64 f0, .int .u64 f1, .int .i64 f2, .bool f3, .slice f4 f5 f6, .int .i64 f7, .int .u64 f8, .int .i64 f9, .int .u64 f10, .int .i64 f11, .int .i64 f12, .int .u64 f13, .int .i64 f14, .int .u64 f15] 34)).cell? ⟨w.heap.size + 1 + 1 + 1, 2, none⟩ = some (.slice fa k fc) := (IsB.alloc HRD2.out _).cell 2
            go_simp
            refine hK.out _ _ trivial (fun _ => ?_)
            clear hK K
            try simp only [Act.put, List.setIfInBounds_toArray, List.set_cons_zero, List.set_cons_succ]
            refine wpAnyH_ready (rs := [5]) (by kernel_rfl) (by simp) ?_
            refine (AllReadyH.cons rfl (fun K hK => ?_) AllReadyH.nil)
            · have hown1 := (HF.out.own.kept HG1.out (by right; intro he; have := HF.out.own.lt _ he; omega)).alloc (.cells #[.int .i64 f0, .int .u64 f1, .int .i64 f2, .bool f3, .slice f4 f5 f6, .int .i64 f7, .int .u64 f8, .int .i64 f9, .int .u64 f10, .int .i64 f11, .int .i64 f12, .int .u64 f13, .int .i64 f14, .int .u64 f15] 34)
              refine step_append_lies _ (by rfl) (.tmp 21) (.tmp 24) 22 (by rfl) W.heap.size 34 i0 _ 14 128 Tryd.underlying22 hi hz0 hz1 hz2 rfl (by decide) _ _ _ (by rfl) hown1 ⟨w1.heap.size, 0, none⟩ 1 1 #[.int .i64 f0, .int .u64 f1, .int .i64 f2, .bool f3, .slice f4 f5 f6, .int .i64 f7, .int .u64 f8, .int .i64 f9, .int .u64 f10, .int .i64 f11, .int .i64 f12, .int .u64 f13, .int .i64 f14, .int .u64 f15].toList (by rfl) rfl (World.news_of_block (heap_alloc_new w1 _)) (one14 _ _ _ _ _ _ _ _ _ _ _ _ _ _ _ _) (by omega) (by unfold maxLen; omega) (by omega) (by have := HG1.out.size; have := HF.out.size; rw [World.size_alloc]; omega) (w1.heap.size + 1) (World.size_alloc _ _) ?_
              intro g cp w2 hown2 hgrow2 hat2 hlt2
              have HI2 := (IsB.alloc HRD2.out (.cells #[.int .i64 f0, .int .u64 f1, .int .i64 f2, .bool f3, .slice f4 f5 f6, .int .i64 f7, .int .u64 f8, .int .i64 f9, .int .u64 f10, .int .i64 f11, .int .i64 f12, .int .u64 f13, .int .i64 f14, .int .u64 f15] 34)).grown hgrow2 (by intro he; have := HF.out.own.lt _ he.symm; omega)
              have s2 : w2.cell? ⟨w.heap.size + 1 + 1 + 1, 2, none⟩ = some (.slice fa k fc) := HI2.cell 2
              have s3 := HI2.free 2
              have HO2 := hide hown2
              have HGW2 := hide hgrow2
              have HAT2 := hide hat2
              clear hown1 hown2 hgrow2 hat2 HI2
              refine hK.out _ _ trivial (fun _ => ?_)
              clear hK K
              try simp only [Act.put, List.setIfInBounds_toArray]
              refine wpAnyH_ready (rs := [6]) (by kernel_rfl) (by simp) ?_
              refine (AllReadyH.cons rfl (fun K hK => ?_) AllReadyH.nil)
              · go_simp
                refine hK.out _ _ trivial (fun _ => ?_)
                clear hK K
                try simp only [Act.put, List.setIfInBounds_toArray, List.set_cons_zero, List.set_cons_succ]
                refine wpAnyH_ready (rs := [7]) (by kernel_rfl) (by simp) ?_
                refine (AllReadyH.cons rfl (fun K hK => ?_) AllReadyH.nil)
                · go_simp
                  refine hK.out _ _ trivial (fun _ => ?_)
                  clear hK K
                  try simp only [Act.put, List.setIfInBounds_toArray]
                  refine wpAnyH_done (by kernel_rfl) ?_ _
                  refine NoPanic.normal ?_
                  have HN := hide (HF.out.step (by omega) (by omega) (by omega) (by omega) (by omega) (by omega) (by omega) (by omega) (by omega) hvk HAT.out (o' := o2) (HX.out o2 HOO2.out) HRD2.out HG1.out HO2.out HGW2.out (by have := HAT2.out; exact this))
                  clear HO2 HGW2 HAT2 HAT HRD2 HOO2 HG1 s2 s3
                  generalize w2.setCell ⟨w.heap.size + 1 + 1 + 1, 2, none⟩ (.slice (some ⟨g, 0, none⟩) (k + 1) cp) = w3 at HN ⊢
                  go_wp2
                  go_roundw
                  case rel => exact ⟨k + 1, _, _, _, by omega, by go_num, HN⟩
                  case measure => simp [intOf]; omega
      · go_simp
        go_at_call 56
        refine hfa.out.mono ?_
        rintro e w1 ⟨⟨f0, f1, f2, f3, f4, f5, f6, f7, f8, f9, f10, f11, f12, f13, f14, f15, rfl, hat⟩, ⟨o2, hoo2, hrd2⟩, hg1⟩
        have r2 : w1.cell? ⟨w.heap.size + 1 + 1 + 1, 2, none⟩ = some (.slice fa k fc) := hrd2.cell 2
        replace hg1 : wr.grownBy w1 (some (w.heap.size + 1 + 1 + 1)) := grown_trans (grown_of_gr ((Gr.refl wr).drew) _) hg1
        have HAT := hide hat
        have HRD2 := hide hrd2
        have HOO2 := hide hoo2
        have HG1 := hide hg1
        clear hat hrd2 hoo2 hg1
        first | refine hK.out _ _ trivial (fun _ => ?_) | (go_wp2_with fail; refine hK.out _ _ trivial (fun _ => ?_))
        clear hK K
        try simp only [Act.put, List.setIfInBounds_toArray, List.set_cons_zero, List.set_cons_succ]
        refine wpAnyH_ready (rs := [1, 4]) (by kernel_rfl) (by simp) ?_
        refine (AllReadyH.cons rfl (fun K hK => ?_) (AllReadyH.cons rfl (fun K hK => ?_) AllReadyH.nil))
        · go_simp
          refine hK.out _ _ trivial (fun _ => ?_)
          clear hK K
          try simp only [Act.put, List.setIfInBounds_toArray, List.set_cons_zero, List.set_cons_succ]
          refine wpAnyH_ready (rs := [4]) (by kernel_rfl) (by simp) ?_
          refine (AllReadyH.cons rfl (fun K hK => ?_) AllReadyH.nil)
          · have r3 : (w1.alloc (.cells #[.int .i64 f0, .int .u64 f1, .int .i64 f2, .bool f3, .slice f4 f5 f6, .int .i64 f7, .int .u64 f8, .int .i64 f9, .int .u64 f10, .int .i64 f11, .int .i64 f12, .int .u64 f13, .int .i64 f14, .int .u64 f15] 34)).cell? ⟨w.heap.size + 1 + 1 + 1, 2, none⟩ = some (.slice fa k fc) := (IsB.alloc HRD2.out _).cell 2
            go_simp
            refine hK.out _ _ trivial (fun _ => ?_)
            clear hK K
            try simp only [Act.put, List.setIfInBounds_toArray, List.set_cons_zero, List.set_cons_succ]
            refine wpAnyH_ready (rs := [5]) (by kernel_rfl) (by simp) ?_
            refine (AllReadyH.cons rfl (fun K hK => ?_) AllReadyH.nil)
            · have hown1 := (HF.out.own.kept HG1.out (by right; intro he; have := HF.out.own.lt _ he; omega)).alloc (.cells #[.int .i64 f0, .int .u64 f1, .int .i64 f2, .bool f3, .slice f4 f5 f6, .int .i64 f7, .int .u64 f8, .int .i64 f9, .int .u64 f10, .int .i64 f11, .int .i64 f12, .int .u64 f13, .int .i64 f14, .int .u64 f15] 34)
              refine step_append_lies _ (by rfl) (.tmp 21) (.tmp 24) 22 (by rfl) W.heap.size 34 i0 _ 14 128 Tryd.underlying22 hi hz0 hz1 hz2 rfl (by decide) _ _ _ (by rfl) hown1 ⟨w1.heap.size, 0, none⟩ 1 1 #[.int .i64 f0, .int .u64 f1, .int .i64 f2, .bool f3, .slice f4 f5 f6, .int .i64 f7, .int .u64 f8, .int .i64 f9, .int .u64 f10, .int .i64 f11, .int .i64 f12, .int .u64 f13, .int .i64 f14, .int .u64 f15].toList (by rfl) rfl (World.news_of_block (heap_alloc_new w1 _)) (one14 _ _ _ _ _ _ _ _ _ _ _ _ _ _ _ _) (by omega) (by unfold maxLen; omega) (by omega) (by have := HG1.out.size; have := HF.out.size; rw [World.size_alloc]; omega) (w1.heap.size + 1) (World.size_alloc _ _) ?_
              intro g cp w2 hown2 hgrow2 hat2 hlt2
              have HI2 := (IsB.alloc HRD2.out (.cells #[.int .i64 f0, .int .u64 f1, .int .i64 f2, .bool f3, .slice f4 f5 f6, .int .i64 f7, .int .u64 f8, .int .i64 f9, .int .u64 f10, .int .i64 f11, .int .i64 f12, .int .u64 f13, .int .i64 f14, .int .u64 f15] 34)).grown hgrow2 (by intro he; have := HF.out.own.lt _ he.symm; omega)
              have s2 : w2.cell? ⟨w.heap.size + 1 + 1 + 1, 2, none⟩ = some (.slice fa k fc) := HI2.cell 2
              have s3 := HI2.free 2
              have HO2 := hide hown2
              have HGW2 := hide hgrow2
              have HAT2 := hide hat2
              clear hown1 hown2 hgrow2 hat2 HI2
              refine hK.out _ _ trivial (fun _ => ?_)
              clear hK K
              try simp only [Act.put, List.setIfInBounds_toArray]
              refine wpAnyH_ready (rs := [6]) (by kernel_rfl) (by simp) ?_
              refine (AllReadyH.cons rfl (fun K hK => ?_) AllReadyH.nil)
              · go_simp
                refine hK.out _ _ trivial (fun _ => ?_)
                clear hK K
                try simp only [Act.put, List.setIfInBounds_toArray, List.set_cons_zero, List.set_cons_succ]
                refine wpAnyH_ready (rs := [7]) (by kernel_rfl) (by simp) ?_
                refine (AllReadyH.cons rfl (fun K hK => ?_) AllReadyH.nil)
                · go_simp
                  refine hK.out _ _ trivial (fun _ => ?_)
                  clear hK K
                  try simp only [Act.put, List.setIfInBounds_toArray]
                  refine wpAnyH_done (by kernel_rfl) ?_ _
                  refine NoPanic.normal ?_
                  have HN := hide (HF.out.step (by omega) (by omega) (by omega) (by omega) (by omega) (by omega) (by omega) (by omega) (by omega) hvk HAT.out (o' := o2) (HX.out o2 HOO2.out) HRD2.out HG1.out HO2.out HGW2.out (by have := HAT2.out; exact this))
                  clear HO2 HGW2 HAT2 HAT HRD2 HOO2 HG1 s2 s3
                  generalize w2.setCell ⟨w.heap.size + 1 + 1 + 1, 2, none⟩ (.slice (some ⟨g, 0, none⟩) (k + 1) cp) = w3 at HN ⊢
                  go_wp2
                  go_roundw
                  case rel => exact ⟨k + 1, _, _, _, by omega, by go_num, HN⟩
                  case measure => simp [intOf]; omega
        · have r3 : (w1.alloc (.cells #[.int .i64 f0, .int .u64 f1, .int .i64 f2, .bool f3, .slice f4 f5 f6, .int .i64 f7, .int .u64 f8, .int .i64 f9, .int .u64 f10, .int .i64 f11, .int .i64 f12, .int .u64 f13, .int .i64 f14, .int .u64 f15] 34)).cell? ⟨w.heap.size + 1 + 1 + 1, 2, none⟩ = some (.slice fa k fc) := (IsB.alloc HRD2.out _).cell 2
          go_simp
          refine hK.out _ _ trivial (fun _ => ?_)
          clear hK K
          try simp only [Act.put, List.setIfInBounds_toArray, List.set_cons_zero, List.set_cons_succ]
          refine wpAnyH_ready (rs := [1]) (by kernel_rfl) (by simp) ?_
          refine (AllReadyH.cons rfl (fun K hK => ?_) AllReadyH.nil)
          · go_simp
            refine hK.out _ _ trivial (fun _ => ?_)
            clear hK K
            try simp only [Act.put, List.setIfInBounds_toArray, List.set_cons_zero, List.set_cons_succ]
            refine wpAnyH_ready (rs := [5]) (by kernel_rfl) (by simp) ?_
            refine (AllReadyH.cons rfl (fun K hK => ?_) AllReadyH.nil)
            · have hown1 := (HF.out.own.kept HG1.out (by right; intro he; have := HF.out.own.lt _ he; omega)).alloc (.cells #[.int .i64 f0, .int .u64 f1, .int .i64 f2, .bool f3, .slice f4 f5 f6, .int .i64 f7, .int .u64 f8, .int .i64 f9, .int .u64 f10, .int .i64 f11, .int .i64 f12, .int .u64 f13, .int .i64 f14, .int .u64 f15] 34)
              refine step_append_lies _ (by rfl) (.tmp 21) (.tmp 24) 22 (by rfl) W.heap.size 34 i0 _ 14 128 Tryd.underlying22 hi hz0 hz1 hz2 rfl (by decide) _ _ _ (by rfl) hown1 ⟨w1.heap.size, 0, none⟩ 1 1 #[.int .i64 f0, .int .u64 f1, .int .i64 f2, .bool f3, .slice f4 f5 f6, .int .i64 f7, .int .u64 f8, .int .i64 f9, .int .u64 f10, .int .i64 f11, .int .i64 f12, .int .u64 f13, .int .i64 f14, .int .u64 f15].toList (by rfl) rfl (World.news_of_block (heap_alloc_new w1 _)) (one14 _ _ _ _ _ _ _ _ _ _ _ _ _ _ _ _) (by omega) (by unfold maxLen; omega) (by omega) (by have := HG1.out.size; have := HF.out.size; rw [World.size_alloc]; omega) (w1.heap.size + 1) (World.size_alloc _ _) ?_
              intro g cp w2 hown2 hgrow2 hat2 hlt2
              have HI2 := (IsB.alloc HRD2.out (.cells #[.int .i64 f0, .int .u64 f1, .int .i64 f2, .bool f3, .slice f4 f5 f6, .int .i64 f7, .int .u64 f8, .int .i64 f9, .int .u64 f10, .int .i64 f11, .int .i64 f12, .int .u64 f13, .int .i64 f14, .int .u64 f15] 34)).grown hgrow2 (by intro he; have := HF.out.own.lt _ he.symm; omega)
              have s2 : w2.cell? ⟨w.heap.size + 1 + 1 + 1, 2, none⟩ = some (.slice fa k fc) := HI2.cell 2
              have s3 := HI2.free 2
              have HO2 := hide hown2
              have HGW2 := hide hgrow2
              have HAT2 := hide hat2
              clear hown1 hown2 hgrow2 hat2 HI2
              refine hK.out _ _ trivial (fun _ => ?_)
              clear hK K
              try simp only [Act.put, List.setIfInBounds_toArray]
              refine wpAnyH_ready (rs := [6]) (by kernel_rfl) (by simp) ?_
              refine (AllReadyH.cons rfl (fun K hK => ?_) AllReadyH.nil)
              · go_simp
                refine hK.out _ _ trivial (fun _ => ?_)
                clear hK K
                try simp only [Act.put, List.setIfInBounds_toArray, List.set_cons_zero, List.set_cons_succ]
                refine wpAnyH_ready (rs := [7]) (by kernel_rfl) (by simp) ?_
                refine (AllReadyH.cons rfl (fun K hK => ?_) AllReadyH.nil)
                · go_simp
                  refine hK.out _ _ trivial (fun _ => ?_)
                  clear hK K
                  try simp only [Act.put, List.setIfInBounds_toArray]
                  refine wpAnyH_done (by kernel_rfl) ?_ _
                  refine NoPanic.normal ?_
                  have HN := hide (HF.out.step (by omega) (by omega) (by omega) (by omega) (by omega) (by omega) (by omega) (by omega) (by omega) hvk HAT.out (o' := o2) (HX.out o2 HOO2.out) HRD2.out HG1.out HO2.out HGW2.out (by have := HAT2.out; exact this))
                  clear HO2 HGW2 HAT2 HAT HRD2 HOO2 HG1 s2 s3
                  generalize w2.setCell ⟨w.heap.size + 1 + 1 + 1, 2, none⟩ (.slice (some ⟨g, 0, none⟩) (k + 1) cp) = w3 at HN ⊢
                  go_wp2
                  go_roundw
                  case rel => exact ⟨k + 1, _, _, _, by omega, by go_num, HN⟩
                  case measure => simp [intOf]; omega
    · obtain rfl : k = vs.length := by omega
      obtain ⟨o', hoo, hrd⟩ := HF.out.rd
      have HT := hide (show vs.take vs.length = vs from List.take_length)
      rw [HT.out] at hrd
      have r0 : wr.cell? ⟨w.heap.size + 1 + 1 + 1, 1, none⟩ = some (.int .i64 ((encs vs).length : Int)) := hrd.cell 1
      have r1 : wr.cell? ⟨w.heap.size + 1 + 1 + 1, 2, none⟩ = some (.slice fa vs.length fc) := hrd.cell 2
      have a0 : wr.cell? ⟨w.heap.size, 0, none⟩ = some (.slice none 0 0) := HF.out.iA.cell 0
      have a1 : wr.cell? ⟨w.heap.size + 1, 0, none⟩ = some (.int .i64 0) := HF.out.iB.cell 0
      have a2 : wr.cell? ⟨w.heap.size + 1 + 1, 0, none⟩ = some (.int .i64 0) := HF.out.iC.cell 0
      have q0 := HF.out.iA.free 0
      have q1 := HF.out.iB.free 0
      have q2 := HF.out.iC.free 0
      have n1 : w.heap.size + 1 ≠ w.heap.size := by omega
      clear hrd hoo
      go_wp2
      go_region
      try go_wp2
      refine door_idle _ w.heap.size (w.heap.size + 1) (w.heap.size + 1 + 1) vs.length fa fc ((encs vs).length : Int) 0 _ _ ?_ ?_ ?_ rfl rfl rfl ?_
      · exact ((HF.out.iA.set0 _).setOther (by simp) _).setOther (by simp only []; omega) _
      · exact ((HF.out.iB.setOther (by simp) _).set0 _).setOther (by simp) _
      · exact ((HF.out.iC.setOther (by simp only []; omega) _).setOther (by simp) _).set0 _
      · have hW : w.heap.size ≤ W.heap.size := HG.out.le
        have ho := HF.out.own
        have hg1 := fun (X : World) => grown_set X w.heap.size 0 (.slice fa vs.length fc)
        have hg2 := fun (X : World) => grown_set X (w.heap.size + 1) 0 (.int .i64 ((encs vs).length : Int))
        have hg3 := fun (X : World) => grown_set X (w.heap.size + 1 + 1) 0 (.int .i64 0)
        refine ⟨fa, fc, fs, rfl, HF.out.flen, ?_, ?_, ?_⟩
        · have hx : ∀ y, y < W.heap.size → (Value.slice fa vs.length fc).ownBlock = none ∨ (Value.slice fa vs.length fc).ownBlock ≠ some y := fun y hy => Or.inr (fun he => by have := ho.lt y he; omega)
          have h3 := owns_le hW (((ho.kept (hg1 _) (hx _ (by omega))).kept (hg2 _) (hx _ (by omega))).kept (hg3 _) (hx _ (by omega)))
          exact h3
        · intro j v f hv hf
          have ha := (HF.out.rows j v f hv hf).1
          have hx : ∀ y, y < W.heap.size → f.blk = none ∨ f.blk ≠ some y := fun y hy => by
            rcases ha.blk with h | ⟨g, h, h1, h2⟩
            · exact Or.inl h
            · right; rw [h]; simp only [ne_eq, Option.some.injEq]; omega
          have h3 := (((ha.kept (hg1 _) (hx _ (by omega))).kept (hg2 _) (hx _ (by omega))).kept (hg3 _) (hx _ (by omega))).mono hW
          exact h3
        · exact (grown_below (grown_below (grown_below HF.out.below (hg1 _) (by omega)) (hg2 _) (by omega)) (hg3 _) (by omega)).drew

end Go.Proofs.YtmhcmlegdoapdaaDoor
