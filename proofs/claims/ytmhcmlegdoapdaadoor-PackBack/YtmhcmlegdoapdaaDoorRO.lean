/- Package pack: readFields, of any bytes. -/
import Derived.Test.YtmhcmlegdoapdaaDoorRM
import Derived.Test.YtmhcmlegdoapdaaDoorQZ
namespace Go.Proofs.YtmhcmlegdoapdaaDoor
open Go.RowKit

/-- What is told of fields that were to be read. -/
def Told (w : World) (p : PR (List FV)) (e : Ending) (w' : World) : Prop :=
  (match p with
    | .ok vs n => ∃ fa fc, e = .returned (.tuple #[.slice fa vs.length fc, .int .i64 (n : Int), .int .i64 0]) ∧ ReadTo w w' vs fa fc
    | .bad i er => e = .returned (.tuple #[.slice none 0 0, .int .i64 (i : Int), .int .i64 er])) ∧ RowKit.Below w.heap.size w w'
/-- Bytes that are handed in. -/
def Bys (w : World) (sb : Nat) (a : Option Addr) (cap : Nat) (l : List Int) : Prop :=
  l.length ≤ cap ∧ cap ≤ 9223372036854775807 ∧ l.length ≤ 1000000000 ∧ (∀ c ∈ l, 0 ≤ c ∧ c < 256) ∧ sb < w.heap.size ∧ ((a = none ∧ l = [] ∧ cap = 0) ∨ ∃ o, a = some ⟨sb, o, none⟩ ∧ ∀ j (hj : j < l.length), w.cell? ⟨sb, o + j, none⟩ = some (.int .u8 l[j]))
theorem Bys.lft {w W : World} {sb : Nat} {a : Option Addr} {cap : Nat} {l : List Int} (h : Bys w sb a cap l) {R : Nat} (hR : w.heap.size ≤ R) (hg : Gr w W) (hI : IsB W R #[.slice a l.length cap, .int .i64 0, .slice none 0 0] 96) : Lft W R sb l 0 (.slice none 0 0) := by
  obtain ⟨h1, h2, h3, h4, h5, h6⟩ := h
  refine ⟨a, cap, hI, h1, h2, by omega, by omega, h4, ⟨fun _ => rfl, fun x hx => ?_⟩, ?_⟩
  · rcases h6 with ⟨ha, _⟩ | ⟨o, ha, _⟩
    · rw [ha] at hx; cases hx
    · rw [ha] at hx; cases hx; rfl
  · rcases h6 with h6 | ⟨o, ha, hc⟩
    · exact Or.inl h6
    · exact Or.inr ⟨sb, o, ha, by omega, Nat.lt_of_lt_of_le h5 hg.le, fun j hj => hg.cell (by exact h5) (hc j hj)⟩

set_option maxHeartbeats 1000000 in
theorem door_bad (T : Array Value) (A B C : Nat) (x : Value) (y z : Int) (at' er : Int) (w W : World) (Q : Ending → World → Prop) (hQ : ∀ w', RowKit.Below w.heap.size w w' → Q (.returned (.tuple #[.slice none 0 0, .int .i64 at', .int .i64 er])) w') (hA : IsB W A #[x] 22) (hB : IsB W B #[.int .i64 y] 3) (hC : IsB W C #[.int .i64 z] 36) (hab : A ≠ B) (hac : A ≠ C) (hbc : B ≠ C)
    (lA : w.heap.size ≤ A) (lB : w.heap.size ≤ B) (lC : w.heap.size ≤ C) (hw : RowKit.Below w.heap.size w W)
    (t4 : T[4]?.getD undef = .pointer (some ⟨A, 0, none⟩)) (t5 : T[5]?.getD undef = .pointer (some ⟨B, 0, none⟩)) (t6 : T[6]?.getD undef = .pointer (some ⟨C, 0, none⟩)) :
    bodyPostD Tryd.prog Tryd.f36 Q (Exit.panic (flt at' er))
      { tmps := T, defers := [{ target := Target.fn (Fn.func 55) #[.pointer (some ⟨A, 0, none⟩), .pointer (some ⟨B, 0, none⟩), .pointer (some ⟨C, 0, none⟩)], args := #[] }] } W := by
  refine leaves_cons (f := 55) (args := #[.pointer (some ⟨A, 0, none⟩), .pointer (some ⟨B, 0, none⟩), .pointer (some ⟨C, 0, none⟩)]) (by simp) (by simp [go_sem]) ?_
  refine (catch_fault A B C x y z at' er W hA hB hC hab hac hbc).mono ?_
  rintro e u' w'' ⟨rfl, rfl, iA, iB, iC, hb⟩
  have a0 : w''.cell? ⟨A, 0, none⟩ = some (.slice none 0 0) := iA.cell 0
  have b0 : w''.cell? ⟨B, 0, none⟩ = some (.int .i64 at') := iB.cell 0
  have c0 : w''.cell? ⟨C, 0, none⟩ = some (.int .i64 er) := iC.cell 0
  have hbb := hw.trans (hb w.heap.size lA lB lC hw.size)
  simp [Leaves, settle, results, Tryd.results36, go_sem, t4, t5, t6, a0, b0, c0, loadVar]
  exact hQ _ hbb

set_option maxHeartbeats 8000000 in
set_option maxRecDepth 100000 in
theorem readFields_any (ks l : List Int) (hks : ∀ k ∈ ks, 1 ≤ k ∧ k ≤ 7) (hn : ks.length ≤ 1000) (sb : Nat) (a : Option Addr) (cap : Nat) (ka : Option Addr) (kc : Nat) (w : World) (hR : Ranks w) (hB : Bys w sb a cap l)
    (hK : ∀ (j : Nat) (k : Int), ks[j]? = some k → ∃ kb ko, ka = some ⟨kb, ko, none⟩ ∧ w.cell? ⟨kb, ko + j, none⟩ = some (.int .i64 k)) :
    Calls Tryd.prog 36 #[.slice a l.length cap, .slice ka ks.length kc] w fun e w' => Told w (pfields ks l) e w' := by
  have mixed : Tryd.prog.follows .mixedOrders = true := by kernel_rfl
  have hmf : ∀ (fn : Fn) (first cap : Array Value) (w : World), (Instr.makeFunc fn first cap).run Tryd.prog w = .ok (.func fn first cap) w := fun _ _ _ _ => rfl
  obtain ⟨i0, hi, hz0, hz1, hz2⟩ := info_parts Tryd.infoField
  have hsb : sb < w.heap.size := hB.2.2.2.2.1
  have hgl : 0 < w.heap.size := by have := lt_of_cell hR.1; exact this
  have HB := hide hB
  have HK := hide hK
  have HKS := hide hks
  have HRK := hide hR
  clear hB hK hks hR
  go_enter_defers Tryd.func36, Tryd.ntmps36
  go_wp2
  have I0 := (((IsB.new w #[.slice none 0 0] 22).alloc (.cells #[.int .i64 0] 3)).alloc (.cells #[.int .i64 0] 36)).alloc (.cells #[.slice a l.length cap, .int .i64 0, .slice none 0 0] 96)
  have I1 := ((IsB.new (w.alloc (.cells #[.slice none 0 0] 22)) #[.int .i64 0] 3).alloc (.cells #[.int .i64 0] 36)).alloc (.cells #[.slice a l.length cap, .int .i64 0, .slice none 0 0] 96)
  have I2 := (IsB.new ((w.alloc (.cells #[.slice none 0 0] 22)).alloc (.cells #[.int .i64 0] 3)) #[.int .i64 0] 36).alloc (.cells #[.slice a l.length cap, .int .i64 0, .slice none 0 0] 96)
  have I3 := IsB.new (((w.alloc (.cells #[.slice none 0 0] 22)).alloc (.cells #[.int .i64 0] 3)).alloc (.cells #[.int .i64 0] 36)) #[.slice a l.length cap, .int .i64 0, .slice none 0 0] 96
  simp only [World.size_alloc] at I1 I2 I3
  have HG := hide (show Gr w ((((w.alloc (.cells #[.slice none 0 0] 22)).alloc (.cells #[.int .i64 0] 3)).alloc (.cells #[.int .i64 0] 36)).alloc (.cells #[.slice a l.length cap, .int .i64 0, .slice none 0 0] 96)) from ((((Gr.refl w).alloc _).alloc _).alloc _).alloc _)
  replace I0 := hide I0
  replace I1 := hide I1
  replace I2 := hide I2
  replace I3 := hide I3
  generalize (((w.alloc (.cells #[.slice none 0 0] 22)).alloc (.cells #[.int .i64 0] 3)).alloc (.cells #[.int .i64 0] 36)).alloc (.cells #[.slice a l.length cap, .int .i64 0, .slice none 0 0] 96) = W at I0 I1 I2 I3 HG ⊢
  have hl3 := I3.out.lt
  have HF0 := hide (show RN w W w.heap.size (w.heap.size + 1) (w.heap.size + 1 + 1) (w.heap.size + 1 + 1 + 1) sb [] l 0 none 0 [] W from
    ⟨rfl, (fun j v f _ h => by simp at h), World.ownsRow_nil _ _ _ _, HB.out.lft (by omega) HG.out I3.out, I0.out, I1.out, I2.out, HG.out.below, Nat.le_refl _⟩)
  clear I0 I1 I2 I3 HB
  go_loopw [16] (fun i wr => ∃ (k : Nat) (vs : List FV) (n : Nat) (fa : Option Addr) (fc : Nat) (fs : List Fd), k ≤ ks.length ∧ vs.length = k ∧ i = .int .i64 (k : Int) ∧ pfields ks l = PR.behind vs n (pfields (ks.drop k) (l.drop n)) ∧ n ≤ l.length ∧ Hid (RN w W w.heap.size (w.heap.size + 1) (w.heap.size + 1 + 1) (w.heap.size + 1 + 1 + 1) sb vs (l.drop n) (n : Int) fa fc fs wr)) (fun i _ => ks.length - (intOf i).toNat)
  case atStart => exact ⟨0, [], 0, none, 0, [], by omega, rfl, rfl, (behind_nil _).symm, by omega, HF0⟩
  case round =>
    clear HF0
    obtain ⟨k, vs, n, fa, fc, fs, hk, hvl, rfl, hpp, hnl, HF⟩ := hrel
    have HPP := hide hpp
    have HVL := hide hvl
    have hvn : vs.length ≤ 1000 := by omega
    clear hpp hvl
    by_cases hlt : k < ks.length
    · have hkk : ks[k]? = some ks[k] := List.getElem?_eq_getElem hlt
      have hd : ks.drop k = ks[k] :: ks.drop (k + 1) := List.drop_eq_getElem_cons hlt
      have hk17 := HKS.out _ (List.getElem_mem hlt)
      obtain ⟨kb, ko, rfl, hkc0⟩ := HK.out k _ hkk
      have hkc : wr.cell? ⟨kb, ko + k, none⟩ = some (.int .i64 ks[k]) := (HF.out.below.cell (lt_of_cell hkc0)).trans hkc0
      generalize ks[k] = q at *
      have hfa := hide (field_any q hk17.1 hk17.2 (w.heap.size + 1 + 1 + 1) (l.drop n) (n : Int) (.slice fa vs.length fc) wr.drew HF.out.lft.drew (HRK.out.below HF.out.below.drew) (by omega) (show sb < wr.heap.size by have := HF.out.size; omega))
      have r0 : wr.cell? ⟨w.heap.size + 1 + 1 + 1, 2, none⟩ = some (.slice fa vs.length fc) := by obtain ⟨_, _, h, _⟩ := HF.out.lft; exact h.cell 2
      have hWs := HF.out.size
      rw [hd] at HPP
      clear hkc0 hkk hd
      rcases hp : pfield q (l.drop n) with ⟨v, m⟩ | ⟨i, er⟩
      · have HBO := hide (behind_ok (ks := ks.drop (k + 1)) (vs := vs) (n := n) hp)
        rw [List.drop_drop] at HBO
        replace hp := hide hp
        go_wp2
        refine wp_region_noPanic ?_
        refine wp_region_held_drew (S := fun _ => True) (by assumption) trivial (fun _ => ?_)
        refine take_yes (v := ?_) 0 (some 20) rfl rfl (by kernel_rfl) (by kernel_rfl) (by kernel_rfl) (fun _ _ _ h => (h : False).elim) (by rfl) ?_ trivial ?_
        rotate_left
        · intro w hSw
          go_simp
          try with_reducible rfl
        try simp only [Act.put, List.setIfInBounds_toArray, List.set_cons_zero, List.set_cons_succ]
        refine take_yes (v := ?_) 2 (some 22) rfl rfl (by kernel_rfl) (by kernel_rfl) (by kernel_rfl) (fun _ _ _ h => (h : False).elim) (by rfl) ?_ trivial ?_
        rotate_left
        · intro w hSw
          go_simp
          try with_reducible rfl
        try simp only [Act.put, List.setIfInBounds_toArray, List.set_cons_zero, List.set_cons_succ]
        refine wpAnyH_ready (rs := [1, 3]) (by kernel_rfl) (by simp) ?_
        refine (AllReadyH.cons rfl (fun K hK => ?_) (AllReadyH.cons rfl (fun K hK => ?_) AllReadyH.nil))
        · go_simp
          refine hK.out _ _ trivial (fun _ => ?_)
          clear hK K
          try simp only [Act.put, List.setIfInBounds_toArray, List.set_cons_zero, List.set_cons_succ]
          refine wpAnyH_ready (rs := [3]) (by kernel_rfl) (by simp) ?_
          refine (AllReadyH.cons rfl (fun K hK => ?_) AllReadyH.nil)
          · go_simp
            go_at_call 56
            refine hfa.out.mono ?_
            intro e w1 hE
            unfold PostF at hE
            rw [hp.out] at hE
            obtain ⟨⟨⟨f0, f1, f2, f3, f4, f5, f6, f7, f8, f9, f10, f11, f12, f13, f14, f15, rfl, hat⟩, hm, hl2⟩, hg1⟩ := hE
            replace hg1 : wr.grownBy w1 (some (w.heap.size + 1 + 1 + 1)) := grown_trans (grown_of_gr ((Gr.refl wr).drew) _) hg1
            have HL2 := hide hl2
            have HRD2 : Hid (∃ a2 len2 cap2, Rd w1 (w.heap.size + 1 + 1 + 1) a2 len2 cap2 ((n : Int) + (m : Int)) (.slice fa vs.length fc)) := hide (by obtain ⟨a2, cap2, h, _⟩ := HL2.out; exact ⟨a2, _, cap2, h⟩)
            have r2 : w1.cell? ⟨w.heap.size + 1 + 1 + 1, 2, none⟩ = some (.slice fa vs.length fc) := by obtain ⟨_, _, _, h⟩ := HRD2.out; exact h.cell 2
            have HAT := hide hat
            have HG1 := hide hg1
            clear hat hl2 hg1
            first | refine hK.out _ _ trivial (fun _ => ?_) | (go_wp2_with fail; refine hK.out _ _ trivial (fun _ => ?_))
            clear hK K
            try simp only [Act.put, List.setIfInBounds_toArray, List.set_cons_zero, List.set_cons_succ]
            refine wpAnyH_ready (rs := [4]) (by kernel_rfl) (by simp) ?_
            refine (AllReadyH.cons rfl (fun K hK => ?_) AllReadyH.nil)
            · have r3 : (w1.alloc (.cells #[.int .i64 f0, .int .u64 f1, .int .i64 f2, .bool f3, .slice f4 f5 f6, .int .i64 f7, .int .u64 f8, .int .i64 f9, .int .u64 f10, .int .i64 f11, .int .i64 f12, .int .u64 f13, .int .i64 f14, .int .u64 f15] 34)).cell? ⟨w.heap.size + 1 + 1 + 1, 2, none⟩ = some (.slice fa vs.length fc) := by obtain ⟨_, _, _, h⟩ := HRD2.out; exact (IsB.alloc h _).cell 2
              go_simp
              refine hK.out _ _ trivial (fun _ => ?_)
              clear hK K
              try simp only [Act.put, List.setIfInBounds_toArray, List.set_cons_zero, List.set_cons_succ]
              refine wpAnyH_ready (rs := [5]) (by kernel_rfl) (by simp) ?_
              refine (AllReadyH.cons rfl (fun K hK => ?_) AllReadyH.nil)
              · have hown1 := (HF.out.own.kept HG1.out (by right; intro he; have := HF.out.own.lt _ he; omega)).alloc (.cells #[.int .i64 f0, .int .u64 f1, .int .i64 f2, .bool f3, .slice f4 f5 f6, .int .i64 f7, .int .u64 f8, .int .i64 f9, .int .u64 f10, .int .i64 f11, .int .i64 f12, .int .u64 f13, .int .i64 f14, .int .u64 f15] 34)
                refine step_append_lies _ (by rfl) (.tmp 21) (.tmp 24) 22 (by rfl) W.heap.size 34 i0 _ 14 128 Tryd.underlying22 hi hz0 hz1 hz2 rfl (by decide) _ _ _ (by rfl) hown1 ⟨w1.heap.size, 0, none⟩ 1 1 #[.int .i64 f0, .int .u64 f1, .int .i64 f2, .bool f3, .slice f4 f5 f6, .int .i64 f7, .int .u64 f8, .int .i64 f9, .int .u64 f10, .int .i64 f11, .int .i64 f12, .int .u64 f13, .int .i64 f14, .int .u64 f15].toList (by rfl) rfl (World.news_of_block (heap_alloc_new w1 _)) (one14 _ _ _ _ _ _ _ _ _ _ _ _ _ _ _ _) (by omega) (by unfold maxLen; omega) (by omega) (by have := HG1.out.size; have := HF.out.size; rw [World.size_alloc]; omega) (w1.heap.size + 1) (World.size_alloc _ _) ?_
                intro g cp w2 hown2 hgrow2 hat2 hlt2
                have HI2 : ∃ a2 len2 cap2, Rd w2 (w.heap.size + 1 + 1 + 1) a2 len2 cap2 ((n : Int) + (m : Int)) (.slice fa vs.length fc) := by obtain ⟨a2, len2, cap2, h⟩ := HRD2.out; exact ⟨a2, len2, cap2, (IsB.alloc h (.cells #[.int .i64 f0, .int .u64 f1, .int .i64 f2, .bool f3, .slice f4 f5 f6, .int .i64 f7, .int .u64 f8, .int .i64 f9, .int .u64 f10, .int .i64 f11, .int .i64 f12, .int .u64 f13, .int .i64 f14, .int .u64 f15] 34)).grown hgrow2 (by intro he; have := HF.out.own.lt _ he.symm; omega)⟩
                have s2 : w2.cell? ⟨w.heap.size + 1 + 1 + 1, 2, none⟩ = some (.slice fa vs.length fc) := by obtain ⟨_, _, _, h⟩ := HI2; exact h.cell 2
                have s3 : w2.frozen? ⟨w.heap.size + 1 + 1 + 1, 2, none⟩ = false := by obtain ⟨_, _, _, h⟩ := HI2; exact h.free 2
                have HO2 := hide hown2
                have HGW2 := hide hgrow2
                have HAT2 := hide hat2
                clear hown1 hown2 hgrow2 hat2 HI2
                refine hK.out _ _ trivial (fun _ => ?_)
                clear hK K
                try simp only [Act.put, List.setIfInBounds_toArray]
                refine wpAnyH_ready (rs := [6]) (by kernel_rfl) (by simp) ?_
                refine (AllReadyH.cons rfl (fun K hK => ?_) AllReadyH.nil)
                · go_simp
                  refine hK.out _ _ trivial (fun _ => ?_)
                  clear hK K
                  try simp only [Act.put, List.setIfInBounds_toArray, List.set_cons_zero, List.set_cons_succ]
                  refine wpAnyH_ready (rs := [7]) (by kernel_rfl) (by simp) ?_
                  refine (AllReadyH.cons rfl (fun K hK => ?_) AllReadyH.nil)
                  · go_simp
                    refine hK.out _ _ trivial (fun _ => ?_)
                    clear hK K
                    try simp only [Act.put, List.setIfInBounds_toArray]
                    refine wpAnyH_done (by kernel_rfl) ?_ _
                    refine NoPanic.normal ?_
                    have HN := hide (HF.out.step (by omega) (by omega) (by omega) (by omega) (by omega) (by omega) (by omega) (by omega) (by omega) (by omega) (by omega) HAT.out HL2.out HG1.out HO2.out HGW2.out HAT2.out)
                    clear HO2 HGW2 HAT2 HAT HRD2 HL2 HG1 s2 s3
                    generalize w2.setCell ⟨w.heap.size + 1 + 1 + 1, 2, none⟩ (.slice (some ⟨g, 0, none⟩) (vs.length + 1) cp) = w3 at HN ⊢
                    go_wp2
                    go_roundw
                    case rel => exact ⟨k + 1, vs ++ [v], n + m, _, _, _, by omega, by rw [List.length_append, HVL.out]; rfl, by go_num, by rw [HPP.out]; exact HBO.out, by rw [List.length_drop] at hm; omega, by rw [← List.drop_drop, Int.natCast_add]; exact HN⟩
                    case measure => simp [intOf]; omega
        · go_simp
          go_at_call 56
          refine hfa.out.mono ?_
          intro e w1 hE
          unfold PostF at hE
          rw [hp.out] at hE
          obtain ⟨⟨⟨f0, f1, f2, f3, f4, f5, f6, f7, f8, f9, f10, f11, f12, f13, f14, f15, rfl, hat⟩, hm, hl2⟩, hg1⟩ := hE
          replace hg1 : wr.grownBy w1 (some (w.heap.size + 1 + 1 + 1)) := grown_trans (grown_of_gr ((Gr.refl wr).drew) _) hg1
          have HL2 := hide hl2
          have HRD2 : Hid (∃ a2 len2 cap2, Rd w1 (w.heap.size + 1 + 1 + 1) a2 len2 cap2 ((n : Int) + (m : Int)) (.slice fa vs.length fc)) := hide (by obtain ⟨a2, cap2, h, _⟩ := HL2.out; exact ⟨a2, _, cap2, h⟩)
          have r2 : w1.cell? ⟨w.heap.size + 1 + 1 + 1, 2, none⟩ = some (.slice fa vs.length fc) := by obtain ⟨_, _, _, h⟩ := HRD2.out; exact h.cell 2
          have HAT := hide hat
          have HG1 := hide hg1
          clear hat hl2 hg1
          first | refine hK.out _ _ trivial (fun _ => ?_) | (go_wp2_with fail; refine hK.out _ _ trivial (fun _ => ?_))
          clear hK K
          try simp only [Act.put, List.setIfInBounds_toArray, List.set_cons_zero, List.set_cons_succ]
          refine wpAnyH_ready (rs := [1, 4]) (by kernel_rfl) (by simp) ?_
          refine (AllReadyH.cons rfl (fun K hK => ?_) (AllReadyH.cons rfl (fun K hK => ?_) AllReadyH.nil))
          · go_simp
            refine hK.out _ _ trivial (fun _ => ?_)
            clear hK K
            try simp only [Act.put, List.setIfInBounds_toArray, List.set_cons_zero, List.set_cons_succ]
            refine wpAnyH_ready (rs := [4]) (by kernel_rfl) (by simp) ?_
            refine (AllReadyH.cons rfl (fun K hK => ?_) AllReadyH.nil)
            · have r3 : (w1.alloc (.cells #[.int .i64 f0, .int .u64 f1, .int .i64 f2, .bool f3, .slice f4 f5 f6, .int .i64 f7, .int .u64 f8, .int .i64 f9, .int .u64 f10, .int .i64 f11, .int .i64 f12, .int .u64 f13, .int .i64 f14, .int .u64 f15] 34)).cell? ⟨w.heap.size + 1 + 1 + 1, 2, none⟩ = some (.slice fa vs.length fc) := by obtain ⟨_, _, _, h⟩ := HRD2.out; exact (IsB.alloc h _).cell 2
              go_simp
              refine hK.out _ _ trivial (fun _ => ?_)
              clear hK K
              try simp only [Act.put, List.setIfInBounds_toArray, List.set_cons_zero, List.set_cons_succ]
              refine wpAnyH_ready (rs := [5]) (by kernel_rfl) (by simp) ?_
              refine (AllReadyH.cons rfl (fun K hK => ?_) AllReadyH.nil)
              · have hown1 := (HF.out.own.kept HG1.out (by right; intro he; have := HF.out.own.lt _ he; omega)).alloc (.cells #[.int .i64 f0, .int .u64 f1, .int .i64 f2, .bool f3, .slice f4 f5 f6, .int .i64 f7, .int .u64 f8, .int .i64 f9, .int .u64 f10, .int .i64 f11, .int .i64 f12, .int .u64 f13, .int .i64 f14, .int .u64 f15] 34)
                refine step_append_lies _ (by rfl) (.tmp 21) (.tmp 24) 22 (by rfl) W.heap.size 34 i0 _ 14 128 Tryd.underlying22 hi hz0 hz1 hz2 rfl (by decide) _ _ _ (by rfl) hown1 ⟨w1.heap.size, 0, none⟩ 1 1 #[.int .i64 f0, .int .u64 f1, .int .i64 f2, .bool f3, .slice f4 f5 f6, .int .i64 f7, .int .u64 f8, .int .i64 f9, .int .u64 f10, .int .i64 f11, .int .i64 f12, .int .u64 f13, .int .i64 f14, .int .u64 f15].toList (by rfl) rfl (World.news_of_block (heap_alloc_new w1 _)) (one14 _ _ _ _ _ _ _ _ _ _ _ _ _ _ _ _) (by omega) (by unfold maxLen; omega) (by omega) (by have := HG1.out.size; have := HF.out.size; rw [World.size_alloc]; omega) (w1.heap.size + 1) (World.size_alloc _ _) ?_
                intro g cp w2 hown2 hgrow2 hat2 hlt2
                have HI2 : ∃ a2 len2 cap2, Rd w2 (w.heap.size + 1 + 1 + 1) a2 len2 cap2 ((n : Int) + (m : Int)) (.slice fa vs.length fc) := by obtain ⟨a2, len2, cap2, h⟩ := HRD2.out; exact ⟨a2, len2, cap2, (IsB.alloc h (.cells #[.int .i64 f0, .int .u64 f1, .int .i64 f2, .bool f3, .slice f4 f5 f6, .int .i64 f7, .int .u64 f8, .int .i64 f9, .int .u64 f10, .int .i64 f11, .int .i64 f12, .int .u64 f13, .int .i64 f14, .int .u64 f15] 34)).grown hgrow2 (by intro he; have := HF.out.own.lt _ he.symm; omega)⟩
                have s2 : w2.cell? ⟨w.heap.size + 1 + 1 + 1, 2, none⟩ = some (.slice fa vs.length fc) := by obtain ⟨_, _, _, h⟩ := HI2; exact h.cell 2
                have s3 : w2.frozen? ⟨w.heap.size + 1 + 1 + 1, 2, none⟩ = false := by obtain ⟨_, _, _, h⟩ := HI2; exact h.free 2
                have HO2 := hide hown2
                have HGW2 := hide hgrow2
                have HAT2 := hide hat2
                clear hown1 hown2 hgrow2 hat2 HI2
                refine hK.out _ _ trivial (fun _ => ?_)
                clear hK K
                try simp only [Act.put, List.setIfInBounds_toArray]
                refine wpAnyH_ready (rs := [6]) (by kernel_rfl) (by simp) ?_
                refine (AllReadyH.cons rfl (fun K hK => ?_) AllReadyH.nil)
                · go_simp
                  refine hK.out _ _ trivial (fun _ => ?_)
                  clear hK K
                  try simp only [Act.put, List.setIfInBounds_toArray, List.set_cons_zero, List.set_cons_succ]
                  refine wpAnyH_ready (rs := [7]) (by kernel_rfl) (by simp) ?_
                  refine (AllReadyH.cons rfl (fun K hK => ?_) AllReadyH.nil)
                  · go_simp
                    refine hK.out _ _ trivial (fun _ => ?_)
                    clear hK K
                    try simp only [Act.put, List.setIfInBounds_toArray]
                    refine wpAnyH_done (by kernel_rfl) ?_ _
                    refine NoPanic.normal ?_
                    have HN := hide (HF.out.step (by omega) (by omega) (by omega) (by omega) (by omega) (by omega) (by omega) (by omega) (by omega) (by omega) (by omega) HAT.out HL2.out HG1.out HO2.out HGW2.out HAT2.out)
                    clear HO2 HGW2 HAT2 HAT HRD2 HL2 HG1 s2 s3
                    generalize w2.setCell ⟨w.heap.size + 1 + 1 + 1, 2, none⟩ (.slice (some ⟨g, 0, none⟩) (vs.length + 1) cp) = w3 at HN ⊢
                    go_wp2
                    go_roundw
                    case rel => exact ⟨k + 1, vs ++ [v], n + m, _, _, _, by omega, by rw [List.length_append, HVL.out]; rfl, by go_num, by rw [HPP.out]; exact HBO.out, by rw [List.length_drop] at hm; omega, by rw [← List.drop_drop, Int.natCast_add]; exact HN⟩
                    case measure => simp [intOf]; omega
          · have r3 : (w1.alloc (.cells #[.int .i64 f0, .int .u64 f1, .int .i64 f2, .bool f3, .slice f4 f5 f6, .int .i64 f7, .int .u64 f8, .int .i64 f9, .int .u64 f10, .int .i64 f11, .int .i64 f12, .int .u64 f13, .int .i64 f14, .int .u64 f15] 34)).cell? ⟨w.heap.size + 1 + 1 + 1, 2, none⟩ = some (.slice fa vs.length fc) := by obtain ⟨_, _, _, h⟩ := HRD2.out; exact (IsB.alloc h _).cell 2
            go_simp
            refine hK.out _ _ trivial (fun _ => ?_)
            clear hK K
            try simp only [Act.put, List.setIfInBounds_toArray, List.set_cons_zero, List.set_cons_succ]
            refine wpAnyH_ready (rs := [1]) (by kernel_rfl) (by simp) ?_
            refine (AllReadyH.cons rfl (fun K hK => ?_) AllReadyH.nil)
            · go_simp
              refine hK.out _ _ trivial (fun _ => ?_)
              clear hK K
              try simp only [Act.put, List.setIfInBounds_toArray, List.set_cons_zero, List.set_cons_succ]
              refine wpAnyH_ready (rs := [5]) (by kernel_rfl) (by simp) ?_
              refine (AllReadyH.cons rfl (fun K hK => ?_) AllReadyH.nil)
              · have hown1 := (HF.out.own.kept HG1.out (by right; intro he; have := HF.out.own.lt _ he; omega)).alloc (.cells #[.int .i64 f0, .int .u64 f1, .int .i64 f2, .bool f3, .slice f4 f5 f6, .int .i64 f7, .int .u64 f8, .int .i64 f9, .int .u64 f10, .int .i64 f11, .int .i64 f12, .int .u64 f13, .int .i64 f14, .int .u64 f15] 34)
                refine step_append_lies _ (by rfl) (.tmp 21) (.tmp 24) 22 (by rfl) W.heap.size 34 i0 _ 14 128 Tryd.underlying22 hi hz0 hz1 hz2 rfl (by decide) _ _ _ (by rfl) hown1 ⟨w1.heap.size, 0, none⟩ 1 1 #[.int .i64 f0, .int .u64 f1, .int .i64 f2, .bool f3, .slice f4 f5 f6, .int .i64 f7, .int .u64 f8, .int .i64 f9, .int .u64 f10, .int .i64 f11, .int .i64 f12, .int .u64 f13, .int .i64 f14, .int .u64 f15].toList (by rfl) rfl (World.news_of_block (heap_alloc_new w1 _)) (one14 _ _ _ _ _ _ _ _ _ _ _ _ _ _ _ _) (by omega) (by unfold maxLen; omega) (by omega) (by have := HG1.out.size; have := HF.out.size; rw [World.size_alloc]; omega) (w1.heap.size + 1) (World.size_alloc _ _) ?_
                intro g cp w2 hown2 hgrow2 hat2 hlt2
                have HI2 : ∃ a2 len2 cap2, Rd w2 (w.heap.size + 1 + 1 + 1) a2 len2 cap2 ((n : Int) + (m : Int)) (.slice fa vs.length fc) := by obtain ⟨a2, len2, cap2, h⟩ := HRD2.out; exact ⟨a2, len2, cap2, (IsB.alloc h (.cells #[.int .i64 f0, .int .u64 f1, .int .i64 f2, .bool f3, .slice f4 f5 f6, .int .i64 f7, .int .u64 f8, .int .i64 f9, .int .u64 f10, .int .i64 f11, .int .i64 f12, .int .u64 f13, .int .i64 f14, .int .u64 f15] 34)).grown hgrow2 (by intro he; have := HF.out.own.lt _ he.symm; omega)⟩
                have s2 : w2.cell? ⟨w.heap.size + 1 + 1 + 1, 2, none⟩ = some (.slice fa vs.length fc) := by obtain ⟨_, _, _, h⟩ := HI2; exact h.cell 2
                have s3 : w2.frozen? ⟨w.heap.size + 1 + 1 + 1, 2, none⟩ = false := by obtain ⟨_, _, _, h⟩ := HI2; exact h.free 2
                have HO2 := hide hown2
                have HGW2 := hide hgrow2
                have HAT2 := hide hat2
                clear hown1 hown2 hgrow2 hat2 HI2
                refine hK.out _ _ trivial (fun _ => ?_)
                clear hK K
                try simp only [Act.put, List.setIfInBounds_toArray]
                refine wpAnyH_ready (rs := [6]) (by kernel_rfl) (by simp) ?_
                refine (AllReadyH.cons rfl (fun K hK => ?_) AllReadyH.nil)
                · go_simp
                  refine hK.out _ _ trivial (fun _ => ?_)
                  clear hK K
                  try simp only [Act.put, List.setIfInBounds_toArray, List.set_cons_zero, List.set_cons_succ]
                  refine wpAnyH_ready (rs := [7]) (by kernel_rfl) (by simp) ?_
                  refine (AllReadyH.cons rfl (fun K hK => ?_) AllReadyH.nil)
                  · go_simp
                    refine hK.out _ _ trivial (fun _ => ?_)
                    clear hK K
                    try simp only [Act.put, List.setIfInBounds_toArray]
                    refine wpAnyH_done (by kernel_rfl) ?_ _
                    refine NoPanic.normal ?_
                    have HN := hide (HF.out.step (by omega) (by omega) (by omega) (by omega) (by omega) (by omega) (by omega) (by omega) (by omega) (by omega) (by omega) HAT.out HL2.out HG1.out HO2.out HGW2.out HAT2.out)
                    clear HO2 HGW2 HAT2 HAT HRD2 HL2 HG1 s2 s3
                    generalize w2.setCell ⟨w.heap.size + 1 + 1 + 1, 2, none⟩ (.slice (some ⟨g, 0, none⟩) (vs.length + 1) cp) = w3 at HN ⊢
                    go_wp2
                    go_roundw
                    case rel => exact ⟨k + 1, vs ++ [v], n + m, _, _, _, by omega, by rw [List.length_append, HVL.out]; rfl, by go_num, by rw [HPP.out]; exact HBO.out, by rw [List.length_drop] at hm; omega, by rw [← List.drop_drop, Int.natCast_add]; exact HN⟩
                    case measure => simp [intOf]; omega
      · have HBB := hide (HPP.out.trans (behind_bad hp))
        have HQ := hide (show ∀ w', RowKit.Below w.heap.size w w' → Told w (pfields ks l) (.returned (.tuple #[.slice none 0 0, .int .i64 ((n : Int) + (i : Int)), .int .i64 er])) w' from fun w' hb => by rw [HBB.out]; exact ⟨by simp only [Int.natCast_add], hb⟩)
        replace hp := hide hp
        go_wp2
        refine wp_region_held_drew (S := fun _ => True) (by assumption) trivial (fun _ => ?_)
        refine wpAnyH_ready (rs := [0, 2]) (by kernel_rfl) (by simp) ?_
        refine (AllReadyH.cons rfl (fun K hK => ?_) (AllReadyH.cons rfl (fun K hK => ?_) AllReadyH.nil))
        · go_simp
          refine hK.out _ _ trivial (fun _ => ?_)
          clear hK K
          try simp only [Act.put, List.setIfInBounds_toArray, List.set_cons_zero, List.set_cons_succ]
          refine wpAnyH_ready (rs := [1, 2]) (by kernel_rfl) (by simp) ?_
          refine (AllReadyH.cons rfl (fun K hK => ?_) (AllReadyH.cons rfl (fun K hK => ?_) AllReadyH.nil))
          · go_simp
            refine hK.out _ _ trivial (fun _ => ?_)
            clear hK K
            try simp only [Act.put, List.setIfInBounds_toArray, List.set_cons_zero, List.set_cons_succ]
            refine wpAnyH_ready (rs := [2]) (by kernel_rfl) (by simp) ?_
            refine (AllReadyH.cons rfl (fun K hK => ?_) AllReadyH.nil)
            · go_simp
              refine hK.out _ _ trivial (fun _ => ?_)
              clear hK K
              try simp only [Act.put, List.setIfInBounds_toArray, List.set_cons_zero, List.set_cons_succ]
              refine wpAnyH_ready (rs := [3]) (by kernel_rfl) (by simp) ?_
              refine (AllReadyH.cons rfl (fun K hK => ?_) AllReadyH.nil)
              · go_simp
                go_at_call 56
                refine hfa.out.mono ?_
                intro e w1 hE
                unfold PostF at hE
                rw [hp.out] at hE
                obtain ⟨rfl, hg⟩ := hE
                replace hg : wr.grownBy w1 (some (w.heap.size + 1 + 1 + 1)) := grown_trans (grown_of_gr ((Gr.refl wr).drew) _) hg
                exact door_bad _ w.heap.size (w.heap.size + 1) (w.heap.size + 1 + 1) _ _ _ ((n : Int) + (i : Int)) er w w1 _ HQ.out (HF.out.iA.grown hg (by intro h; simp only [Option.some.injEq] at h; omega)) (HF.out.iB.grown hg (by intro h; simp only [Option.some.injEq] at h; omega)) (HF.out.iC.grown hg (by intro h; simp only [Option.some.injEq] at h; omega)) (by omega) (by omega) (by omega) (by omega) (by omega) (by omega) (grown_below HF.out.below hg (by omega)) rfl rfl rfl
          · go_simp
            refine hK.out _ _ trivial (fun _ => ?_)
            clear hK K
            try simp only [Act.put, List.setIfInBounds_toArray, List.set_cons_zero, List.set_cons_succ]
            refine wpAnyH_ready (rs := [1, 3]) (by kernel_rfl) (by simp) ?_
            refine (AllReadyH.cons rfl (fun K hK => ?_) (AllReadyH.cons rfl (fun K hK => ?_) AllReadyH.nil))
            · go_simp
              refine hK.out _ _ trivial (fun _ => ?_)
              clear hK K
              try simp only [Act.put, List.setIfInBounds_toArray, List.set_cons_zero, List.set_cons_succ]
              refine wpAnyH_ready (rs := [3]) (by kernel_rfl) (by simp) ?_
              refine (AllReadyH.cons rfl (fun K hK => ?_) AllReadyH.nil)
              · go_simp
                go_at_call 56
                refine hfa.out.mono ?_
                intro e w1 hE
                unfold PostF at hE
                rw [hp.out] at hE
                obtain ⟨rfl, hg⟩ := hE
                replace hg : wr.grownBy w1 (some (w.heap.size + 1 + 1 + 1)) := grown_trans (grown_of_gr ((Gr.refl wr).drew) _) hg
                exact door_bad _ w.heap.size (w.heap.size + 1) (w.heap.size + 1 + 1) _ _ _ ((n : Int) + (i : Int)) er w w1 _ HQ.out (HF.out.iA.grown hg (by intro h; simp only [Option.some.injEq] at h; omega)) (HF.out.iB.grown hg (by intro h; simp only [Option.some.injEq] at h; omega)) (HF.out.iC.grown hg (by intro h; simp only [Option.some.injEq] at h; omega)) (by omega) (by omega) (by omega) (by omega) (by omega) (by omega) (grown_below HF.out.below hg (by omega)) rfl rfl rfl
            · go_simp
              go_at_call 56
              refine hfa.out.mono ?_
              intro e w1 hE
              unfold PostF at hE
              rw [hp.out] at hE
              obtain ⟨rfl, hg⟩ := hE
              replace hg : wr.grownBy w1 (some (w.heap.size + 1 + 1 + 1)) := grown_trans (grown_of_gr ((Gr.refl wr).drew) _) hg
              exact door_bad _ w.heap.size (w.heap.size + 1) (w.heap.size + 1 + 1) _ _ _ ((n : Int) + (i : Int)) er w w1 _ HQ.out (HF.out.iA.grown hg (by intro h; simp only [Option.some.injEq] at h; omega)) (HF.out.iB.grown hg (by intro h; simp only [Option.some.injEq] at h; omega)) (HF.out.iC.grown hg (by intro h; simp only [Option.some.injEq] at h; omega)) (by omega) (by omega) (by omega) (by omega) (by omega) (by omega) (grown_below HF.out.below hg (by omega)) rfl rfl rfl
        · go_simp
          refine hK.out _ _ trivial (fun _ => ?_)
          clear hK K
          try simp only [Act.put, List.setIfInBounds_toArray, List.set_cons_zero, List.set_cons_succ]
          refine wpAnyH_ready (rs := [0, 3]) (by kernel_rfl) (by simp) ?_
          refine (AllReadyH.cons rfl (fun K hK => ?_) (AllReadyH.cons rfl (fun K hK => ?_) AllReadyH.nil))
          · go_simp
            refine hK.out _ _ trivial (fun _ => ?_)
            clear hK K
            try simp only [Act.put, List.setIfInBounds_toArray, List.set_cons_zero, List.set_cons_succ]
            refine wpAnyH_ready (rs := [1, 3]) (by kernel_rfl) (by simp) ?_
            refine (AllReadyH.cons rfl (fun K hK => ?_) (AllReadyH.cons rfl (fun K hK => ?_) AllReadyH.nil))
            · go_simp
              refine hK.out _ _ trivial (fun _ => ?_)
              clear hK K
              try simp only [Act.put, List.setIfInBounds_toArray, List.set_cons_zero, List.set_cons_succ]
              refine wpAnyH_ready (rs := [3]) (by kernel_rfl) (by simp) ?_
              refine (AllReadyH.cons rfl (fun K hK => ?_) AllReadyH.nil)
              · go_simp
                go_at_call 56
                refine hfa.out.mono ?_
                intro e w1 hE
                unfold PostF at hE
                rw [hp.out] at hE
                obtain ⟨rfl, hg⟩ := hE
                replace hg : wr.grownBy w1 (some (w.heap.size + 1 + 1 + 1)) := grown_trans (grown_of_gr ((Gr.refl wr).drew) _) hg
                exact door_bad _ w.heap.size (w.heap.size + 1) (w.heap.size + 1 + 1) _ _ _ ((n : Int) + (i : Int)) er w w1 _ HQ.out (HF.out.iA.grown hg (by intro h; simp only [Option.some.injEq] at h; omega)) (HF.out.iB.grown hg (by intro h; simp only [Option.some.injEq] at h; omega)) (HF.out.iC.grown hg (by intro h; simp only [Option.some.injEq] at h; omega)) (by omega) (by omega) (by omega) (by omega) (by omega) (by omega) (grown_below HF.out.below hg (by omega)) rfl rfl rfl
            · go_simp
              go_at_call 56
              refine hfa.out.mono ?_
              intro e w1 hE
              unfold PostF at hE
              rw [hp.out] at hE
              obtain ⟨rfl, hg⟩ := hE
              replace hg : wr.grownBy w1 (some (w.heap.size + 1 + 1 + 1)) := grown_trans (grown_of_gr ((Gr.refl wr).drew) _) hg
              exact door_bad _ w.heap.size (w.heap.size + 1) (w.heap.size + 1 + 1) _ _ _ ((n : Int) + (i : Int)) er w w1 _ HQ.out (HF.out.iA.grown hg (by intro h; simp only [Option.some.injEq] at h; omega)) (HF.out.iB.grown hg (by intro h; simp only [Option.some.injEq] at h; omega)) (HF.out.iC.grown hg (by intro h; simp only [Option.some.injEq] at h; omega)) (by omega) (by omega) (by omega) (by omega) (by omega) (by omega) (grown_below HF.out.below hg (by omega)) rfl rfl rfl
          · go_simp
            go_at_call 56
            refine hfa.out.mono ?_
            intro e w1 hE
            unfold PostF at hE
            rw [hp.out] at hE
            obtain ⟨rfl, hg⟩ := hE
            replace hg : wr.grownBy w1 (some (w.heap.size + 1 + 1 + 1)) := grown_trans (grown_of_gr ((Gr.refl wr).drew) _) hg
            exact door_bad _ w.heap.size (w.heap.size + 1) (w.heap.size + 1 + 1) _ _ _ ((n : Int) + (i : Int)) er w w1 _ HQ.out (HF.out.iA.grown hg (by intro h; simp only [Option.some.injEq] at h; omega)) (HF.out.iB.grown hg (by intro h; simp only [Option.some.injEq] at h; omega)) (HF.out.iC.grown hg (by intro h; simp only [Option.some.injEq] at h; omega)) (by omega) (by omega) (by omega) (by omega) (by omega) (by omega) (grown_below HF.out.below hg (by omega)) rfl rfl rfl
    · obtain rfl : k = ks.length := by omega
      have hpe : pfields ks l = .ok vs n := by
        rw [HPP.out, List.drop_length]
        simp [pfields, PR.behind]
      have HPE := hide hpe
      have r0 : wr.cell? ⟨w.heap.size + 1 + 1 + 1, 1, none⟩ = some (.int .i64 (n : Int)) := by obtain ⟨_, _, h, _⟩ := HF.out.lft; exact h.cell 1
      have r1 : wr.cell? ⟨w.heap.size + 1 + 1 + 1, 2, none⟩ = some (.slice fa vs.length fc) := by obtain ⟨_, _, h, _⟩ := HF.out.lft; exact h.cell 2
      have a0 : wr.cell? ⟨w.heap.size, 0, none⟩ = some (.slice none 0 0) := HF.out.iA.cell 0
      have a1 : wr.cell? ⟨w.heap.size + 1, 0, none⟩ = some (.int .i64 0) := HF.out.iB.cell 0
      have a2 : wr.cell? ⟨w.heap.size + 1 + 1, 0, none⟩ = some (.int .i64 0) := HF.out.iC.cell 0
      have q0 := HF.out.iA.free 0
      have q1 := HF.out.iB.free 0
      have q2 := HF.out.iC.free 0
      have n1 : w.heap.size + 1 ≠ w.heap.size := by omega
      clear hpe HPP
      go_wp2
      go_region
      try go_wp2
      refine door_idle _ w.heap.size (w.heap.size + 1) (w.heap.size + 1 + 1) vs.length fa fc (n : Int) 0 _ _ ?_ ?_ ?_ rfl rfl rfl ?_
      · exact ((HF.out.iA.set0 _).setOther (by simp) _).setOther (by simp only []; omega) _
      · exact ((HF.out.iB.setOther (by simp) _).set0 _).setOther (by simp) _
      · exact ((HF.out.iC.setOther (by simp only []; omega) _).setOther (by simp) _).set0 _
      · have hW : w.heap.size ≤ W.heap.size := HG.out.le
        have ho := HF.out.own
        have hg1 := fun (X : World) => grown_set X w.heap.size 0 (.slice fa vs.length fc)
        have hg2 := fun (X : World) => grown_set X (w.heap.size + 1) 0 (.int .i64 (n : Int))
        have hg3 := fun (X : World) => grown_set X (w.heap.size + 1 + 1) 0 (.int .i64 0)
        rw [HPE.out]
        have hbl := (grown_below (grown_below (grown_below HF.out.below (hg1 _) (by omega)) (hg2 _) (by omega)) (hg3 _) (by omega)).drew
        refine ⟨⟨fa, fc, rfl, fs, HF.out.flen, ?_, ?_, hbl⟩, hbl⟩
        · have hx : ∀ y, y < W.heap.size → (Value.slice fa vs.length fc).ownBlock = none ∨ (Value.slice fa vs.length fc).ownBlock ≠ some y := fun y hy => Or.inr (fun he => by have := ho.lt y he; omega)
          have h3 := owns_le hW (((ho.kept (hg1 _) (hx _ (by omega))).kept (hg2 _) (hx _ (by omega))).kept (hg3 _) (hx _ (by omega)))
          exact h3
        · intro j v f hv hf
          have ha := (HF.out.rows j v f hv hf).1
          have hx : ∀ y, y < W.heap.size → f.blk = none ∨ f.blk ≠ some y := fun y hy => by
            rcases ha.blk with h | ⟨g, h, h1, h2⟩
            · exact Or.inl h
            · right; rw [h]; simp only [ne_eq, Option.some.injEq]; omega
          have h3 := (((ha.kept (hg1 _) (hx _ (by omega))).kept (hg2 _) (hx _ (by omega))).kept (hg3 _) (hx _ (by omega))).mono hW
          exact h3

end Go.Proofs.YtmhcmlegdoapdaaDoor
