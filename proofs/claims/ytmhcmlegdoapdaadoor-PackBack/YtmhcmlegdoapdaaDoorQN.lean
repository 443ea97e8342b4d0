/- Package pack: First of the bytes 128 and 0, as a number: ErrBytes at 1. -/
import Derived.Test.YtmhcmlegdoapdaaDoorQM
import Derived.Test.YtmhcmlegdoapdaaDoorQO
namespace Go.Proofs.YtmhcmlegdoapdaaDoor
open Go.RowKit

set_option maxHeartbeats 4000000 in
set_option maxRecDepth 100000 in
theorem field_alive (R b : Nat) (fl : Value) (w : World) (hR : Rd w R (some ⟨b, 0, none⟩) 2 2 0 fl) (hne : b ≠ R) (hb0 : w.cell? ⟨b, 0, none⟩ = some (.int .u8 128)) (hb1 : w.cell? ⟨b, 1, none⟩ = some (.int .u8 0)) :
    Calls Tryd.prog 56 #[.pointer (some ⟨R, 0, none⟩), .int .i64 1] w fun e w' => e = .panicked (flt 1 31) ∧ w.grownBy w' (some R) := by
  have hn : ∀ w', Gr w w' → _ := fun w' hg => number_alive R b fl w' (IsB.gr hR hg) hne (hg.cell (lt_of_cell hb0) hb0) (hg.cell (lt_of_cell hb1) hb1)
  replace hn := hide hn
  clear hR hb0 hb1
  go_enter Tryd.func56, Tryd.ntmps56
  go_wp2_with fail
  refine (hn.out _ (((Gr.refl w).alloc _).alloc _)).mono ?_
  rintro e w' ⟨rfl, hg⟩
  exact ⟨rfl, rfl, grown_trans (grown_of_gr (((Gr.refl w).alloc _).alloc _) _) hg⟩

set_option maxHeartbeats 1000000 in
theorem door_fault (T : Array Value) (A B C : Nat) (x : Value) (y z : Int) (at' er : Int) (w W : World) (hA : IsB W A #[x] 22) (hB : IsB W B #[.int .i64 y] 3) (hC : IsB W C #[.int .i64 z] 36) (hab : A ≠ B) (hac : A ≠ C) (hbc : B ≠ C)
    (lA : w.heap.size ≤ A) (lB : w.heap.size ≤ B) (lC : w.heap.size ≤ C) (hw : RowKit.Below w.heap.size w W)
    (t4 : T[4]?.getD undef = .pointer (some ⟨A, 0, none⟩)) (t5 : T[5]?.getD undef = .pointer (some ⟨B, 0, none⟩)) (t6 : T[6]?.getD undef = .pointer (some ⟨C, 0, none⟩)) :
    bodyPostD Tryd.prog Tryd.f36 (fun e w' => e = .returned (.tuple #[.slice none 0 0, .int .i64 at', .int .i64 er]) ∧ RowKit.Below w.heap.size w w') (Exit.panic (flt at' er))
      { tmps := T, defers := [{ target := Target.fn (Fn.func 55) #[.pointer (some ⟨A, 0, none⟩), .pointer (some ⟨B, 0, none⟩), .pointer (some ⟨C, 0, none⟩)], args := #[] }] } W := by
  refine leaves_cons (f := 55) (args := #[.pointer (some ⟨A, 0, none⟩), .pointer (some ⟨B, 0, none⟩), .pointer (some ⟨C, 0, none⟩)]) (by simp) (by simp [go_sem]) ?_
  refine (catch_fault A B C x y z at' er W hA hB hC hab hac hbc).mono ?_
  rintro e u' w'' ⟨rfl, rfl, iA, iB, iC, hb⟩
  have a0 : w''.cell? ⟨A, 0, none⟩ = some (.slice none 0 0) := iA.cell 0
  have b0 : w''.cell? ⟨B, 0, none⟩ = some (.int .i64 at') := iB.cell 0
  have c0 : w''.cell? ⟨C, 0, none⟩ = some (.int .i64 er) := iC.cell 0
  have hbb := hw.trans (hb w.heap.size lA lB lC hw.size)
  simp [Leaves, settle, results, Tryd.results36, go_sem, t4, t5, t6, a0, b0, c0, loadVar]
  exact hbb

set_option maxHeartbeats 4000000 in
set_option maxRecDepth 100000 in
theorem readFields_alive (b k : Nat) (w : World) (hb0 : w.cell? ⟨b, 0, none⟩ = some (.int .u8 128)) (hb1 : w.cell? ⟨b, 1, none⟩ = some (.int .u8 0)) (hk : w.cell? ⟨k, 0, none⟩ = some (.int .i64 1)) :
    Calls Tryd.prog 36 #[.slice (some ⟨b, 0, none⟩) 2 2, .slice (some ⟨k, 0, none⟩) 1 1] w fun e w' => e = .returned (.tuple #[.slice none 0 0, .int .i64 1, .int .i64 31]) ∧ RowKit.Below w.heap.size w w' := by
  have mixed : Tryd.prog.follows .mixedOrders = true := by kernel_rfl
  have hmf : ∀ (fn : Fn) (first cap : Array Value) (w : World), (Instr.makeFunc fn first cap).run Tryd.prog w = .ok (.func fn first cap) w := fun _ _ _ _ => rfl
  have hbl := lt_of_cell hb0
  have hkl := lt_of_cell hk
  simp only [] at hbl hkl
  go_enter_defers Tryd.func36, Tryd.ntmps36
  go_wp2
  have I0 := (((IsB.new w #[.slice none 0 0] 22).alloc (.cells #[.int .i64 0] 3)).alloc (.cells #[.int .i64 0] 36)).alloc (.cells #[.slice (some ⟨b, 0, none⟩) 2 2, .int .i64 0, .slice none 0 0] 96)
  have I1 := ((IsB.new (w.alloc (.cells #[.slice none 0 0] 22)) #[.int .i64 0] 3).alloc (.cells #[.int .i64 0] 36)).alloc (.cells #[.slice (some ⟨b, 0, none⟩) 2 2, .int .i64 0, .slice none 0 0] 96)
  have I2 := (IsB.new ((w.alloc (.cells #[.slice none 0 0] 22)).alloc (.cells #[.int .i64 0] 3)) #[.int .i64 0] 36).alloc (.cells #[.slice (some ⟨b, 0, none⟩) 2 2, .int .i64 0, .slice none 0 0] 96)
  have I3 := IsB.new (((w.alloc (.cells #[.slice none 0 0] 22)).alloc (.cells #[.int .i64 0] 3)).alloc (.cells #[.int .i64 0] 36)) #[.slice (some ⟨b, 0, none⟩) 2 2, .int .i64 0, .slice none 0 0] 96
  simp only [World.size_alloc] at I1 I2 I3
  have HG := hide (show Gr w ((((w.alloc (.cells #[.slice none 0 0] 22)).alloc (.cells #[.int .i64 0] 3)).alloc (.cells #[.int .i64 0] 36)).alloc (.cells #[.slice (some ⟨b, 0, none⟩) 2 2, .int .i64 0, .slice none 0 0] 96)) from ((((Gr.refl w).alloc _).alloc _).alloc _).alloc _)
  replace I0 := hide I0
  replace I1 := hide I1
  replace I2 := hide I2
  generalize (((w.alloc (.cells #[.slice none 0 0] 22)).alloc (.cells #[.int .i64 0] 3)).alloc (.cells #[.int .i64 0] 36)).alloc (.cells #[.slice (some ⟨b, 0, none⟩) 2 2, .int .i64 0, .slice none 0 0] 96) = W at I0 I1 I2 I3 HG ⊢
  have a2 : W.cell? ⟨w.heap.size + 1 + 1 + 1, 2, none⟩ = some (.slice none 0 0) := I3.cell 2
  have hlW := I3.lt
  have hkW : W.cell? ⟨k, 0, none⟩ = some (.int .i64 1) := HG.out.cell (by exact hkl) hk
  have hfa := hide (field_alive (w.heap.size + 1 + 1 + 1) b (.slice none 0 0) W.drew I3 (by omega) (HG.out.cell (by exact hbl) hb0) (HG.out.cell (by exact hbl) hb1))
  have HI3 := hide I3
  clear hb0 hb1 hk I3
  go_loopw [16] (fun i wr => i = .int .i64 0 ∧ wr = W) (fun _ _ => 0)
  case atStart => exact ⟨rfl, rfl⟩
  case round =>
    obtain ⟨rfl, rfl⟩ := hrel
    go_wp2
    refine wp_region_held_drew (S := fun w' => w' = wr.drew) (by assumption) rfl (fun hHeld => ?_)
    refine wpAnyH_ready (rs := [0, 2]) (by kernel_rfl) (by simp) ?_
    refine (AllReadyH.cons rfl (fun K hK => ?_) (AllReadyH.cons rfl (fun K hK => ?_) AllReadyH.nil))
    · go_simp
      refine hK.out _ _ (by first | rfl | trivial) (fun hHeld => ?_)
      clear hK K
      try simp only [Act.put, List.setIfInBounds_toArray, List.set_cons_zero, List.set_cons_succ]
      refine wpAnyH_ready (rs := [1, 2]) (by kernel_rfl) (by simp) ?_
      refine (AllReadyH.cons rfl (fun K hK => ?_) (AllReadyH.cons rfl (fun K hK => ?_) AllReadyH.nil))
      · go_simp
        refine hK.out _ _ (by first | rfl | trivial) (fun hHeld => ?_)
        clear hK K
        try simp only [Act.put, List.setIfInBounds_toArray, List.set_cons_zero, List.set_cons_succ]
        refine wpAnyH_ready (rs := [2]) (by kernel_rfl) (by simp) ?_
        refine (AllReadyH.cons rfl (fun K hK => ?_) AllReadyH.nil)
        · go_simp
          refine hK.out _ _ (by first | rfl | trivial) (fun hHeld => ?_)
          clear hK K
          try simp only [Act.put, List.setIfInBounds_toArray, List.set_cons_zero, List.set_cons_succ]
          refine wpAnyH_ready (rs := [3]) (by kernel_rfl) (by simp) ?_
          refine (AllReadyH.cons rfl (fun K hK => ?_) AllReadyH.nil)
          · go_simp
            go_at_call 56; refine hfa.out.mono ?_; rintro e w' ⟨rfl, hg⟩; exact door_fault _ (w.heap.size) (w.heap.size + 1) (w.heap.size + 1 + 1) _ _ _ 1 31 w w' (IsB.grown (w := wr.drew) I0.out hg (by intro h; simp only [Option.some.injEq] at h; omega)) (IsB.grown (w := wr.drew) I1.out hg (by intro h; simp only [Option.some.injEq] at h; omega)) (IsB.grown (w := wr.drew) I2.out hg (by intro h; simp only [Option.some.injEq] at h; omega)) (by omega) (by omega) (by omega) (by omega) (by omega) (by omega) (HG.out.drew.below.grown hg (HG.out.drew.le) (fun j hj => by simp at hj; omega)) rfl rfl rfl
      · go_simp
        refine hK.out _ _ (by first | rfl | trivial) (fun hHeld => ?_)
        clear hK K
        try simp only [Act.put, List.setIfInBounds_toArray, List.set_cons_zero, List.set_cons_succ]
        refine wpAnyH_ready (rs := [1, 3]) (by kernel_rfl) (by simp) ?_
        refine (AllReadyH.cons rfl (fun K hK => ?_) (AllReadyH.cons rfl (fun K hK => ?_) AllReadyH.nil))
        · go_simp
          refine hK.out _ _ (by first | rfl | trivial) (fun hHeld => ?_)
          clear hK K
          try simp only [Act.put, List.setIfInBounds_toArray, List.set_cons_zero, List.set_cons_succ]
          refine wpAnyH_ready (rs := [3]) (by kernel_rfl) (by simp) ?_
          refine (AllReadyH.cons rfl (fun K hK => ?_) AllReadyH.nil)
          · go_simp
            go_at_call 56; refine hfa.out.mono ?_; rintro e w' ⟨rfl, hg⟩; exact door_fault _ (w.heap.size) (w.heap.size + 1) (w.heap.size + 1 + 1) _ _ _ 1 31 w w' (IsB.grown (w := wr.drew) I0.out hg (by intro h; simp only [Option.some.injEq] at h; omega)) (IsB.grown (w := wr.drew) I1.out hg (by intro h; simp only [Option.some.injEq] at h; omega)) (IsB.grown (w := wr.drew) I2.out hg (by intro h; simp only [Option.some.injEq] at h; omega)) (by omega) (by omega) (by omega) (by omega) (by omega) (by omega) (HG.out.drew.below.grown hg (HG.out.drew.le) (fun j hj => by simp at hj; omega)) rfl rfl rfl
        · go_simp
          go_at_call 56; refine hfa.out.mono ?_; rintro e w' ⟨rfl, hg⟩; exact door_fault _ (w.heap.size) (w.heap.size + 1) (w.heap.size + 1 + 1) _ _ _ 1 31 w w' (IsB.grown (w := wr.drew) I0.out hg (by intro h; simp only [Option.some.injEq] at h; omega)) (IsB.grown (w := wr.drew) I1.out hg (by intro h; simp only [Option.some.injEq] at h; omega)) (IsB.grown (w := wr.drew) I2.out hg (by intro h; simp only [Option.some.injEq] at h; omega)) (by omega) (by omega) (by omega) (by omega) (by omega) (by omega) (HG.out.drew.below.grown hg (HG.out.drew.le) (fun j hj => by simp at hj; omega)) rfl rfl rfl
    · go_simp
      refine hK.out _ _ (by first | rfl | trivial) (fun hHeld => ?_)
      clear hK K
      try simp only [Act.put, List.setIfInBounds_toArray, List.set_cons_zero, List.set_cons_succ]
      refine wpAnyH_ready (rs := [0, 3]) (by kernel_rfl) (by simp) ?_
      refine (AllReadyH.cons rfl (fun K hK => ?_) (AllReadyH.cons rfl (fun K hK => ?_) AllReadyH.nil))
      · go_simp
        refine hK.out _ _ (by first | rfl | trivial) (fun hHeld => ?_)
        clear hK K
        try simp only [Act.put, List.setIfInBounds_toArray, List.set_cons_zero, List.set_cons_succ]
        refine wpAnyH_ready (rs := [1, 3]) (by kernel_rfl) (by simp) ?_
        refine (AllReadyH.cons rfl (fun K hK => ?_) (AllReadyH.cons rfl (fun K hK => ?_) AllReadyH.nil))
        · go_simp
          refine hK.out _ _ (by first | rfl | trivial) (fun hHeld => ?_)
          clear hK K
          try simp only [Act.put, List.setIfInBounds_toArray, List.set_cons_zero, List.set_cons_succ]
          refine wpAnyH_ready (rs := [3]) (by kernel_rfl) (by simp) ?_
          refine (AllReadyH.cons rfl (fun K hK => ?_) AllReadyH.nil)
          · go_simp
            go_at_call 56; refine hfa.out.mono ?_; rintro e w' ⟨rfl, hg⟩; exact door_fault _ (w.heap.size) (w.heap.size + 1) (w.heap.size + 1 + 1) _ _ _ 1 31 w w' (IsB.grown (w := wr.drew) I0.out hg (by intro h; simp only [Option.some.injEq] at h; omega)) (IsB.grown (w := wr.drew) I1.out hg (by intro h; simp only [Option.some.injEq] at h; omega)) (IsB.grown (w := wr.drew) I2.out hg (by intro h; simp only [Option.some.injEq] at h; omega)) (by omega) (by omega) (by omega) (by omega) (by omega) (by omega) (HG.out.drew.below.grown hg (HG.out.drew.le) (fun j hj => by simp at hj; omega)) rfl rfl rfl
        · go_simp
          go_at_call 56; refine hfa.out.mono ?_; rintro e w' ⟨rfl, hg⟩; exact door_fault _ (w.heap.size) (w.heap.size + 1) (w.heap.size + 1 + 1) _ _ _ 1 31 w w' (IsB.grown (w := wr.drew) I0.out hg (by intro h; simp only [Option.some.injEq] at h; omega)) (IsB.grown (w := wr.drew) I1.out hg (by intro h; simp only [Option.some.injEq] at h; omega)) (IsB.grown (w := wr.drew) I2.out hg (by intro h; simp only [Option.some.injEq] at h; omega)) (by omega) (by omega) (by omega) (by omega) (by omega) (by omega) (HG.out.drew.below.grown hg (HG.out.drew.le) (fun j hj => by simp at hj; omega)) rfl rfl rfl
      · go_simp
        go_at_call 56; refine hfa.out.mono ?_; rintro e w' ⟨rfl, hg⟩; exact door_fault _ (w.heap.size) (w.heap.size + 1) (w.heap.size + 1 + 1) _ _ _ 1 31 w w' (IsB.grown (w := wr.drew) I0.out hg (by intro h; simp only [Option.some.injEq] at h; omega)) (IsB.grown (w := wr.drew) I1.out hg (by intro h; simp only [Option.some.injEq] at h; omega)) (IsB.grown (w := wr.drew) I2.out hg (by intro h; simp only [Option.some.injEq] at h; omega)) (by omega) (by omega) (by omega) (by omega) (by omega) (by omega) (HG.out.drew.below.grown hg (HG.out.drew.le) (fun j hj => by simp at hj; omega)) rfl rfl rfl

set_option maxHeartbeats 2000000 in
set_option maxRecDepth 100000 in
theorem first_alive (b k : Nat) (w : World) (hb0 : w.cell? ⟨b, 0, none⟩ = some (.int .u8 128)) (hb1 : w.cell? ⟨b, 1, none⟩ = some (.int .u8 0)) (hk : w.cell? ⟨k, 0, none⟩ = some (.int .i64 1)) :
    Calls Tryd.prog 20 #[.slice (some ⟨b, 0, none⟩) 2 2, .slice (some ⟨k, 0, none⟩) 1 1] w fun e w' => e = .returned (.tuple #[.slice none 0 0, .int .i64 1, .int .i64 31]) ∧ RowKit.Below w.heap.size w w' := by
  have hr := hide (readFields_alive b k w hb0 hb1 hk)
  clear hb0 hb1
  go_enter Tryd.func20, Tryd.ntmps20
  go_wp2
  go_loop [11] (fun i => i = .int .i64 0 ∨ i = .int .i64 1) (fun i => 1 - (intOf i).toNat)
  case atStart => exact Or.inl rfl
  case round =>
    rcases hrel with rfl | rfl
    · go_wp2_with fail
      refine (isKind_yes 1 (by omega) (by omega) _).mono ?_; rintro e w1 ⟨rfl, rfl⟩
      go_wp2
      go_round
      case rel => exact Or.inr rfl
      case measure => simp [intOf]
    · go_wp2_with fail
      refine hr.out.mono ?_; rintro e w1 ⟨rfl, hb⟩
      go_wp2
      go_ret3
      exact ⟨rfl, hb⟩

end Go.Proofs.YtmhcmlegdoapdaaDoor
