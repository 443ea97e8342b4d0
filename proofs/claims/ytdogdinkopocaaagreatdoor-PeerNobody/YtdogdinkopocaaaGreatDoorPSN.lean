/- PeerNobody: the law walked. -/
import Derived.Test.YtdogdinkopocaaaGreatDoorPR
namespace Go.Proofs.YtdogdinkopocaaaGreatDoor
open Go.RowKit Go.Maps

theorem ps_info : (Tryz.prog.info? 54).map (·.size) = some 9 := by kernel_rfl
theorem ret_ps {fn : Func} {p : Tmp} (hf : fn.results = #[.cell p 54]) {Q : Ending → World → Prop} {tmps : Array Value} {w : World} {b : Nat} {cs : Array Value} (hs : cs.size = 9)
    (hp : tmps.getD p undef = .pointer (some ⟨b, 0, none⟩)) (I : IsB w b cs 54) (hQ : Q (.returned (.agg cs)) w) :
    bodyPost Tryz.prog fn Q .ret ⟨tmps, []⟩ w :=
  bodyPost_ret (results_cell_row hf tmps w b 54 cs (0, 0) _ hp I Tryz.underlying54 rfl (by rw [hs]; exact ps_info)) rfl hQ
theorem ret_ant {fn : Func} {p u : Tmp} (hf : fn.results = #[.cell p 61, .tmp u]) {Q : Ending → World → Prop} {tmps : Array Value} {w : World} {b : Nat} {cs : Array Value} {v : Value} (hs : cs.size = 13)
    (hp : tmps.getD p undef = .pointer (some ⟨b, 0, none⟩)) (hu : tmps.getD u undef = v) (I : IsB w b cs 61) (hQ : Q (.returned (.tuple #[.agg cs, v])) w) :
    bodyPost Tryz.prog fn Q .ret ⟨tmps, []⟩ w := by
  refine bodyPost_ret ?_ rfl hQ
  rw [results_cell_tmp hf, hp, hu]
  have h := run_loadVar_row (P := Tryz.prog) w b 61 61 cs (0, 0) _ I Tryz.underlying61 rfl (by rw [hs]; exact an_info)
  simp [asAddr, h, Result.andThen]

set_option maxHeartbeats 2000000 in
set_option maxRecDepth 100000 in
theorem pask_no (p : Value) (t : Int) (k x y r0 r1 r2 r3 r4 s0 s1 s2 s3 s4 a o : Int) (w : World) (h : NoPeer w p) : Calls Tryz.prog 10 #[p, .int .i64 t, .agg #[.int .i64 k, .int .i64 x, .int .u64 y, .int .i64 r0, .int .i64 r1, .int .u64 r2, .int .i64 r3, .int .u64 r4, .int .i64 s0, .int .i64 s1, .int .u64 s2, .int .i64 s3, .int .u64 s4, .int .i64 a, .int .i64 o]] w fun e w' => e = .returned (.tuple #[.slice none 0 0, .int .i64 4]) ∧ Below w.heap.size w w' := by
  have N := hide (h.alloc (.cells #[.int .i64 k, .int .i64 x, .int .u64 y, .int .i64 r0, .int .i64 r1, .int .u64 r2, .int .i64 r3, .int .u64 r4, .int .i64 s0, .int .i64 s1, .int .u64 s2, .int .i64 s3, .int .u64 s4, .int .i64 a, .int .i64 o] 47))
  go_enter Tryz.func10, Tryz.ntmps10
  go_wp2_with fail
  refine (pmade_no p _ N.out).mono ?_; intro e w2 hE; obtain ⟨rfl, hw2⟩ := hE
  rw [hw2]
  clear hw2
  go_wp2
  go_ret2
  exact ⟨rfl, (Below.refl _ w).alloc (Nat.le_refl _) _⟩

set_option maxHeartbeats 2000000 in
set_option maxRecDepth 100000 in
theorem will_no (p : Value) (vx vy : Int) (w : World) (h : NoPeer w p) : Calls Tryz.prog 19 #[p, .agg #[.int .i64 vx, .int .u64 vy]] w fun e w' => e = .returned (.tuple #[.agg #[.int .i64 0, .bool false, .int .i64 0, .int .i64 0, .int .u64 0, .int .i64 0, .int .u64 0, .int .i64 0, .int .i64 0, .int .u64 0, .int .i64 0, .int .u64 0, .slice none 0 0], .int .i64 4]) ∧ Below w.heap.size w w' := by
  have N := hide ((h.alloc (.cells #[.int .i64 vx, .int .u64 vy] 27)).alloc (.cells #[.int .i64 0, .bool false, .int .i64 0, .int .i64 0, .int .u64 0, .int .i64 0, .int .u64 0, .int .i64 0, .int .i64 0, .int .u64 0, .int .i64 0, .int .u64 0, .slice none 0 0] 61))
  go_enter Tryz.func19, Tryz.ntmps19
  go_wp2_with fail
  refine (pmade_no p _ N.out).mono ?_; intro e w2 hE; obtain ⟨rfl, hw2⟩ := hE
  rw [hw2]
  clear hw2
  go_wp2
  have I := IsB.new (w.alloc (.cells #[.int .i64 vx, .int .u64 vy] 27)) #[.int .i64 0, .bool false, .int .i64 0, .int .i64 0, .int .u64 0, .int .i64 0, .int .u64 0, .int .i64 0, .int .i64 0, .int .u64 0, .int .i64 0, .int .u64 0, .slice none 0 0] 61
  rw [World.size_alloc] at I
  refine ret_ant (p := 4) (u := 5) (b := w.heap.size + 1) Tryz.results19 rfl rfl rfl I ?_
  exact ⟨rfl, ((Below.refl _ w).alloc (Nat.le_refl _) _).alloc (by simp) _⟩

set_option maxHeartbeats 2000000 in
set_option maxRecDepth 100000 in
theorem popen_no (p : Value) (w : World) (h : NoPeer w p) : Calls Tryz.prog 17 #[p] w fun e w' => e = .returned (.slice none 0 0) ∧ w' = w := by
  have N := hide h
  go_enter Tryz.func17, Tryz.ntmps17
  go_wp2_with fail
  refine (pmade_no p _ N.out).mono ?_; intro e w2 hE; obtain ⟨rfl, hw2⟩ := hE
  rw [hw2]
  clear hw2
  go_wp2
  go_ret
  exact ⟨rfl, rfl⟩

set_option maxHeartbeats 2000000 in
set_option maxRecDepth 100000 in
theorem pstate_no (p : Value) (w : World) (h : NoPeer w p) : Calls Tryz.prog 14 #[p] w fun e w' => e = .returned (.agg #[.int .i64 0, .int .i64 0, .int .u64 0, .int .i64 0, .int .u64 0, .slice none 0 0, .bool false, .bool false, .slice none 0 0]) ∧ Below w.heap.size w w' := by
  have N := hide (h.alloc (.cells #[.int .i64 0, .int .i64 0, .int .u64 0, .int .i64 0, .int .u64 0, .slice none 0 0, .bool false, .bool false, .slice none 0 0] 54))
  go_enter Tryz.func14, Tryz.ntmps14
  go_wp2_with fail
  refine (pmade_no p _ N.out).mono ?_; intro e w2 hE; obtain ⟨rfl, hw2⟩ := hE
  rw [hw2]
  clear hw2
  go_wp2
  refine ret_ps (p := 2) (b := w.heap.size) Tryz.results14 rfl rfl (IsB.new w #[.int .i64 0, .int .i64 0, .int .u64 0, .int .i64 0, .int .u64 0, .slice none 0 0, .bool false, .bool false, .slice none 0 0] 54) ?_
  exact ⟨rfl, (Below.refl _ w).alloc (Nat.le_refl _) _⟩

set_option maxHeartbeats 8000000 in
set_option maxRecDepth 100000 in
theorem sameAns0 (w : World) : Calls Tryz.prog 21 #[.agg #[.int .i64 0, .bool false, .int .i64 0, .int .i64 0, .int .u64 0, .int .i64 0, .int .u64 0, .int .i64 0, .int .i64 0, .int .u64 0, .int .i64 0, .int .u64 0, .slice none 0 0], .agg #[.int .i64 0, .bool false, .int .i64 0, .int .i64 0, .int .u64 0, .int .i64 0, .int .u64 0, .int .i64 0, .int .i64 0, .int .u64 0, .int .i64 0, .int .u64 0, .slice none 0 0]] w fun e w' => e = .returned (.bool true) ∧ Below w.heap.size w w' := by
  have hc := conv_nil
  have heq : ∀ w, (binOp .eql 29 (.agg #[.int .i64 0, .int .i64 0, .int .u64 0, .int .i64 0, .int .u64 0]) (.agg #[.int .i64 0, .int .i64 0, .int .u64 0, .int .i64 0, .int .u64 0])).run Tryz.prog w = .ok (.bool true) w := fun w => eqr _ _ _ _ _ _ _ _ _ _ w
  go_enter Tryz.func21, Tryz.ntmps21
  go_wp2
  go_ret
  exact ⟨rfl, ((Below.refl _ w).alloc (Nat.le_refl _) _).alloc (by simp) _⟩

set_option maxHeartbeats 8000000 in
set_option maxRecDepth 100000 in
theorem sameSt0 (w : World) : Calls Tryz.prog 13 #[.agg #[.int .i64 0, .int .i64 0, .int .u64 0, .int .i64 0, .int .u64 0, .slice none 0 0, .bool false, .bool false, .slice none 0 0], .agg #[.int .i64 0, .int .i64 0, .int .u64 0, .int .i64 0, .int .u64 0, .slice none 0 0, .bool false, .bool false, .slice none 0 0]] w fun e w' => e = .returned (.bool true) ∧ Below w.heap.size w w' := by
  have hc := conv_nil
  have hne : ∀ w, (binOp .neq 29 (.agg #[.int .i64 0, .int .i64 0, .int .u64 0, .int .i64 0, .int .u64 0]) (.agg #[.int .i64 0, .int .i64 0, .int .u64 0, .int .i64 0, .int .u64 0])).run Tryz.prog w = .ok (.bool false) w := fun w => ner _ _ _ _ _ _ _ _ _ _ w
  go_enter Tryz.func13, Tryz.ntmps13
  go_wp2
  go_loopw [5] (fun i wr => i = .int .i64 0 ∧ wr = (w.alloc (.cells #[.int .i64 0, .int .i64 0, .int .u64 0, .int .i64 0, .int .u64 0, .slice none 0 0, .bool false, .bool false, .slice none 0 0] 54)).alloc (.cells #[.int .i64 0, .int .i64 0, .int .u64 0, .int .i64 0, .int .u64 0, .slice none 0 0, .bool false, .bool false, .slice none 0 0] 54)) (fun _ _ => 0)
  case atStart => exact ⟨rfl, rfl⟩
  case round =>
    obtain ⟨rfl, rfl⟩ := hrel
    go_wp2
    go_ret
    exact ⟨rfl, ((Below.refl _ w).alloc (Nat.le_refl _) _).alloc (by simp) _⟩

set_option maxHeartbeats 16000000 in
set_option maxRecDepth 100000 in
theorem peerNobody_walk (k x y r0 r1 r2 r3 r4 s0 s1 s2 s3 s4 a o : Int) (vx vy : Int) (w : World) (hR : Ranks w) : Calls Tryz.prog 7 #[.agg #[.int .i64 k, .int .i64 x, .int .u64 y, .int .i64 r0, .int .i64 r1, .int .u64 r2, .int .i64 r3, .int .u64 r4, .int .i64 s0, .int .i64 s1, .int .u64 s2, .int .i64 s3, .int .u64 s4, .int .i64 a, .int .i64 o], .agg #[.int .i64 vx, .int .u64 vy]] w fun e w' => e = .returned (.bool true) ∧ Below w.heap.size w w' := by
  have b0 : Below w.heap.size w ((((w.alloc (.cells #[.int .i64 k, .int .i64 x, .int .u64 y, .int .i64 r0, .int .i64 r1, .int .u64 r2, .int .i64 r3, .int .u64 r4, .int .i64 s0, .int .i64 s1, .int .u64 s2, .int .i64 s3, .int .u64 s4, .int .i64 a, .int .i64 o] 47)).alloc (.cells #[.int .i64 vx, .int .u64 vy] 27)).alloc (.cells #[.int .i64 0, .int .i64 0, .int .u64 0, .int .i64 0, .int .u64 0, .slice none 0 0, .bool false, .bool false, .pointer none, .map none, .slice none 0 0, .int .i64 0] 87)).alloc (.cells #[.pointer none, .pointer (some ⟨w.heap.size + 1 + 1, 0, none⟩)] 34)) := ((((Below.refl _ w).alloc (Nat.le_refl _) _).alloc (by simp) _).alloc (by simp; omega) _).alloc (by simp; omega) _
  have O0 := (((IsB.new w #[.int .i64 k, .int .i64 x, .int .u64 y, .int .i64 r0, .int .i64 r1, .int .u64 r2, .int .i64 r3, .int .u64 r4, .int .i64 s0, .int .i64 s1, .int .u64 s2, .int .i64 s3, .int .u64 s4, .int .i64 a, .int .i64 o] 47).alloc (.cells #[.int .i64 vx, .int .u64 vy] 27)).alloc (.cells #[.int .i64 0, .int .i64 0, .int .u64 0, .int .i64 0, .int .u64 0, .slice none 0 0, .bool false, .bool false, .pointer none, .map none, .slice none 0 0, .int .i64 0] 87)).alloc (.cells #[.pointer none, .pointer (some ⟨w.heap.size + 1 + 1, 0, none⟩)] 34)
  have V0 := ((IsB.new (w.alloc (.cells #[.int .i64 k, .int .i64 x, .int .u64 y, .int .i64 r0, .int .i64 r1, .int .u64 r2, .int .i64 r3, .int .u64 r4, .int .i64 s0, .int .i64 s1, .int .u64 s2, .int .i64 s3, .int .u64 s4, .int .i64 a, .int .i64 o] 47)) #[.int .i64 vx, .int .u64 vy] 27).alloc (.cells #[.int .i64 0, .int .i64 0, .int .u64 0, .int .i64 0, .int .u64 0, .slice none 0 0, .bool false, .bool false, .pointer none, .map none, .slice none 0 0, .int .i64 0] 87)).alloc (.cells #[.pointer none, .pointer (some ⟨w.heap.size + 1 + 1, 0, none⟩)] 34)
  have Z0 := (IsB.new ((w.alloc (.cells #[.int .i64 k, .int .i64 x, .int .u64 y, .int .i64 r0, .int .i64 r1, .int .u64 r2, .int .i64 r3, .int .u64 r4, .int .i64 s0, .int .i64 s1, .int .u64 s2, .int .i64 s3, .int .u64 s4, .int .i64 a, .int .i64 o] 47)).alloc (.cells #[.int .i64 vx, .int .u64 vy] 27)) #[.int .i64 0, .int .i64 0, .int .u64 0, .int .i64 0, .int .u64 0, .slice none 0 0, .bool false, .bool false, .pointer none, .map none, .slice none 0 0, .int .i64 0] 87).alloc (.cells #[.pointer none, .pointer (some ⟨w.heap.size + 1 + 1, 0, none⟩)] 34)
  have L0 := IsB.new (((w.alloc (.cells #[.int .i64 k, .int .i64 x, .int .u64 y, .int .i64 r0, .int .i64 r1, .int .u64 r2, .int .i64 r3, .int .u64 r4, .int .i64 s0, .int .i64 s1, .int .u64 s2, .int .i64 s3, .int .u64 s4, .int .i64 a, .int .i64 o] 47)).alloc (.cells #[.int .i64 vx, .int .u64 vy] 27)).alloc (.cells #[.int .i64 0, .int .i64 0, .int .u64 0, .int .i64 0, .int .u64 0, .slice none 0 0, .bool false, .bool false, .pointer none, .map none, .slice none 0 0, .int .i64 0] 87)) #[.pointer none, .pointer (some ⟨w.heap.size + 1 + 1, 0, none⟩)] 34
  simp only [World.size_alloc] at O0 V0 Z0 L0
  have O := hide O0
  have V := hide V0
  have Z := hide Z0
  have L := hide L0
  have B := hide b0
  have HR := hide (hR.below b0)
  clear O0 V0 Z0 L0 b0 hR
  go_enter Tryz.func7, Tryz.ntmps7
  go_wp2
  generalize (((w.alloc (.cells #[.int .i64 k, .int .i64 x, .int .u64 y, .int .i64 r0, .int .i64 r1, .int .u64 r2, .int .i64 r3, .int .u64 r4, .int .i64 s0, .int .i64 s1, .int .u64 s2, .int .i64 s3, .int .u64 s4, .int .i64 a, .int .i64 o] 47)).alloc (.cells #[.int .i64 vx, .int .u64 vy] 27)).alloc (.cells #[.int .i64 0, .int .i64 0, .int .u64 0, .int .i64 0, .int .u64 0, .slice none 0 0, .bool false, .bool false, .pointer none, .map none, .slice none 0 0, .int .i64 0] 87)).alloc (.cells #[.pointer none, .pointer (some ⟨w.heap.size + 1 + 1, 0, none⟩)] 34) = W0 at O V Z L B HR ⊢
  generalize hH : w.heap.size = H at O V Z L ⊢
  replace hH := hide hH
  generalize hA0 : Value.agg #[.int .i64 k, .int .i64 x, .int .u64 y, .int .i64 r0, .int .i64 r1, .int .u64 r2, .int .i64 r3, .int .u64 r4, .int .i64 s0, .int .i64 s1, .int .u64 s2, .int .i64 s3, .int .u64 s4, .int .i64 a, .int .i64 o] = A0
  replace hA0 := hide hA0
  go_loopw [17] (fun i wr => ∃ j : Nat, j ≤ 2 ∧ i = .int .i64 (j : Int) ∧ Below W0.heap.size W0 wr) (fun i _ => 2 - (intOf i).toNat)
  case atStart => exact ⟨0, by omega, rfl, Below.refl _ _⟩
  case round =>
    obtain ⟨j, hj, rfl, hb⟩ := hrel
    have HB := hide hb
    clear hb
    by_cases hlt : j < 2
    · obtain ⟨p, hp, hNo⟩ : ∃ p, wr.cell? ⟨H + 1 + 1 + 1, j, none⟩ = some p ∧ NoPeer wr p := by
        have hL1 := L.out.below HB.out
        have : j = 0 ∨ j = 1 := by omega
        rcases this with rfl | rfl
        · exact ⟨_, hL1.cell 0, Or.inl rfl⟩
        · exact ⟨_, hL1.cell 1, Or.inr ⟨H + 1 + 1, rfl, Z.out.below HB.out⟩⟩
      have N := hide hNo
      clear hNo
      have ld := hide (load_ask (O.out.below HB.out) rfl)
      go_wp2_with (first | ((with_reducible refine wpList_load_w ?hw 47 (.tmp 2) ?ho ?hx ld.out ?h); (case ho => rfl); (case hw => rfl); (case hx => rfl)))
      clear ld
      refine (pask_no p 1 k x y r0 r1 r2 r3 r4 s0 s1 s2 s3 s4 a o _ N.out).mono ?_; rintro e w2 ⟨rfl, b2⟩
      replace N := hide (N.out.below b2)
      replace HB := hide (HB.out.trans (b2.mono HB.out.size))
      clear b2
      have v0 : w2.cell? ⟨H + 1, 0, none⟩ = some (.int .i64 vx) := (V.out.below HB.out).cell 0
      have v1 : w2.cell? ⟨H + 1, 1, none⟩ = some (.int .u64 vy) := (V.out.below HB.out).cell 1
      go_wp2_with fail
      clear v0 v1
      refine (will_no p vx vy _ N.out).mono ?_; rintro e w3 ⟨rfl, b3⟩
      replace N := hide (N.out.below b3)
      replace HB := hide (HB.out.trans (b3.mono HB.out.size))
      clear b3
      go_wp2_with fail
      have b4 := (Below.refl w3.heap.size w3).alloc (Nat.le_refl _) (.cells #[.int .i64 0, .bool false, .int .i64 0, .int .i64 0, .int .u64 0, .int .i64 0, .int .u64 0, .int .i64 0, .int .i64 0, .int .u64 0, .int .i64 0, .int .u64 0, .slice none 0 0] 61)
      have AN := hide (IsB.new w3 #[.int .i64 0, .bool false, .int .i64 0, .int .i64 0, .int .u64 0, .int .i64 0, .int .u64 0, .int .i64 0, .int .i64 0, .int .u64 0, .int .i64 0, .int .u64 0, .slice none 0 0] 61)
      replace N := hide (N.out.below b4)
      replace HB := hide (HB.out.trans (b4.mono HB.out.size))
      clear b4
      generalize w3.alloc (.cells #[.int .i64 0, .bool false, .int .i64 0, .int .i64 0, .int .u64 0, .int .i64 0, .int .u64 0, .int .i64 0, .int .i64 0, .int .u64 0, .int .i64 0, .int .u64 0, .slice none 0 0] 61) = W4 at AN N HB ⊢
      generalize w3.heap.size = ab at AN ⊢
      refine (popen_no p _ N.out).mono ?_; intro e w5 hE; obtain ⟨rfl, hw5⟩ := hE
      rw [hw5]
      clear hw5 w5
      have ld := hide (load_an AN.out rfl)
      go_wp2_with (first | ((with_reducible refine wpList_load_w ?hw 61 (.tmp 10) ?ho ?hx ld.out ?h); (case ho => rfl); (case hw => rfl); (case hx => rfl)))
      clear ld
      refine (sameAns0 _).mono ?_; rintro e w6 ⟨rfl, b6⟩
      replace N := hide (N.out.below b6)
      replace HB := hide (HB.out.trans (b6.mono HB.out.size))
      clear b6 AN
      go_wp2_with fail
      refine (pstate_no p _ N.out).mono ?_; rintro e w7 ⟨rfl, b7⟩
      replace N := hide (N.out.below b7)
      replace HB := hide (HB.out.trans (b7.mono HB.out.size))
      clear b7
      go_wp2_with fail
      refine (sameSt0 _).mono ?_; rintro e w8 ⟨rfl, b8⟩
      replace HB := hide (HB.out.trans (b8.mono HB.out.size))
      clear b8 N
      go_wp2
      exact ⟨⟨j + 1, by omega, by simp, HB.out⟩, by simp [intOf]; omega⟩
    · obtain rfl : j = 2 := by omega
      go_wp2_with fail
      refine (alive_any _ (HR.out.below HB.out)).mono ?_; rintro e w9 ⟨rfl, b9⟩
      go_wp2
      go_ret
      exact ⟨rfl, B.out.trans ((HB.out.trans (b9.mono HB.out.size)).mono B.out.size)⟩

end Go.Proofs.YtdogdinkopocaaaGreatDoor
