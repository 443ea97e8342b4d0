/- alive: a peer that is locked by one, asked for by another one, freed. -/
import Derived.Test.YtdogdinkopocaaaDoorPQ
import Derived.Lib.SlBytesConst
namespace Go.Proofs.YtdogdinkopocaaaDoor
open Go.RowKit Go.Maps

theorem pput (base lp lm : Nat) (W : World) (hL : LK W base lp lm (2, 2, 5, 3, 5) []) (hB : base ≤ W.heap.size) (hR : Ranks W) : Calls Tryd.prog 37 #[.pointer (some ⟨lp, 0, none⟩), .agg #[.int .i64 0, .int .u64 0], .agg #[.int .i64 0, .int .i64 1, .int .u64 0, .int .i64 3, .int .u64 0], .agg #[.int .i64 1, .int .i64 3, .int .u64 0, .int .i64 3, .int .u64 0], .agg #[.int .i64 0, .int .i64 1]] W fun e w' => e = .returned (.int .i64 0) ∧ ∃ L', findC (2, 2, 5, 3, 5) L' (0, 0) = some ([(0, 1)], (0, 1, 0, 3, 0), (1, 3, 0, 3, 0)) ∧ KX W w' base lp lm (2, 2, 5, 3, 5) [] L' := by
  refine (put_ok base lp lm (2, 2, 5, 3, 5) [] W hL hB 0 0 ⟨rfl, rfl⟩ (by show (0 : Int) ≤ 5; decide) (by decide) 0 1 0 3 0 1 3 0 3 0 0 1 hR rfl (by decide) (by simp) (by decide) (by decide) (by decide)).mono ?_
  rintro e w' ⟨rfl, c, hcn, X⟩
  have F6 := findC_keep_same (L := []) (v := (0, 0)) (c := c) (Or.inl (rfl : ((2, 2, 5, 3, 5) : Rf).2.1 = 2))
  rw [hcn] at F6
  exact ⟨rfl, _, F6, X⟩
theorem plock (base lp lm : Nat) (L : Tb) (hF : findC (2, 2, 5, 3, 5) L (0, 0) = some ([(0, 1)], (0, 1, 0, 3, 0), (1, 3, 0, 3, 0))) (W : World) (hL : LK W base lp lm (2, 2, 5, 3, 5) L) (hB : base ≤ W.heap.size) : Calls Tryd.prog 47 #[.pointer (some ⟨lp, 0, none⟩), .agg #[.int .i64 0, .int .u64 0], .agg #[.int .i64 0, .int .i64 2]] W fun e w' => e = .returned (.tuple #[.bool false, .int .i64 0]) ∧ ∃ L', findC (2, 2, 5, 3, 5) L' (0, 0) = some ([(0, 1), (0, 2)], (0, 1, 0, 3, 0), (1, 3, 0, 3, 0)) ∧ KX W w' base lp lm (2, 2, 5, 3, 5) L L' := by
  refine (lock_ok base lp lm (2, 2, 5, 3, 5) L W hL hB 0 0 ⟨rfl, rfl⟩ (by show (0 : Int) ≤ 5; decide) (by decide) 0 2 _ hF false [(0, 1), (0, 2)] (by decide)).mono ?_
  rintro e w' ⟨rfl, c, hcn, X⟩
  have F6 := findC_keep_same (L := L) (v := (0, 0)) (c := c) (Or.inl (rfl : ((2, 2, 5, 3, 5) : Rf).2.1 = 2))
  rw [hcn] at F6
  exact ⟨rfl, _, F6, X⟩
theorem pfree (base lp lm : Nat) (L : Tb) (hF : findC (2, 2, 5, 3, 5) L (0, 0) = some ([(0, 1), (0, 2)], (0, 1, 0, 3, 0), (1, 3, 0, 3, 0))) (W : World) (hL : LK W base lp lm (2, 2, 5, 3, 5) L) (hB : base ≤ W.heap.size) : Calls Tryd.prog 49 #[.pointer (some ⟨lp, 0, none⟩), .agg #[.int .i64 0, .int .u64 0], .agg #[.int .i64 0, .int .i64 1]] W fun e w' => e = .returned (.tuple #[.agg #[.int .i64 0, .int .i64 2], .bool true, .int .i64 0]) ∧ ∃ L', findC (2, 2, 5, 3, 5) L' (0, 0) = some ([(0, 2)], (0, 1, 0, 3, 0), (1, 3, 0, 3, 0)) ∧ (∀ d ∈ L', ∀ k, d.2.v.ownBlock = some k → (∃ c ∈ L, c.2.v.ownBlock = some k) ∨ W.heap.size ≤ k) ∧ KX W w' base lp lm (2, 2, 5, 3, 5) L L' := by
  refine (lfree_okr base lp lm (2, 2, 5, 3, 5) L W hL hB 0 0 ⟨rfl, rfl⟩ (by show (0 : Int) ≤ 5; decide) (by decide) 0 1 _ hF 0 2 true [(0, 2)] (by decide)).mono ?_
  rintro e w' ⟨rfl, c, hcn, hrow, X⟩
  have F6 := findC_keep_same (L := L) (v := (0, 0)) (c := c) (Or.inl (rfl : ((2, 2, 5, 3, 5) : Rf).2.1 = 2))
  rw [hcn] at F6
  refine ⟨rfl, _, F6, fun d hd k hk => ?_, X⟩
  rcases keepT_mem hd with g | g
  · exact Or.inl ⟨d, g, hk⟩
  · rw [g] at hk
    exact hrow k hk

set_option maxHeartbeats 4000000 in
set_option maxRecDepth 100000 in
theorem pask7 (base p lp lm km : Nat) (va : Option Addr) (vc : Nat) (w : World) (X : PAt w base p lp lm km va vc none 0 ⟨(2, 2, 5, 3, 5), [118], false, false, [], [], [], 0⟩) (hB : base ≤ w.heap.size) (hR : Ranks w) : Calls Tryd.prog 15 #[.pointer (some ⟨p, 0, none⟩), .int .i64 7, .agg #[.int .i64 7, .int .i64 0, .int .u64 0, .int .i64 0, .int .i64 1, .int .u64 0, .int .i64 3, .int .u64 0, .int .i64 1, .int .i64 3, .int .u64 0, .int .i64 3, .int .u64 0, .int .i64 0, .int .i64 1]] w fun e w' => ∃ b, e = .returned (.tuple #[.slice (some ⟨b, 0, none⟩) 1 1, .int .i64 0]) ∧ IsB w' b #[.int .i64 7, .int .i64 1, .bool false, .int .i64 0, .int .i64 0, .int .u64 0, .int .i64 0, .int .u64 0, .int .i64 0, .int .i64 0, .int .u64 0, .int .i64 0, .int .u64 0, .slice none 0 0] 63 ∧ ∃ L', findC (2, 2, 5, 3, 5) L' (0, 0) = some ([(0, 1)], (0, 1, 0, 3, 0), (1, 3, 0, 3, 0)) ∧ PAt w' base p lp lm km va vc none 0 ⟨(2, 2, 5, 3, 5), [118], false, false, L', [], [], 0⟩ ∧ Kpt km lm w w' ∧ Below base w w' := by
  have hck : ∀ W : World, Below w.heap.size w W → Calls Tryd.prog 19 #[.agg #[.int .i64 7, .int .i64 0, .int .u64 0, .int .i64 0, .int .i64 1, .int .u64 0, .int .i64 3, .int .u64 0, .int .i64 1, .int .i64 3, .int .u64 0, .int .i64 3, .int .u64 0, .int .i64 0, .int .i64 1]] W fun e w' => e = .returned (.int .i64 0) ∧ Below W.heap.size W w' := fun W hW => by
    refine (ack_7 7 0 0 0 1 0 3 0 1 3 0 3 0 0 1 rfl (by decide) (by decide) (by decide) W (hR.below hW)).mono ?_
    rintro e w' ⟨rfl, hb⟩
    exact ⟨rfl, hb⟩
  refine (pask_ok base p lp lm km va vc none 0 _ w X 7 7 0 0 0 1 0 3 0 1 3 0 3 0 0 1 hck (fun v w' => ∃ b, v = .slice (some ⟨b, 0, none⟩) 1 1 ∧ IsB w' b #[.int .i64 7, .int .i64 1, .bool false, .int .i64 0, .int .i64 0, .int .u64 0, .int .i64 0, .int .u64 0, .int .i64 0, .int .i64 0, .int .u64 0, .int .i64 0, .int .u64 0, .slice none 0 0] 63 ∧ ∃ L', findC (2, 2, 5, 3, 5) L' (0, 0) = some ([(0, 1)], (0, 1, 0, 3, 0), (1, 3, 0, 3, 0)) ∧ PAt w' base p lp lm km va vc none 0 ⟨(2, 2, 5, 3, 5), [118], false, false, L', [], [], 0⟩ ∧ Kpt km lm w w' ∧ Below base w w') ?_).mono ?_
  · intro W hW
    refine (answer_rec base p lp lm km va vc none 0 _ W (X.below hW) (Nat.le_trans hB hW.size) 7 0 0 0 1 0 3 0 1 3 0 3 0 0 1 (hR.below hW) (fun L' => findC (2, 2, 5, 3, 5) L' (0, 0) = some ([(0, 1)], (0, 1, 0, 3, 0), (1, 3, 0, 3, 0))) (fun W2 h1 h2 h3 => pput base lp lm W2 h1 h2 h3)).mono ?_
    rintro e w' ⟨v, rfl, b, rfl, hI, L', hLok, hX, hK, hB2⟩
    exact ⟨_, rfl, b, rfl, hI, L', hLok, hX, (Kpt.of_below hW).trans hK, (hW.mono hB).trans hB2⟩
  · rintro e w' ⟨v, rfl, b, rfl, hI, L', hLok, hX, hK, hB2⟩
    exact ⟨b, rfl, hI, L', hLok, hX, hK, hB2⟩

set_option maxHeartbeats 4000000 in
set_option maxRecDepth 100000 in
theorem pask8 (base p lp lm km : Nat) (va : Option Addr) (vc : Nat) (w : World) (L : Tb) (hF : findC (2, 2, 5, 3, 5) L (0, 0) = some ([(0, 1)], (0, 1, 0, 3, 0), (1, 3, 0, 3, 0))) (X : PAt w base p lp lm km va vc none 0 ⟨(2, 2, 5, 3, 5), [118], false, false, L, [], [], 0⟩) (hB : base ≤ w.heap.size) (hR : Ranks w) : Calls Tryd.prog 15 #[.pointer (some ⟨p, 0, none⟩), .int .i64 8, .agg #[.int .i64 3, .int .i64 0, .int .u64 0, .int .i64 0, .int .i64 0, .int .u64 0, .int .i64 0, .int .u64 0, .int .i64 0, .int .i64 0, .int .u64 0, .int .i64 0, .int .u64 0, .int .i64 0, .int .i64 2]] w fun e w' => e = .returned (.tuple #[.slice none 0 0, .int .i64 0]) ∧ ∃ L', findC (2, 2, 5, 3, 5) L' (0, 0) = some ([(0, 1), (0, 2)], (0, 1, 0, 3, 0), (1, 3, 0, 3, 0)) ∧ PAt w' base p lp lm km va vc none 0 ⟨(2, 2, 5, 3, 5), [118], false, false, L', [((0, 0, 0, 2), (1, 8))], [], 1⟩ ∧ Kpt km lm w w' ∧ Below base w w' := by
  have hck : ∀ W : World, Below w.heap.size w W → Calls Tryd.prog 19 #[.agg #[.int .i64 3, .int .i64 0, .int .u64 0, .int .i64 0, .int .i64 0, .int .u64 0, .int .i64 0, .int .u64 0, .int .i64 0, .int .i64 0, .int .u64 0, .int .i64 0, .int .u64 0, .int .i64 0, .int .i64 2]] W fun e w' => e = .returned (.int .i64 0) ∧ Below W.heap.size W w' := fun W hW => by
    refine (ack_3 3 0 0 0 0 0 0 0 0 0 0 0 0 0 2 (Or.inl rfl) (by decide) W (hR.below hW)).mono ?_
    rintro e w' ⟨rfl, hb⟩
    exact ⟨rfl, hb⟩
  refine (pask_ok base p lp lm km va vc none 0 _ w X 8 3 0 0 0 0 0 0 0 0 0 0 0 0 0 2 hck (fun v w' => v = .slice none 0 0 ∧ ∃ L', findC (2, 2, 5, 3, 5) L' (0, 0) = some ([(0, 1), (0, 2)], (0, 1, 0, 3, 0), (1, 3, 0, 3, 0)) ∧ PAt w' base p lp lm km va vc none 0 ⟨(2, 2, 5, 3, 5), [118], false, false, L', [((0, 0, 0, 2), (1, 8))], [], 1⟩ ∧ Kpt km lm w w' ∧ Below base w w') ?_).mono ?_
  · intro W hW
    refine answer_lock _ 8 0 0 0 0 0 0 0 0 0 0 0 0 0 2 W _ (fun W3 hW3 => ?_)
    have hW4 := hW.trans (hW3.mono hW.size)
    refine (plock_wait base p lp lm km va vc none 0 _ W3 (X.below hW4) (Nat.le_trans hB hW4.size) 8 3 0 0 0 0 0 0 0 0 0 0 0 0 0 2 ⟨rfl, rfl, rfl, rfl⟩ (fun L' => findC (2, 2, 5, 3, 5) L' (0, 0) = some ([(0, 1), (0, 2)], (0, 1, 0, 3, 0), (1, 3, 0, 3, 0))) (fun W2 h1 h2 => plock base lp lm L hF W2 h1 h2) (by simp) (by show (0 : Int) ≤ 0; decide) (by show (0 : Int) < 4611686018427387904; decide)).mono ?_
    rintro e w' ⟨rfl, L', hLok, hX, hK, hB2⟩
    exact ⟨_, rfl, rfl, L', hLok, hX, (Kpt.of_below hW4).trans hK, (hW4.mono hB).trans hB2⟩
  · rintro e w' ⟨v, rfl, rfl, L', hLok, hX, hK, hB2⟩
    exact ⟨rfl, L', hLok, hX, hK, hB2⟩

set_option maxHeartbeats 4000000 in
set_option maxRecDepth 100000 in
theorem pask9 (base p lp lm km : Nat) (va : Option Addr) (vc : Nat) (w : World) (L : Tb) (hF : findC (2, 2, 5, 3, 5) L (0, 0) = some ([(0, 1), (0, 2)], (0, 1, 0, 3, 0), (1, 3, 0, 3, 0))) (X : PAt w base p lp lm km va vc none 0 ⟨(2, 2, 5, 3, 5), [118], false, false, L, [((0, 0, 0, 2), (1, 8))], [], 1⟩) (hB : base ≤ w.heap.size) (hR : Ranks w) : Calls Tryd.prog 15 #[.pointer (some ⟨p, 0, none⟩), .int .i64 9, .agg #[.int .i64 4, .int .i64 0, .int .u64 0, .int .i64 0, .int .i64 0, .int .u64 0, .int .i64 0, .int .u64 0, .int .i64 0, .int .i64 0, .int .u64 0, .int .i64 0, .int .u64 0, .int .i64 0, .int .i64 1]] w fun e w' => ∃ g cap, e = .returned (.tuple #[.slice (some ⟨g, 0, none⟩) 2 cap, .int .i64 0]) ∧ w'.cell? ⟨g, 14, none⟩ = some (.int .i64 8) ∧ w'.cell? ⟨g, 22, none⟩ = some (.int .i64 1) ∧ w'.cell? ⟨g, 23, none⟩ = some (.int .i64 3) ∧ w'.cell? ⟨g, 24, none⟩ = some (.int .u64 0) ∧ w'.cell? ⟨g, 25, none⟩ = some (.int .i64 3) ∧ w'.cell? ⟨g, 26, none⟩ = some (.int .u64 0) ∧ Kpt km lm w w' ∧ Below base w w' := by
  have hck : ∀ W : World, Below w.heap.size w W → Calls Tryd.prog 19 #[.agg #[.int .i64 4, .int .i64 0, .int .u64 0, .int .i64 0, .int .i64 0, .int .u64 0, .int .i64 0, .int .u64 0, .int .i64 0, .int .i64 0, .int .u64 0, .int .i64 0, .int .u64 0, .int .i64 0, .int .i64 1]] W fun e w' => e = .returned (.int .i64 0) ∧ Below W.heap.size W w' := fun W hW => by
    refine (ack_3 4 0 0 0 0 0 0 0 0 0 0 0 0 0 1 (Or.inr (Or.inl rfl)) (by decide) W (hR.below hW)).mono ?_
    rintro e w' ⟨rfl, hb⟩
    exact ⟨rfl, hb⟩
  refine (pask_ok base p lp lm km va vc none 0 _ w X 9 4 0 0 0 0 0 0 0 0 0 0 0 0 0 1 hck (fun v w' => ∃ g cap, v = .slice (some ⟨g, 0, none⟩) 2 cap ∧ w'.cell? ⟨g, 14, none⟩ = some (.int .i64 8) ∧ w'.cell? ⟨g, 22, none⟩ = some (.int .i64 1) ∧ w'.cell? ⟨g, 23, none⟩ = some (.int .i64 3) ∧ w'.cell? ⟨g, 24, none⟩ = some (.int .u64 0) ∧ w'.cell? ⟨g, 25, none⟩ = some (.int .i64 3) ∧ w'.cell? ⟨g, 26, none⟩ = some (.int .u64 0) ∧ Kpt km lm w w' ∧ Below base w w') ?_).mono ?_
  · intro W hW
    refine answer_free _ 9 0 0 0 0 0 0 0 0 0 0 0 0 0 1 W _ (fun W3 hW3 => ?_)
    have hW4 := hW.trans (hW3.mono hW.size)
    refine (pfree_next base p lp lm km va vc none 0 _ W3 (X.below hW4) (Nat.le_trans hB hW4.size) 9 4 0 0 0 0 0 0 0 0 0 0 0 0 0 1 ⟨rfl, rfl⟩ (by show (0 : Int) ≤ 5; decide) (by decide) 0 2 ⟨rfl, rfl, rfl, rfl⟩ 1 8 (by simp) (fun L' => findC (2, 2, 5, 3, 5) L' (0, 0) = some ([(0, 2)], (0, 1, 0, 3, 0), (1, 3, 0, 3, 0))) (fun L' h => ⟨_, _, _, _, _, _, _, _, _, _, _, h⟩) (fun W2 h1 h2 => pfree base lp lm L hF W2 h1 h2)).mono ?_
    rintro e w' ⟨qa, qc, rfl, L', ca, cc, os, x0, x1, x2, x3, x4, y0, y1, y2, y3, y4, hLok, hfd, hRw, hX, hK, hB2⟩
    obtain ⟨g, cap, hv, -, -, -⟩ := hRw.form (by decide)
    rw [hv] at hRw
    have hfd2 := hLok.symm.trans hfd
    simp only [Option.some.injEq, Prod.mk.injEq] at hfd2
    obtain ⟨-, -, rfl, rfl, rfl, rfl, rfl⟩ := hfd2
    exact ⟨_, rfl, g, cap, hv, hRw.cellAt 14 (by decide), hRw.cellAt 22 (by decide), hRw.cellAt 23 (by decide), hRw.cellAt 24 (by decide), hRw.cellAt 25 (by decide), hRw.cellAt 26 (by decide), (Kpt.of_below hW4).trans hK, (hW4.mono hB).trans hB2⟩
  · rintro e w' ⟨v, rfl, g, cap, rfl, h1, h2, h3, h4, h5, h6, hK, hB2⟩
    exact ⟨g, cap, rfl, h1, h2, h3, h4, h5, h6, hK, hB2⟩

set_option maxHeartbeats 16000000 in
set_option maxRecDepth 100000 in
theorem alive_any (w : World) (hR : Ranks w) : Calls Tryd.prog 9 #[] w fun e w' => e = .returned (.bool true) ∧ Below w.heap.size w w' := by
  have mixed : Tryd.prog.follows .mixedOrders = true := by kernel_rfl
  have hR := hide hR
  go_enter Tryd.func9, Tryd.ntmps9
  go_wp2_with fail
  refine (head_ok 3 (by decide) (by decide) _).mono ?_; rintro e w1 ⟨rfl, b1⟩
  have HR := hide (hR.out.below b1)
  have B := hide b1
  clear b1
  go_wp2_with fail
  have ba := (Below.refl _ w1).alloc (Nat.le_refl _) (.cells #[.int .i64 0, .int .i64 1, .int .u64 0, .int .i64 3, .int .u64 0] 29)
  have HB := hide (IsB.new w1 #[.int .i64 0, .int .i64 1, .int .u64 0, .int .i64 3, .int .u64 0] 29)
  replace HR := hide (HR.out.below ba)
  replace B := hide (B.out.trans (ba.mono B.out.size))
  clear ba
  generalize w1.alloc (.cells #[.int .i64 0, .int .i64 1, .int .u64 0, .int .i64 3, .int .u64 0] 29) = W2 at HB HR B ⊢
  generalize w1.heap.size = hb at HB ⊢
  refine (tail_ok 3 (by decide) (by decide) _).mono ?_; rintro e w3 ⟨rfl, b3⟩
  replace HB := hide (HB.out.below b3)
  replace HR := hide (HR.out.below b3)
  replace B := hide (B.out.trans (b3.mono B.out.size))
  clear b3
  have hcv := Go.Lib.run_convert_bytes_const (P := Tryd.prog) (w3.alloc (.cells #[.int .i64 1, .int .i64 3, .int .u64 0, .int .i64 3, .int .u64 0] 29)) 30 5 #[.int .u8 118] 1 1 Tryd.underlying30 Tryd.underlying5
  simp only [World.size_alloc] at hcv
  go_wp2_with fail
  clear hcv
  have ba := (Below.refl _ w3).alloc (Nat.le_refl _) (.cells #[.int .i64 1, .int .i64 3, .int .u64 0, .int .i64 3, .int .u64 0] 29)
  have TB := hide (IsB.new w3 #[.int .i64 1, .int .i64 3, .int .u64 0, .int .i64 3, .int .u64 0] 29)
  replace HB := hide (HB.out.below ba)
  replace HR := hide (HR.out.below ba)
  replace B := hide (B.out.trans (ba.mono B.out.size))
  clear ba
  have ba := (Below.refl _ (w3.alloc (.cells #[.int .i64 1, .int .i64 3, .int .u64 0, .int .i64 3, .int .u64 0] 29))).alloc (Nat.le_refl _) (.cells #[.int .u8 118] 5 (1, 2))
  replace HB := hide (HB.out.below ba)
  replace HR := hide (HR.out.below ba)
  replace TB := hide (TB.out.below ba)
  replace B := hide (B.out.trans (ba.mono B.out.size))
  clear ba
  have UB : ((w3.alloc (.cells #[.int .i64 1, .int .i64 3, .int .u64 0, .int .i64 3, .int .u64 0] 29)).alloc (.cells #[.int .u8 118] 5 (1, 2))).cell? ⟨w3.heap.size + 1, 0, none⟩ = some (.int .u8 118) := by
    have h9 := cell_of_row ((w3.alloc (.cells #[.int .i64 1, .int .i64 3, .int .u64 0, .int .i64 3, .int .u64 0] 29)).alloc (.cells #[.int .u8 118] 5 (1, 2))) (w3.alloc (.cells #[.int .i64 1, .int .i64 3, .int .u64 0, .int .i64 3, .int .u64 0] 29)).heap.size 0 #[.int .u8 118] 5 (1, 2) (heap_new _ _)
    rw [World.size_alloc] at h9
    exact h9
  generalize (w3.alloc (.cells #[.int .i64 1, .int .i64 3, .int .u64 0, .int .i64 3, .int .u64 0] 29)).alloc (.cells #[.int .u8 118] 5 (1, 2)) = W5 at HB HR TB UB B ⊢
  generalize w3.heap.size = tb at TB UB ⊢
  have hsz : w.heap.size ≤ W5.heap.size := B.out.size
  have hG5 : 0 < W5.heap.size := lt_of_cell (a := ⟨0, 0, none⟩) HR.out.1
  refine (pnew_ok 2 5 3 5 (some ⟨tb + 1, 0, none⟩) 1 [118] (by simp) (fun h => by cases h) _ (Or.inr ⟨_, rfl, fun j hj => by have : j = 0 := by simp at hj; exact hj
                                                                                                                             subst this; exact UB⟩) HR.out (by decide) (by decide) (by decide) (by decide) (by simp)).mono ?_; rintro e w6 ⟨p, lp, lm, km, va, vc, rfl, hX, b6⟩
  have X := hide hX
  replace HB := hide (HB.out.below b6)
  replace TB := hide (TB.out.below b6)
  replace HR := hide (HR.out.below b6)
  replace B := hide (B.out.trans (b6.mono B.out.size))
  have hBs : W5.heap.size ≤ w6.heap.size := b6.size
  clear b6 hX UB
  generalize W5.heap.size = base at X hBs hsz hG5 ⊢
  skip
  have bo := ((Below.refl w6.heap.size w6).alloc (Nat.le_refl _) (.cells #[.int .i64 0, .int .i64 1] 52)).alloc (by simp) (.cells #[.int .i64 0, .int .i64 2] 52)
  have AB := hide ((IsB.new w6 #[.int .i64 0, .int .i64 1] 52).alloc (.cells #[.int .i64 0, .int .i64 2] 52))
  have BB0 := IsB.new (w6.alloc (.cells #[.int .i64 0, .int .i64 1] 52)) #[.int .i64 0, .int .i64 2] 52
  simp only [World.size_alloc] at BB0
  have BB := hide BB0
  clear BB0
  replace HB := hide (HB.out.below bo)
  replace TB := hide (TB.out.below bo)
  replace HR := hide (HR.out.below bo)
  replace X := hide (X.out.below bo)
  replace B := hide (B.out.trans (bo.mono B.out.size))
  replace hBs : base ≤ ((w6.alloc (.cells #[.int .i64 0, .int .i64 1] 52)).alloc (.cells #[.int .i64 0, .int .i64 2] 52)).heap.size := Nat.le_trans hBs bo.size
  clear bo
  have h0 : ((w6.alloc (.cells #[.int .i64 0, .int .i64 1] 52)).alloc (.cells #[.int .i64 0, .int .i64 2] 52)).cell? ⟨hb, 0, none⟩ = some (.int .i64 0) := HB.out.cell 0
  have h1 : ((w6.alloc (.cells #[.int .i64 0, .int .i64 1] 52)).alloc (.cells #[.int .i64 0, .int .i64 2] 52)).cell? ⟨hb, 1, none⟩ = some (.int .i64 1) := HB.out.cell 1
  have h2 : ((w6.alloc (.cells #[.int .i64 0, .int .i64 1] 52)).alloc (.cells #[.int .i64 0, .int .i64 2] 52)).cell? ⟨hb, 2, none⟩ = some (.int .u64 0) := HB.out.cell 2
  have h3 : ((w6.alloc (.cells #[.int .i64 0, .int .i64 1] 52)).alloc (.cells #[.int .i64 0, .int .i64 2] 52)).cell? ⟨hb, 3, none⟩ = some (.int .i64 3) := HB.out.cell 3
  have h4 : ((w6.alloc (.cells #[.int .i64 0, .int .i64 1] 52)).alloc (.cells #[.int .i64 0, .int .i64 2] 52)).cell? ⟨hb, 4, none⟩ = some (.int .u64 0) := HB.out.cell 4
  have t0 : ((w6.alloc (.cells #[.int .i64 0, .int .i64 1] 52)).alloc (.cells #[.int .i64 0, .int .i64 2] 52)).cell? ⟨tb, 0, none⟩ = some (.int .i64 1) := TB.out.cell 0
  have t1 : ((w6.alloc (.cells #[.int .i64 0, .int .i64 1] 52)).alloc (.cells #[.int .i64 0, .int .i64 2] 52)).cell? ⟨tb, 1, none⟩ = some (.int .i64 3) := TB.out.cell 1
  have t2 : ((w6.alloc (.cells #[.int .i64 0, .int .i64 1] 52)).alloc (.cells #[.int .i64 0, .int .i64 2] 52)).cell? ⟨tb, 2, none⟩ = some (.int .u64 0) := TB.out.cell 2
  have t3 : ((w6.alloc (.cells #[.int .i64 0, .int .i64 1] 52)).alloc (.cells #[.int .i64 0, .int .i64 2] 52)).cell? ⟨tb, 3, none⟩ = some (.int .i64 3) := TB.out.cell 3
  have t4 : ((w6.alloc (.cells #[.int .i64 0, .int .i64 1] 52)).alloc (.cells #[.int .i64 0, .int .i64 2] 52)).cell? ⟨tb, 4, none⟩ = some (.int .u64 0) := TB.out.cell 4
  go_wp2_with fail
  clear h0 h1 h2 h3 h4 t0 t1 t2 t3 t4
  generalize (w6.alloc (.cells #[.int .i64 0, .int .i64 1] 52)).alloc (.cells #[.int .i64 0, .int .i64 2] 52) = W7 at HB TB HR X AB BB B hBs ⊢
  generalize w6.heap.size = ab at AB BB ⊢
  refine (pask7 base p lp lm km va vc _ X.out hBs HR.out).mono ?_; rintro e w8 ⟨yb, rfl, hI, L1, hF1, x8, kt, low⟩
  have Y := hide hI
  replace X := hide x8
  have hF1 := hide hF1
  replace HB := hide (kt.isB HB.out (by decide) (by decide) (by decide) (by decide))
  replace TB := hide (kt.isB TB.out (by decide) (by decide) (by decide) (by decide))
  replace AB := hide (kt.isB AB.out (by decide) (by decide) (by decide) (by decide))
  replace BB := hide (kt.isB BB.out (by decide) (by decide) (by decide) (by decide))
  replace HR := hide (HR.out.low hG5 low)
  replace B := hide (B.out.trans (low.mono hsz))
  replace hBs : base ≤ w8.heap.size := Nat.le_trans hBs low.size
  clear hI x8 kt low
  have b0 : w8.cell? ⟨ab + 1, 0, none⟩ = some (.int .i64 0) := BB.out.cell 0
  have b1 : w8.cell? ⟨ab + 1, 1, none⟩ = some (.int .i64 2) := BB.out.cell 1
  go_wp2_with fail
  clear b0 b1
  refine (pask8 base p lp lm km va vc _ L1 hF1.out X.out hBs HR.out).mono ?_; rintro e w9 ⟨rfl, L2, hF2, x9, kt, low⟩
  replace X := hide x9
  have hF2 := hide hF2
  replace HB := hide (kt.isB HB.out (by decide) (by decide) (by decide) (by decide))
  replace TB := hide (kt.isB TB.out (by decide) (by decide) (by decide) (by decide))
  replace AB := hide (kt.isB AB.out (by decide) (by decide) (by decide) (by decide))
  replace BB := hide (kt.isB BB.out (by decide) (by decide) (by decide) (by decide))
  replace Y := hide (kt.isB Y.out (by decide) (by decide) (by decide) (by decide))
  replace HR := hide (HR.out.low hG5 low)
  replace B := hide (B.out.trans (low.mono hsz))
  replace hBs : base ≤ w9.heap.size := Nat.le_trans hBs low.size
  clear x9 kt low hF1
  have a0 : w9.cell? ⟨ab, 0, none⟩ = some (.int .i64 0) := AB.out.cell 0
  have a1 : w9.cell? ⟨ab, 1, none⟩ = some (.int .i64 1) := AB.out.cell 1
  go_wp2_with fail
  clear a0 a1
  refine (pask9 base p lp lm km va vc _ L2 hF2.out X.out hBs HR.out).mono ?_; rintro e w10 ⟨g, cap, rfl, y14, y22, y23, y24, y25, y26, kt, low⟩
  replace HB := hide (kt.isB HB.out (by decide) (by decide) (by decide) (by decide))
  replace TB := hide (kt.isB TB.out (by decide) (by decide) (by decide) (by decide))
  replace AB := hide (kt.isB AB.out (by decide) (by decide) (by decide) (by decide))
  replace BB := hide (kt.isB BB.out (by decide) (by decide) (by decide) (by decide))
  replace Y := hide (kt.isB Y.out (by decide) (by decide) (by decide) (by decide))
  replace HR := hide (HR.out.low hG5 low)
  replace B := hide (B.out.trans (low.mono hsz))
  replace hBs : base ≤ w10.heap.size := Nat.le_trans hBs low.size
  clear kt low hF2 X
  go_wp2
  have heq : ∀ w, (binOp .eql 29 (.agg #[.int .i64 1, .int .i64 3, .int .u64 0, .int .i64 3, .int .u64 0]) (.agg #[.int .i64 1, .int .i64 3, .int .u64 0, .int .i64 3, .int .u64 0])).run Tryd.prog w = .ok (.bool true) w := fun w => eqr _ _ _ _ _ _ _ _ _ _ w
  replace Y := hide (Y.out.below (Below.refl w10.heap.size w10).drew)
  replace TB := hide (TB.out.below (Below.refl w10.heap.size w10).drew)
  replace B := hide B.out.drew
  refine regionL 50 (fun w' => w'.cell? ⟨yb, 1, none⟩ = some (.int .i64 1) ∧ w'.cell? ⟨g, 14, none⟩ = some (.int .i64 8) ∧ w'.cell? ⟨g, 22, none⟩ = some (.int .i64 1) ∧ w'.cell? ⟨g, 23, none⟩ = some (.int .i64 3) ∧ w'.cell? ⟨g, 24, none⟩ = some (.int .u64 0) ∧ w'.cell? ⟨g, 25, none⟩ = some (.int .i64 3) ∧ w'.cell? ⟨g, 26, none⟩ = some (.int .u64 0) ∧ w'.cell? ⟨tb, 0, none⟩ = some (.int .i64 1) ∧ w'.cell? ⟨tb, 1, none⟩ = some (.int .i64 3) ∧ w'.cell? ⟨tb, 2, none⟩ = some (.int .u64 0) ∧ w'.cell? ⟨tb, 3, none⟩ = some (.int .i64 3) ∧ w'.cell? ⟨tb, 4, none⟩ = some (.int .u64 0)) mixed ⟨Y.out.cell 1, y14, y22, y23, y24, y25, y26, TB.out.cell 0, TB.out.cell 1, TB.out.cell 2, TB.out.cell 3, TB.out.cell 4⟩ (fun hHeld => ?_)
  refine pickA (v := ?_) 0 (some 71) rfl rfl (by kernel_rfl) (by kernel_rfl) (by kernel_rfl) (by decide) (fun _ _ _ h => h) (by rfl) ?_ (by assumption) ?_
  rotate_left
  · intro w'
    go_simp
    try with_reducible rfl
  try simp only [Act.put, List.setIfInBounds_toArray, List.set_cons_zero, List.set_cons_succ]
  refine pickA (v := ?_) 1 (some 72) rfl rfl (by kernel_rfl) (by kernel_rfl) (by kernel_rfl) (by decide) (fun _ _ _ h => h) (by rfl) ?_ (by assumption) ?_
  rotate_left
  · intro w'
    go_simp
    try with_reducible rfl
  try simp only [Act.put, List.setIfInBounds_toArray, List.set_cons_zero, List.set_cons_succ]
  refine pickA (v := ?_) 2 (some 73) rfl rfl (by kernel_rfl) (by kernel_rfl) (by kernel_rfl) (by decide) (fun _ _ _ h => h) (by rfl) ?_ (by assumption) ?_
  rotate_left
  · intro w'
    go_simp
    try with_reducible rfl
  try simp only [Act.put, List.setIfInBounds_toArray, List.set_cons_zero, List.set_cons_succ]
  refine pickA (v := ?_) 3 (some 74) rfl rfl (by kernel_rfl) (by kernel_rfl) (by kernel_rfl) (by decide) (fun _ _ _ h => h) (by rfl) ?_ (by assumption) ?_
  rotate_left
  · intro w'
    go_simp
    try with_reducible rfl
  try simp only [Act.put, List.setIfInBounds_toArray, List.set_cons_zero, List.set_cons_succ]
  refine pickA (v := ?_) 4 (some 75) rfl rfl (by kernel_rfl) (by kernel_rfl) (by kernel_rfl) (by decide) (fun _ _ _ h => h) (by rfl) ?_ (by assumption) ?_
  rotate_left
  · intro w'
    go_simp
    try with_reducible rfl
  try simp only [Act.put, List.setIfInBounds_toArray, List.set_cons_zero, List.set_cons_succ]
  refine pickA (v := ?_) 5 (some 76) rfl rfl (by kernel_rfl) (by kernel_rfl) (by kernel_rfl) (by decide) (fun _ _ _ h => h) (by rfl) ?_ (by assumption) ?_
  rotate_left
  · intro w'
    go_simp
    try with_reducible rfl
  try simp only [Act.put, List.setIfInBounds_toArray, List.set_cons_zero, List.set_cons_succ]
  refine pickA (v := ?_) 6 (some 77) rfl rfl (by kernel_rfl) (by kernel_rfl) (by kernel_rfl) (by decide) (fun _ _ _ h => h) (by rfl) ?_ (by assumption) ?_
  rotate_left
  · intro w'
    go_simp
    try with_reducible rfl
  try simp only [Act.put, List.setIfInBounds_toArray, List.set_cons_zero, List.set_cons_succ]
  refine pickA (v := ?_) 7 (some 78) rfl rfl (by kernel_rfl) (by kernel_rfl) (by kernel_rfl) (by decide) (fun _ _ _ h => h) (by rfl) ?_ (by assumption) ?_
  rotate_left
  · intro w'
    go_simp
    try with_reducible rfl
  try simp only [Act.put, List.setIfInBounds_toArray, List.set_cons_zero, List.set_cons_succ]
  refine pickA (v := ?_) 8 (some 79) rfl rfl (by kernel_rfl) (by kernel_rfl) (by kernel_rfl) (by decide) (fun _ _ _ h => h) (by rfl) ?_ (by assumption) ?_
  rotate_left
  · intro w'
    go_simp
    try with_reducible rfl
  try simp only [Act.put, List.setIfInBounds_toArray, List.set_cons_zero, List.set_cons_succ]
  refine pickA (v := ?_) 9 (some 80) rfl rfl (by kernel_rfl) (by kernel_rfl) (by kernel_rfl) (by decide) (fun _ _ _ h => h) (by rfl) ?_ (by assumption) ?_
  rotate_left
  · intro w'
    go_simp
    try with_reducible rfl
  try simp only [Act.put, List.setIfInBounds_toArray, List.set_cons_zero, List.set_cons_succ]
  refine pickA (v := ?_) 10 (some 81) rfl rfl (by kernel_rfl) (by kernel_rfl) (by kernel_rfl) (by decide) (fun _ _ _ h => h) (by rfl) ?_ (by assumption) ?_
  rotate_left
  · intro w'
    go_simp
    try with_reducible rfl
  try simp only [Act.put, List.setIfInBounds_toArray, List.set_cons_zero, List.set_cons_succ]
  refine pickA (v := ?_) 11 (some 82) rfl rfl (by kernel_rfl) (by kernel_rfl) (by kernel_rfl) (by decide) (fun _ _ _ h => h) (by rfl) ?_ (by assumption) ?_
  rotate_left
  · intro w'
    go_simp
    try with_reducible rfl
  try simp only [Act.put, List.setIfInBounds_toArray, List.set_cons_zero, List.set_cons_succ]
  refine pickA (v := ?_) 12 (some 83) rfl rfl (by kernel_rfl) (by kernel_rfl) (by kernel_rfl) (by decide) (fun _ _ _ h => h) (by rfl) ?_ (by assumption) ?_
  rotate_left
  · intro w'
    go_simp
    try with_reducible rfl
  try simp only [Act.put, List.setIfInBounds_toArray, List.set_cons_zero, List.set_cons_succ]
  refine pickA (v := ?_) 13 (some 84) rfl rfl (by kernel_rfl) (by kernel_rfl) (by kernel_rfl) (by decide) (fun _ _ _ h => h) (by rfl) ?_ (by assumption) ?_
  rotate_left
  · intro w'
    go_simp
    try with_reducible rfl
  try simp only [Act.put, List.setIfInBounds_toArray, List.set_cons_zero, List.set_cons_succ]
  refine pickA (v := ?_) 14 (some 85) rfl rfl (by kernel_rfl) (by kernel_rfl) (by kernel_rfl) (by decide) (fun _ _ _ h => h) (by rfl) ?_ (by assumption) ?_
  rotate_left
  · intro w'
    go_simp
    try with_reducible rfl
  try simp only [Act.put, List.setIfInBounds_toArray, List.set_cons_zero, List.set_cons_succ]
  refine pickA (v := ?_) 15 (some 86) rfl rfl (by kernel_rfl) (by kernel_rfl) (by kernel_rfl) (by decide) (fun _ _ _ h => h) (by rfl) ?_ (by assumption) ?_
  rotate_left
  · intro w'
    go_simp
    try with_reducible rfl
  try simp only [Act.put, List.setIfInBounds_toArray, List.set_cons_zero, List.set_cons_succ]
  refine pickA (v := ?_) 16 (some 87) rfl rfl (by kernel_rfl) (by kernel_rfl) (by kernel_rfl) (by decide) (fun _ _ _ h => h) (by rfl) ?_ (by assumption) ?_
  rotate_left
  · intro w'
    go_simp
    try with_reducible rfl
  try simp only [Act.put, List.setIfInBounds_toArray, List.set_cons_zero, List.set_cons_succ]
  refine pickA (v := ?_) 17 (some 88) rfl rfl (by kernel_rfl) (by kernel_rfl) (by kernel_rfl) (by decide) (fun _ _ _ h => h) (by rfl) ?_ (by assumption) ?_
  rotate_left
  · intro w'
    go_simp
    try with_reducible rfl
  try simp only [Act.put, List.setIfInBounds_toArray, List.set_cons_zero, List.set_cons_succ]
  refine pickA (v := ?_) 18 (some 89) rfl rfl (by kernel_rfl) (by kernel_rfl) (by kernel_rfl) (by decide) (fun _ _ _ h => h) (by rfl) ?_ (by assumption) ?_
  rotate_left
  · intro w'
    go_simp
    try with_reducible rfl
  try simp only [Act.put, List.setIfInBounds_toArray, List.set_cons_zero, List.set_cons_succ]
  refine pickA (v := ?_) 19 (some 90) rfl rfl (by kernel_rfl) (by kernel_rfl) (by kernel_rfl) (by decide) (fun _ _ _ h => h) (by rfl) ?_ (by assumption) ?_
  rotate_left
  · intro w'
    go_simp
    try with_reducible rfl
  try simp only [Act.put, List.setIfInBounds_toArray, List.set_cons_zero, List.set_cons_succ]
  refine pickL (v := ?_) 20 (some 91) rfl rfl (by kernel_rfl) (by kernel_rfl) (by kernel_rfl) (by decide) (by kernel_rfl) (by kernel_rfl) (fun _ _ _ h => h) (by rfl) ?_ (by assumption) ?_
  rotate_left
  · intro w' hSw
    obtain ⟨q0, q1, q2, q3, q4, q5, q6, q7, q8, q9, q10, q11⟩ := hSw
    go_simp
    try with_reducible rfl
  try simp only [Act.put, List.setIfInBounds_toArray, List.set_cons_zero, List.set_cons_succ]
  refine pickA (v := ?_) 21 (some 92) rfl rfl (by kernel_rfl) (by kernel_rfl) (by kernel_rfl) (by decide) (fun _ _ _ h => h) (by rfl) ?_ (by assumption) ?_
  rotate_left
  · intro w'
    go_simp
    try with_reducible rfl
  try simp only [Act.put, List.setIfInBounds_toArray, List.set_cons_zero, List.set_cons_succ]
  refine pickA (v := ?_) 22 (some 93) rfl rfl (by kernel_rfl) (by kernel_rfl) (by kernel_rfl) (by decide) (fun _ _ _ h => h) (by rfl) ?_ (by assumption) ?_
  rotate_left
  · intro w'
    go_simp
    try with_reducible rfl
  try simp only [Act.put, List.setIfInBounds_toArray, List.set_cons_zero, List.set_cons_succ]
  refine pickA (v := ?_) 23 (some 94) rfl rfl (by kernel_rfl) (by kernel_rfl) (by kernel_rfl) (by decide) (fun _ _ _ h => h) (by rfl) ?_ (by assumption) ?_
  rotate_left
  · intro w'
    go_simp
    try with_reducible rfl
  try simp only [Act.put, List.setIfInBounds_toArray, List.set_cons_zero, List.set_cons_succ]
  refine pickA (v := ?_) 24 (some 95) rfl rfl (by kernel_rfl) (by kernel_rfl) (by kernel_rfl) (by decide) (fun _ _ _ h => h) (by rfl) ?_ (by assumption) ?_
  rotate_left
  · intro w'
    go_simp
    try with_reducible rfl
  try simp only [Act.put, List.setIfInBounds_toArray, List.set_cons_zero, List.set_cons_succ]
  refine pickA (v := ?_) 25 (some 96) rfl rfl (by kernel_rfl) (by kernel_rfl) (by kernel_rfl) (by decide) (fun _ _ _ h => h) (by rfl) ?_ (by assumption) ?_
  rotate_left
  · intro w'
    go_simp
    try with_reducible rfl
  try simp only [Act.put, List.setIfInBounds_toArray, List.set_cons_zero, List.set_cons_succ]
  refine pickA (v := ?_) 26 (some 97) rfl rfl (by kernel_rfl) (by kernel_rfl) (by kernel_rfl) (by decide) (fun _ _ _ h => h) (by rfl) ?_ (by assumption) ?_
  rotate_left
  · intro w'
    go_simp
    try with_reducible rfl
  try simp only [Act.put, List.setIfInBounds_toArray, List.set_cons_zero, List.set_cons_succ]
  refine pickA (v := ?_) 27 (some 98) rfl rfl (by kernel_rfl) (by kernel_rfl) (by kernel_rfl) (by decide) (fun _ _ _ h => h) (by rfl) ?_ (by assumption) ?_
  rotate_left
  · intro w'
    go_simp
    try with_reducible rfl
  try simp only [Act.put, List.setIfInBounds_toArray, List.set_cons_zero, List.set_cons_succ]
  refine pickA (v := ?_) 28 (some 99) rfl rfl (by kernel_rfl) (by kernel_rfl) (by kernel_rfl) (by decide) (fun _ _ _ h => h) (by rfl) ?_ (by assumption) ?_
  rotate_left
  · intro w'
    go_simp
    try with_reducible rfl
  try simp only [Act.put, List.setIfInBounds_toArray, List.set_cons_zero, List.set_cons_succ]
  refine pickA (v := ?_) 29 (some 100) rfl rfl (by kernel_rfl) (by kernel_rfl) (by kernel_rfl) (by decide) (fun _ _ _ h => h) (by rfl) ?_ (by assumption) ?_
  rotate_left
  · intro w'
    go_simp
    try with_reducible rfl
  try simp only [Act.put, List.setIfInBounds_toArray, List.set_cons_zero, List.set_cons_succ]
  refine pickA (v := ?_) 30 (some 101) rfl rfl (by kernel_rfl) (by kernel_rfl) (by kernel_rfl) (by decide) (fun _ _ _ h => h) (by rfl) ?_ (by assumption) ?_
  rotate_left
  · intro w'
    go_simp
    try with_reducible rfl
  try simp only [Act.put, List.setIfInBounds_toArray, List.set_cons_zero, List.set_cons_succ]
  refine pickA (v := ?_) 31 (some 102) rfl rfl (by kernel_rfl) (by kernel_rfl) (by kernel_rfl) (by decide) (fun _ _ _ h => h) (by rfl) ?_ (by assumption) ?_
  rotate_left
  · intro w'
    go_simp
    try with_reducible rfl
  try simp only [Act.put, List.setIfInBounds_toArray, List.set_cons_zero, List.set_cons_succ]
  refine pickA (v := ?_) 32 (some 103) rfl rfl (by kernel_rfl) (by kernel_rfl) (by kernel_rfl) (by decide) (fun _ _ _ h => h) (by rfl) ?_ (by assumption) ?_
  rotate_left
  · intro w'
    go_simp
    try with_reducible rfl
  try simp only [Act.put, List.setIfInBounds_toArray, List.set_cons_zero, List.set_cons_succ]
  refine pickA (v := ?_) 33 (some 104) rfl rfl (by kernel_rfl) (by kernel_rfl) (by kernel_rfl) (by decide) (fun _ _ _ h => h) (by rfl) ?_ (by assumption) ?_
  rotate_left
  · intro w'
    go_simp
    try with_reducible rfl
  try simp only [Act.put, List.setIfInBounds_toArray, List.set_cons_zero, List.set_cons_succ]
  refine pickA (v := ?_) 34 (some 105) rfl rfl (by kernel_rfl) (by kernel_rfl) (by kernel_rfl) (by decide) (fun _ _ _ h => h) (by rfl) ?_ (by assumption) ?_
  rotate_left
  · intro w'
    go_simp
    try with_reducible rfl
  try simp only [Act.put, List.setIfInBounds_toArray, List.set_cons_zero, List.set_cons_succ]
  refine pickA (v := ?_) 35 (some 106) rfl rfl (by kernel_rfl) (by kernel_rfl) (by kernel_rfl) (by decide) (fun _ _ _ h => h) (by rfl) ?_ (by assumption) ?_
  rotate_left
  · intro w'
    go_simp
    try with_reducible rfl
  try simp only [Act.put, List.setIfInBounds_toArray, List.set_cons_zero, List.set_cons_succ]
  refine pickA (v := ?_) 36 (some 107) rfl rfl (by kernel_rfl) (by kernel_rfl) (by kernel_rfl) (by decide) (fun _ _ _ h => h) (by rfl) ?_ (by assumption) ?_
  rotate_left
  · intro w'
    go_simp
    try with_reducible rfl
  try simp only [Act.put, List.setIfInBounds_toArray, List.set_cons_zero, List.set_cons_succ]
  refine pickL (v := ?_) 37 (some 108) rfl rfl (by kernel_rfl) (by kernel_rfl) (by kernel_rfl) (by decide) (by kernel_rfl) (by kernel_rfl) (fun _ _ _ h => h) (by rfl) ?_ (by assumption) ?_
  rotate_left
  · intro w' hSw
    obtain ⟨q0, q1, q2, q3, q4, q5, q6, q7, q8, q9, q10, q11⟩ := hSw
    go_simp
    try with_reducible rfl
  try simp only [Act.put, List.setIfInBounds_toArray, List.set_cons_zero, List.set_cons_succ]
  refine pickA (v := ?_) 38 (some 109) rfl rfl (by kernel_rfl) (by kernel_rfl) (by kernel_rfl) (by decide) (fun _ _ _ h => h) (by rfl) ?_ (by assumption) ?_
  rotate_left
  · intro w'
    go_simp
    try with_reducible rfl
  try simp only [Act.put, List.setIfInBounds_toArray, List.set_cons_zero, List.set_cons_succ]
  refine pickA (v := ?_) 39 (some 110) rfl rfl (by kernel_rfl) (by kernel_rfl) (by kernel_rfl) (by decide) (fun _ _ _ h => h) (by rfl) ?_ (by assumption) ?_
  rotate_left
  · intro w'
    go_simp
    try with_reducible rfl
  try simp only [Act.put, List.setIfInBounds_toArray, List.set_cons_zero, List.set_cons_succ]
  refine pickA (v := ?_) 40 (some 111) rfl rfl (by kernel_rfl) (by kernel_rfl) (by kernel_rfl) (by decide) (fun _ _ _ h => h) (by rfl) ?_ (by assumption) ?_
  rotate_left
  · intro w'
    go_simp
    try with_reducible rfl
  try simp only [Act.put, List.setIfInBounds_toArray, List.set_cons_zero, List.set_cons_succ]
  refine pickA (v := ?_) 41 (some 112) rfl rfl (by kernel_rfl) (by kernel_rfl) (by kernel_rfl) (by decide) (fun _ _ _ h => h) (by rfl) ?_ (by assumption) ?_
  rotate_left
  · intro w'
    go_simp
    try with_reducible rfl
  try simp only [Act.put, List.setIfInBounds_toArray, List.set_cons_zero, List.set_cons_succ]
  refine pickA (v := ?_) 42 (some 113) rfl rfl (by kernel_rfl) (by kernel_rfl) (by kernel_rfl) (by decide) (fun _ _ _ h => h) (by rfl) ?_ (by assumption) ?_
  rotate_left
  · intro w'
    go_simp
    try with_reducible rfl
  try simp only [Act.put, List.setIfInBounds_toArray, List.set_cons_zero, List.set_cons_succ]
  refine pickA (v := ?_) 43 (some 114) rfl rfl (by kernel_rfl) (by kernel_rfl) (by kernel_rfl) (by decide) (fun _ _ _ h => h) (by rfl) ?_ (by assumption) ?_
  rotate_left
  · intro w'
    go_simp
    try with_reducible rfl
  try simp only [Act.put, List.setIfInBounds_toArray, List.set_cons_zero, List.set_cons_succ]
  refine pickA (v := ?_) 44 (some 115) rfl rfl (by kernel_rfl) (by kernel_rfl) (by kernel_rfl) (by decide) (fun _ _ _ h => h) (by rfl) ?_ (by assumption) ?_
  rotate_left
  · intro w'
    go_simp
    try with_reducible rfl
  try simp only [Act.put, List.setIfInBounds_toArray, List.set_cons_zero, List.set_cons_succ]
  refine pickL (v := ?_) 45 (some 116) rfl rfl (by kernel_rfl) (by kernel_rfl) (by kernel_rfl) (by decide) (by kernel_rfl) (by kernel_rfl) (fun _ _ _ h => h) (by rfl) ?_ (by assumption) ?_
  rotate_left
  · intro w' hSw
    obtain ⟨q0, q1, q2, q3, q4, q5, q6, q7, q8, q9, q10, q11⟩ := hSw
    go_simp
    try with_reducible rfl
  try simp only [Act.put, List.setIfInBounds_toArray, List.set_cons_zero, List.set_cons_succ]
  refine pickL (v := ?_) 46 (some 117) rfl rfl (by kernel_rfl) (by kernel_rfl) (by kernel_rfl) (by decide) (by kernel_rfl) (by kernel_rfl) (fun _ _ _ h => h) (by rfl) ?_ (by assumption) ?_
  rotate_left
  · intro w' hSw
    obtain ⟨q0, q1, q2, q3, q4, q5, q6, q7, q8, q9, q10, q11⟩ := hSw
    go_simp
    try with_reducible rfl
  try simp only [Act.put, List.setIfInBounds_toArray, List.set_cons_zero, List.set_cons_succ]
  refine pickA (v := ?_) 47 (some 118) rfl rfl (by kernel_rfl) (by kernel_rfl) (by kernel_rfl) (by decide) (fun _ _ _ h => h) (by rfl) ?_ (by assumption) ?_
  rotate_left
  · intro w'
    go_simp
    try with_reducible rfl
  try simp only [Act.put, List.setIfInBounds_toArray, List.set_cons_zero, List.set_cons_succ]
  refine pickA (v := ?_) 48 (some 119) rfl rfl (by kernel_rfl) (by kernel_rfl) (by kernel_rfl) (by decide) (fun _ _ _ h => h) (by rfl) ?_ (by assumption) ?_
  rotate_left
  · intro w'
    go_simp
    try with_reducible rfl
  try simp only [Act.put, List.setIfInBounds_toArray, List.set_cons_zero, List.set_cons_succ]
  refine pickA (v := ?_) 49 (some 0) rfl rfl (by kernel_rfl) (by kernel_rfl) (by kernel_rfl) (by decide) (fun _ _ _ h => h) (by rfl) ?_ (by assumption) ?_
  rotate_left
  · intro w'
    go_simp
    try with_reducible rfl
  try simp only [Act.put, List.setIfInBounds_toArray, List.set_cons_zero]
  refine doneL (by kernel_rfl) ?_ _
  clear hHeld
  go_wp2
  go_ret
  exact ⟨rfl, B.out⟩

end Go.Proofs.YtdogdinkopocaaaDoor
