/- The law's made. -/
import Derived.Test.YtdogdinkopocaaaDoorPT
import Derived.Test.YtdogdinkopocaaaDoorPR
namespace Go.Proofs.YtdogdinkopocaaaDoor
open Go.RowKit Go.Maps

theorem su_info : (Tryd.prog.info? 32).map (·.size) = some 8 := by kernel_rfl
theorem load_su {w : World} {b : Nat} {cs : Array Value} (I : IsB w b cs 32) (hs : cs.size = 8) : (Instr.loadAt 32 (.pointer (some ⟨b, 0, none⟩))).run Tryd.prog w = .ok (.agg cs) w := by
  have h := run_loadVar_row (P := Tryd.prog) w b 32 32 cs (0, 0) _ I Tryd.underlying32 rfl (by rw [hs]; exact su_info)
  simp only [Instr.loadAt, Instr.sureAddr, Sem.run_bind, Sem.run_pure, Result.andThen_ok, h]
/-- May a peer be made? -/
def newB (i0 i1 i3 i4 : Int) (bn : Nat) : Bool := decide (i1 = 2) && (rt i3 i4 && (decide (2 ≤ i0) && (decide (i0 < 1024) && decide (bn ≤ 1024))))
theorem newB_no {i0 i1 i3 i4 : Int} {bn : Nat} (h : newB i0 i1 i3 i4 bn = false) : i1 ≠ 2 ∨ i0 < 2 ∨ 1024 ≤ i0 ∨ (1024 : Int) < (bn : Int) ∨ rt i3 i4 = false := by
  unfold newB at h
  by_cases h1 : i1 = 2
  · rcases hq : rt i3 i4 with _ | _
    · exact Or.inr (Or.inr (Or.inr (Or.inr rfl)))
    · by_cases h2 : i0 < 2
      · exact Or.inr (Or.inl h2)
      · by_cases h3 : 1024 ≤ i0
        · exact Or.inr (Or.inr (Or.inl h3))
        · refine Or.inr (Or.inr (Or.inr (Or.inl ?_)))
          simp [h1, hq, show 2 ≤ i0 by omega, show i0 < 1024 by omega] at h
          omega
  · exact Or.inl h1
theorem newB_yes {i0 i1 i3 i4 : Int} {bn : Nat} (h : newB i0 i1 i3 i4 bn = true) : i1 = 2 ∧ rt i3 i4 = true ∧ 2 ≤ i0 ∧ i0 < 1024 ∧ bn ≤ 1024 := by
  unfold newB at h
  simpa using h
theorem newE_of {i0 i2 i3 i4 : Int} (h : rt i3 i4 = true) : newE (i0, 2, i2, i3, i4) = 0 := by
  unfold newE
  rw [if_pos ⟨by show ckE 2 i2 = 0; simp [ckE], h⟩]

set_option maxHeartbeats 8000000 in
set_option maxRecDepth 100000 in
theorem made_head_ok (ht i0 i1 i2 i3 i4 : Int) (ba : Option Addr) (bn bc : Nat) (hbn : bn ≤ 1025) (h0 : 0 ≤ ht) (h1 : ht ≤ 32) (w : World) (hR : Ranks w) : Calls Tryd.prog 8 #[.agg #[.int .i64 1, .int .i64 ht, .int .i64 i0, .int .i64 i1, .int .u64 i2, .int .i64 i3, .int .u64 i4, .slice ba bn bc]] w fun e w' => ∃ pv rv, e = .returned (.tuple #[pv, rv, .bool true]) ∧ Below w.heap.size w w' := by
  have e0 : decide ((1025 : Int) < (bn : Int)) = false := decide_eq_false (by omega)
  have b1 : Below w.heap.size w (w.alloc (.cells #[.int .i64 1, .int .i64 ht, .int .i64 i0, .int .i64 i1, .int .u64 i2, .int .i64 i3, .int .u64 i4, .slice ba bn bc] 32)) := (Below.refl _ w).alloc (Nat.le_refl _) _
  have V := hide (IsB.new w #[.int .i64 1, .int .i64 ht, .int .i64 i0, .int .i64 i1, .int .u64 i2, .int .i64 i3, .int .u64 i4, .slice ba bn bc] 32)
  have B := hide b1
  have HR := hide (hR.below b1)
  clear b1 hR
  go_enter Tryd.func8, Tryd.ntmps8
  go_wp2_with fail
  generalize w.alloc (.cells #[.int .i64 1, .int .i64 ht, .int .i64 i0, .int .i64 i1, .int .u64 i2, .int .i64 i3, .int .u64 i4, .slice ba bn bc] 32) = W1 at V B HR ⊢
  generalize hH : w.heap.size = H at V ⊢
  replace hH := hide hH
  refine (pend_head ht h0 h1 _ HR.out).mono ?_; rintro e w2 ⟨p, lp, lm, km, ca, cc, rfl, -, b2⟩
  replace V := hide (V.out.below b2)
  replace HR := hide (HR.out.below b2)
  replace B := hide (B.out.trans (b2.mono B.out.size))
  clear b2
  have v0 : w2.cell? ⟨H, 0, none⟩ = some (.int .i64 1) := V.out.cell 0
  have v1 : w2.cell? ⟨H, 1, none⟩ = some (.int .i64 ht) := V.out.cell 1
  have v2 : w2.cell? ⟨H, 2, none⟩ = some (.int .i64 i0) := V.out.cell 2
  have v3 : w2.cell? ⟨H, 3, none⟩ = some (.int .i64 i1) := V.out.cell 3
  have v4 : w2.cell? ⟨H, 4, none⟩ = some (.int .u64 i2) := V.out.cell 4
  have v5 : w2.cell? ⟨H, 5, none⟩ = some (.int .i64 i3) := V.out.cell 5
  have v6 : w2.cell? ⟨H, 6, none⟩ = some (.int .u64 i4) := V.out.cell 6
  have v7 : w2.cell? ⟨H, 7, none⟩ = some (.slice ba bn bc) := V.out.cell 7
  go_wp2_with fail
  clear v0 v1 v2 v3 v4 v5 v6 v7
  refine (rnewEnd_head_ok ht h0 h1 _).mono ?_; rintro e w3 ⟨rb, rfl, b3⟩
  replace B := hide (B.out.trans (b3.mono B.out.size))
  clear b3
  go_wp2
  go_ret3
  exact ⟨_, _, rfl, B.out⟩

set_option maxHeartbeats 8000000 in
set_option maxRecDepth 100000 in
theorem made_head_bad (ht i0 i1 i2 i3 i4 : Int) (ba : Option Addr) (bn bc : Nat) (hbn : bn ≤ 1025) (hn : ht < 0 ∨ 32 < ht) (w : World) (hR : Ranks w) : Calls Tryd.prog 8 #[.agg #[.int .i64 1, .int .i64 ht, .int .i64 i0, .int .i64 i1, .int .u64 i2, .int .i64 i3, .int .u64 i4, .slice ba bn bc]] w fun e w' => ∃ pv rv, e = .returned (.tuple #[pv, rv, .bool true]) ∧ Below w.heap.size w w' := by
  have e0 : decide ((1025 : Int) < (bn : Int)) = false := decide_eq_false (by omega)
  have b1 : Below w.heap.size w (w.alloc (.cells #[.int .i64 1, .int .i64 ht, .int .i64 i0, .int .i64 i1, .int .u64 i2, .int .i64 i3, .int .u64 i4, .slice ba bn bc] 32)) := (Below.refl _ w).alloc (Nat.le_refl _) _
  have V := hide (IsB.new w #[.int .i64 1, .int .i64 ht, .int .i64 i0, .int .i64 i1, .int .u64 i2, .int .i64 i3, .int .u64 i4, .slice ba bn bc] 32)
  have B := hide b1
  have HR := hide (hR.below b1)
  clear b1 hR
  go_enter Tryd.func8, Tryd.ntmps8
  go_wp2_with fail
  generalize w.alloc (.cells #[.int .i64 1, .int .i64 ht, .int .i64 i0, .int .i64 i1, .int .u64 i2, .int .i64 i3, .int .u64 i4, .slice ba bn bc] 32) = W1 at V B HR ⊢
  generalize hH : w.heap.size = H at V ⊢
  replace hH := hide hH
  refine (pend_head_bad ht hn _).mono ?_; rintro e w2 ⟨rfl, b2⟩
  replace V := hide (V.out.below b2)
  replace HR := hide (HR.out.below b2)
  replace B := hide (B.out.trans (b2.mono B.out.size))
  clear b2
  have v0 : w2.cell? ⟨H, 0, none⟩ = some (.int .i64 1) := V.out.cell 0
  have v1 : w2.cell? ⟨H, 1, none⟩ = some (.int .i64 ht) := V.out.cell 1
  have v2 : w2.cell? ⟨H, 2, none⟩ = some (.int .i64 i0) := V.out.cell 2
  have v3 : w2.cell? ⟨H, 3, none⟩ = some (.int .i64 i1) := V.out.cell 3
  have v4 : w2.cell? ⟨H, 4, none⟩ = some (.int .u64 i2) := V.out.cell 4
  have v5 : w2.cell? ⟨H, 5, none⟩ = some (.int .i64 i3) := V.out.cell 5
  have v6 : w2.cell? ⟨H, 6, none⟩ = some (.int .u64 i4) := V.out.cell 6
  have v7 : w2.cell? ⟨H, 7, none⟩ = some (.slice ba bn bc) := V.out.cell 7
  go_wp2_with fail
  clear v0 v1 v2 v3 v4 v5 v6 v7
  refine (rnewEnd_head_bad ht hn _).mono ?_; rintro e w3 ⟨rfl, b3⟩
  replace B := hide (B.out.trans (b3.mono B.out.size))
  clear b3
  go_wp2
  go_ret3
  exact ⟨_, _, rfl, B.out⟩

set_option maxHeartbeats 8000000 in
set_option maxRecDepth 100000 in
theorem made_tail_ok (ht i0 i1 i2 i3 i4 : Int) (ba : Option Addr) (bn bc : Nat) (hbn : bn ≤ 1025) (h0 : 0 ≤ ht) (h1 : ht ≤ 32) (w : World) (hR : Ranks w) : Calls Tryd.prog 8 #[.agg #[.int .i64 2, .int .i64 ht, .int .i64 i0, .int .i64 i1, .int .u64 i2, .int .i64 i3, .int .u64 i4, .slice ba bn bc]] w fun e w' => ∃ pv rv, e = .returned (.tuple #[pv, rv, .bool true]) ∧ Below w.heap.size w w' := by
  have e0 : decide ((1025 : Int) < (bn : Int)) = false := decide_eq_false (by omega)
  have b1 : Below w.heap.size w (w.alloc (.cells #[.int .i64 2, .int .i64 ht, .int .i64 i0, .int .i64 i1, .int .u64 i2, .int .i64 i3, .int .u64 i4, .slice ba bn bc] 32)) := (Below.refl _ w).alloc (Nat.le_refl _) _
  have V := hide (IsB.new w #[.int .i64 2, .int .i64 ht, .int .i64 i0, .int .i64 i1, .int .u64 i2, .int .i64 i3, .int .u64 i4, .slice ba bn bc] 32)
  have B := hide b1
  have HR := hide (hR.below b1)
  clear b1 hR
  go_enter Tryd.func8, Tryd.ntmps8
  go_wp2_with fail
  generalize w.alloc (.cells #[.int .i64 2, .int .i64 ht, .int .i64 i0, .int .i64 i1, .int .u64 i2, .int .i64 i3, .int .u64 i4, .slice ba bn bc] 32) = W1 at V B HR ⊢
  generalize hH : w.heap.size = H at V ⊢
  replace hH := hide hH
  refine (pend_tail ht h0 h1 _ HR.out).mono ?_; rintro e w2 ⟨p, lp, lm, km, ca, cc, rfl, -, b2⟩
  replace V := hide (V.out.below b2)
  replace HR := hide (HR.out.below b2)
  replace B := hide (B.out.trans (b2.mono B.out.size))
  clear b2
  have v0 : w2.cell? ⟨H, 0, none⟩ = some (.int .i64 2) := V.out.cell 0
  have v1 : w2.cell? ⟨H, 1, none⟩ = some (.int .i64 ht) := V.out.cell 1
  have v2 : w2.cell? ⟨H, 2, none⟩ = some (.int .i64 i0) := V.out.cell 2
  have v3 : w2.cell? ⟨H, 3, none⟩ = some (.int .i64 i1) := V.out.cell 3
  have v4 : w2.cell? ⟨H, 4, none⟩ = some (.int .u64 i2) := V.out.cell 4
  have v5 : w2.cell? ⟨H, 5, none⟩ = some (.int .i64 i3) := V.out.cell 5
  have v6 : w2.cell? ⟨H, 6, none⟩ = some (.int .u64 i4) := V.out.cell 6
  have v7 : w2.cell? ⟨H, 7, none⟩ = some (.slice ba bn bc) := V.out.cell 7
  go_wp2_with fail
  clear v0 v1 v2 v3 v4 v5 v6 v7
  refine (rnewEnd_tail_ok ht h0 h1 _).mono ?_; rintro e w3 ⟨rb, rfl, b3⟩
  replace B := hide (B.out.trans (b3.mono B.out.size))
  clear b3
  go_wp2
  go_ret3
  exact ⟨_, _, rfl, B.out⟩

set_option maxHeartbeats 8000000 in
set_option maxRecDepth 100000 in
theorem made_tail_bad (ht i0 i1 i2 i3 i4 : Int) (ba : Option Addr) (bn bc : Nat) (hbn : bn ≤ 1025) (hn : ht < 0 ∨ 32 < ht) (w : World) (hR : Ranks w) : Calls Tryd.prog 8 #[.agg #[.int .i64 2, .int .i64 ht, .int .i64 i0, .int .i64 i1, .int .u64 i2, .int .i64 i3, .int .u64 i4, .slice ba bn bc]] w fun e w' => ∃ pv rv, e = .returned (.tuple #[pv, rv, .bool true]) ∧ Below w.heap.size w w' := by
  have e0 : decide ((1025 : Int) < (bn : Int)) = false := decide_eq_false (by omega)
  have b1 : Below w.heap.size w (w.alloc (.cells #[.int .i64 2, .int .i64 ht, .int .i64 i0, .int .i64 i1, .int .u64 i2, .int .i64 i3, .int .u64 i4, .slice ba bn bc] 32)) := (Below.refl _ w).alloc (Nat.le_refl _) _
  have V := hide (IsB.new w #[.int .i64 2, .int .i64 ht, .int .i64 i0, .int .i64 i1, .int .u64 i2, .int .i64 i3, .int .u64 i4, .slice ba bn bc] 32)
  have B := hide b1
  have HR := hide (hR.below b1)
  clear b1 hR
  go_enter Tryd.func8, Tryd.ntmps8
  go_wp2_with fail
  generalize w.alloc (.cells #[.int .i64 2, .int .i64 ht, .int .i64 i0, .int .i64 i1, .int .u64 i2, .int .i64 i3, .int .u64 i4, .slice ba bn bc] 32) = W1 at V B HR ⊢
  generalize hH : w.heap.size = H at V ⊢
  replace hH := hide hH
  refine (pend_tail_bad ht hn _).mono ?_; rintro e w2 ⟨rfl, b2⟩
  replace V := hide (V.out.below b2)
  replace HR := hide (HR.out.below b2)
  replace B := hide (B.out.trans (b2.mono B.out.size))
  clear b2
  have v0 : w2.cell? ⟨H, 0, none⟩ = some (.int .i64 2) := V.out.cell 0
  have v1 : w2.cell? ⟨H, 1, none⟩ = some (.int .i64 ht) := V.out.cell 1
  have v2 : w2.cell? ⟨H, 2, none⟩ = some (.int .i64 i0) := V.out.cell 2
  have v3 : w2.cell? ⟨H, 3, none⟩ = some (.int .i64 i1) := V.out.cell 3
  have v4 : w2.cell? ⟨H, 4, none⟩ = some (.int .u64 i2) := V.out.cell 4
  have v5 : w2.cell? ⟨H, 5, none⟩ = some (.int .i64 i3) := V.out.cell 5
  have v6 : w2.cell? ⟨H, 6, none⟩ = some (.int .u64 i4) := V.out.cell 6
  have v7 : w2.cell? ⟨H, 7, none⟩ = some (.slice ba bn bc) := V.out.cell 7
  go_wp2_with fail
  clear v0 v1 v2 v3 v4 v5 v6 v7
  refine (rnewEnd_tail_bad ht hn _).mono ?_; rintro e w3 ⟨rfl, b3⟩
  replace B := hide (B.out.trans (b3.mono B.out.size))
  clear b3
  go_wp2
  go_ret3
  exact ⟨_, _, rfl, B.out⟩

set_option maxHeartbeats 8000000 in
set_option maxRecDepth 100000 in
theorem made_new_bad (en ht i0 i1 i2 i3 i4 : Int) (ba : Option Addr) (bn bc : Nat) (hbn : bn ≤ 1025) (hen : en ≠ 1 ∧ en ≠ 2) (hb : 0 ≤ i4) (hbad : i1 ≠ 2 ∨ i0 < 2 ∨ 1024 ≤ i0 ∨ (1024 : Int) < (bn : Int) ∨ rt i3 i4 = false) (w : World) (hR : Ranks w) : Calls Tryd.prog 8 #[.agg #[.int .i64 en, .int .i64 ht, .int .i64 i0, .int .i64 i1, .int .u64 i2, .int .i64 i3, .int .u64 i4, .slice ba bn bc]] w fun e w' => ∃ pv rv, e = .returned (.tuple #[pv, rv, .bool true]) ∧ Below w.heap.size w w' := by
  have en1 : (en == 1) = false := by simpa using hen.1
  have en2 : (en == 2) = false := by simpa using hen.2
  have e0 : decide ((1025 : Int) < (bn : Int)) = false := decide_eq_false (by omega)
  have hbad := hide hbad
  have b1 : Below w.heap.size w (w.alloc (.cells #[.int .i64 en, .int .i64 ht, .int .i64 i0, .int .i64 i1, .int .u64 i2, .int .i64 i3, .int .u64 i4, .slice ba bn bc] 32)) := (Below.refl _ w).alloc (Nat.le_refl _) _
  have V := hide (IsB.new w #[.int .i64 en, .int .i64 ht, .int .i64 i0, .int .i64 i1, .int .u64 i2, .int .i64 i3, .int .u64 i4, .slice ba bn bc] 32)
  have B := hide b1
  have HR := hide (hR.below b1)
  clear b1 hR
  go_enter Tryd.func8, Tryd.ntmps8
  go_wp2_with fail
  generalize w.alloc (.cells #[.int .i64 en, .int .i64 ht, .int .i64 i0, .int .i64 i1, .int .u64 i2, .int .i64 i3, .int .u64 i4, .slice ba bn bc] 32) = W1 at V B HR ⊢
  generalize hH : w.heap.size = H at V ⊢
  replace hH := hide hH
  refine (pnew_bad i0 i1 i2 i3 i4 ba bn bc hb hbad.out _ HR.out).mono ?_; rintro e w2 ⟨rfl, b2⟩
  replace V := hide (V.out.below b2)
  replace HR := hide (HR.out.below b2)
  replace B := hide (B.out.trans (b2.mono B.out.size))
  clear b2
  have v0 : w2.cell? ⟨H, 0, none⟩ = some (.int .i64 en) := V.out.cell 0
  have v1 : w2.cell? ⟨H, 1, none⟩ = some (.int .i64 ht) := V.out.cell 1
  have v2 : w2.cell? ⟨H, 2, none⟩ = some (.int .i64 i0) := V.out.cell 2
  have v3 : w2.cell? ⟨H, 3, none⟩ = some (.int .i64 i1) := V.out.cell 3
  have v4 : w2.cell? ⟨H, 4, none⟩ = some (.int .u64 i2) := V.out.cell 4
  have v5 : w2.cell? ⟨H, 5, none⟩ = some (.int .i64 i3) := V.out.cell 5
  have v6 : w2.cell? ⟨H, 6, none⟩ = some (.int .u64 i4) := V.out.cell 6
  have v7 : w2.cell? ⟨H, 7, none⟩ = some (.slice ba bn bc) := V.out.cell 7
  go_wp2_with fail
  clear v0 v1 v2 v3 v4 v5 v6 v7
  refine (rnew_bad i0 i1 i2 i3 i4 ba bn bc hbad.out _).mono ?_; rintro e w3 ⟨rfl, b3⟩
  replace B := hide (B.out.trans (b3.mono B.out.size))
  clear b3
  go_wp2
  go_ret3
  exact ⟨_, _, rfl, B.out⟩

set_option maxHeartbeats 8000000 in
set_option maxRecDepth 100000 in
theorem made_new_ok (en ht i0 i2 i3 i4 : Int) (ba : Option Addr) (bc : Nat) (bl : List Int) (hn : ba = none → bc = 0) (h4 : bl.length ≤ 1024) (hen : en ≠ 1 ∧ en ≠ 2) (hb : 0 ≤ i4) (hq : rt i3 i4 = true) (h2 : 2 ≤ i0) (h3 : i0 < 1024) (w : World) (hr : Rd8 w ba bl) (hR : Ranks w) : Calls Tryd.prog 8 #[.agg #[.int .i64 en, .int .i64 ht, .int .i64 i0, .int .i64 2, .int .u64 i2, .int .i64 i3, .int .u64 i4, .slice ba bl.length bc]] w fun e w' => ∃ pv rv, e = .returned (.tuple #[pv, rv, .bool true]) ∧ Below w.heap.size w w' := by
  have en1 : (en == 1) = false := by simpa using hen.1
  have en2 : (en == 2) = false := by simpa using hen.2
  have e0 : decide ((1025 : Int) < (bl.length : Int)) = false := decide_eq_false (by omega)
  have hq := hide hq
  have hE := hide (newE_of (i0 := i0) (i2 := i2) hq.out)
  have b1 : Below w.heap.size w (w.alloc (.cells #[.int .i64 en, .int .i64 ht, .int .i64 i0, .int .i64 2, .int .u64 i2, .int .i64 i3, .int .u64 i4, .slice ba bl.length bc] 32)) := (Below.refl _ w).alloc (Nat.le_refl _) _
  have V := hide (IsB.new w #[.int .i64 en, .int .i64 ht, .int .i64 i0, .int .i64 2, .int .u64 i2, .int .i64 i3, .int .u64 i4, .slice ba bl.length bc] 32)
  have B := hide b1
  have HR := hide (hR.below b1)
  clear b1 hR
  go_enter Tryd.func8, Tryd.ntmps8
  go_wp2_with fail
  generalize w.alloc (.cells #[.int .i64 en, .int .i64 ht, .int .i64 i0, .int .i64 2, .int .u64 i2, .int .i64 i3, .int .u64 i4, .slice ba bl.length bc] 32) = W1 at V B HR ⊢
  generalize hH : w.heap.size = H at V ⊢
  replace hH := hide hH
  refine (pnew_ok i0 i2 i3 i4 ba bc bl (by omega) hn _ (hr.below B.out) HR.out hb hE.out h2 h3 (by omega)).mono ?_; rintro e w2 ⟨p, lp, lm, km, ca, cc, rfl, -, b2⟩
  replace V := hide (V.out.below b2)
  replace HR := hide (HR.out.below b2)
  replace B := hide (B.out.trans (b2.mono B.out.size))
  clear b2
  have v0 : w2.cell? ⟨H, 0, none⟩ = some (.int .i64 en) := V.out.cell 0
  have v1 : w2.cell? ⟨H, 1, none⟩ = some (.int .i64 ht) := V.out.cell 1
  have v2 : w2.cell? ⟨H, 2, none⟩ = some (.int .i64 i0) := V.out.cell 2
  have v3 : w2.cell? ⟨H, 3, none⟩ = some (.int .i64 2) := V.out.cell 3
  have v4 : w2.cell? ⟨H, 4, none⟩ = some (.int .u64 i2) := V.out.cell 4
  have v5 : w2.cell? ⟨H, 5, none⟩ = some (.int .i64 i3) := V.out.cell 5
  have v6 : w2.cell? ⟨H, 6, none⟩ = some (.int .u64 i4) := V.out.cell 6
  have v7 : w2.cell? ⟨H, 7, none⟩ = some (.slice ba bl.length bc) := V.out.cell 7
  go_wp2_with fail
  clear v0 v1 v2 v3 v4 v5 v6 v7
  refine (rnew_ok i0 i2 i3 i4 ba bc bl hn h2 h3 (by omega) hq.out _ (hr.below B.out)).mono ?_; rintro e w3 ⟨rb, rfl, b3⟩
  replace B := hide (B.out.trans (b3.mono B.out.size))
  clear b3
  go_wp2
  go_ret3
  exact ⟨_, _, rfl, B.out⟩

set_option maxHeartbeats 8000000 in
set_option maxRecDepth 100000 in
theorem madec_head_ok (ht i0 i1 i2 i3 i4 : Int) (ad : Addr) (bn bc : Nat) (hbn : 1025 < bn) (hbc : bn ≤ bc) (h0 : 0 ≤ ht) (h1 : ht ≤ 32) (w : World) (hR : Ranks w) : Calls Tryd.prog 8 #[.agg #[.int .i64 1, .int .i64 ht, .int .i64 i0, .int .i64 i1, .int .u64 i2, .int .i64 i3, .int .u64 i4, .slice (some ad) bn bc]] w fun e w' => ∃ pv rv, e = .returned (.tuple #[pv, rv, .bool true]) ∧ Below w.heap.size w w' := by
  have e0 : decide ((1025 : Int) < (bn : Int)) = true := decide_eq_true (by omega)
  have ec : decide ((1025 : Int) ≤ (bc : Int)) = true := decide_eq_true (by omega)
  have b1 : Below w.heap.size w (w.alloc (.cells #[.int .i64 1, .int .i64 ht, .int .i64 i0, .int .i64 i1, .int .u64 i2, .int .i64 i3, .int .u64 i4, .slice (some ad) 1025 bc] 32)) := (Below.refl _ w).alloc (Nat.le_refl _) _
  have V := hide (IsB.new w #[.int .i64 1, .int .i64 ht, .int .i64 i0, .int .i64 i1, .int .u64 i2, .int .i64 i3, .int .u64 i4, .slice (some ad) 1025 bc] 32)
  have B := hide b1
  have HR := hide (hR.below b1)
  clear b1 hR
  go_enter Tryd.func8, Tryd.ntmps8
  go_wp2_with fail
  generalize w.alloc (.cells #[.int .i64 1, .int .i64 ht, .int .i64 i0, .int .i64 i1, .int .u64 i2, .int .i64 i3, .int .u64 i4, .slice (some ad) 1025 bc] 32) = W1 at V B HR ⊢
  generalize hH : w.heap.size = H at V ⊢
  replace hH := hide hH
  refine (pend_head ht h0 h1 _ HR.out).mono ?_; rintro e w2 ⟨p, lp, lm, km, ca, cc, rfl, -, b2⟩
  replace V := hide (V.out.below b2)
  replace HR := hide (HR.out.below b2)
  replace B := hide (B.out.trans (b2.mono B.out.size))
  clear b2
  have v0 : w2.cell? ⟨H, 0, none⟩ = some (.int .i64 1) := V.out.cell 0
  have v1 : w2.cell? ⟨H, 1, none⟩ = some (.int .i64 ht) := V.out.cell 1
  have v2 : w2.cell? ⟨H, 2, none⟩ = some (.int .i64 i0) := V.out.cell 2
  have v3 : w2.cell? ⟨H, 3, none⟩ = some (.int .i64 i1) := V.out.cell 3
  have v4 : w2.cell? ⟨H, 4, none⟩ = some (.int .u64 i2) := V.out.cell 4
  have v5 : w2.cell? ⟨H, 5, none⟩ = some (.int .i64 i3) := V.out.cell 5
  have v6 : w2.cell? ⟨H, 6, none⟩ = some (.int .u64 i4) := V.out.cell 6
  have v7 : w2.cell? ⟨H, 7, none⟩ = some (.slice (some ad) 1025 bc) := V.out.cell 7
  go_wp2_with fail
  clear v0 v1 v2 v3 v4 v5 v6 v7
  refine (rnewEnd_head_ok ht h0 h1 _).mono ?_; rintro e w3 ⟨rb, rfl, b3⟩
  replace B := hide (B.out.trans (b3.mono B.out.size))
  clear b3
  go_wp2
  go_ret3
  exact ⟨_, _, rfl, B.out⟩

set_option maxHeartbeats 8000000 in
set_option maxRecDepth 100000 in
theorem madec_head_bad (ht i0 i1 i2 i3 i4 : Int) (ad : Addr) (bn bc : Nat) (hbn : 1025 < bn) (hbc : bn ≤ bc) (hn : ht < 0 ∨ 32 < ht) (w : World) (hR : Ranks w) : Calls Tryd.prog 8 #[.agg #[.int .i64 1, .int .i64 ht, .int .i64 i0, .int .i64 i1, .int .u64 i2, .int .i64 i3, .int .u64 i4, .slice (some ad) bn bc]] w fun e w' => ∃ pv rv, e = .returned (.tuple #[pv, rv, .bool true]) ∧ Below w.heap.size w w' := by
  have e0 : decide ((1025 : Int) < (bn : Int)) = true := decide_eq_true (by omega)
  have ec : decide ((1025 : Int) ≤ (bc : Int)) = true := decide_eq_true (by omega)
  have b1 : Below w.heap.size w (w.alloc (.cells #[.int .i64 1, .int .i64 ht, .int .i64 i0, .int .i64 i1, .int .u64 i2, .int .i64 i3, .int .u64 i4, .slice (some ad) 1025 bc] 32)) := (Below.refl _ w).alloc (Nat.le_refl _) _
  have V := hide (IsB.new w #[.int .i64 1, .int .i64 ht, .int .i64 i0, .int .i64 i1, .int .u64 i2, .int .i64 i3, .int .u64 i4, .slice (some ad) 1025 bc] 32)
  have B := hide b1
  have HR := hide (hR.below b1)
  clear b1 hR
  go_enter Tryd.func8, Tryd.ntmps8
  go_wp2_with fail
  generalize w.alloc (.cells #[.int .i64 1, .int .i64 ht, .int .i64 i0, .int .i64 i1, .int .u64 i2, .int .i64 i3, .int .u64 i4, .slice (some ad) 1025 bc] 32) = W1 at V B HR ⊢
  generalize hH : w.heap.size = H at V ⊢
  replace hH := hide hH
  refine (pend_head_bad ht hn _).mono ?_; rintro e w2 ⟨rfl, b2⟩
  replace V := hide (V.out.below b2)
  replace HR := hide (HR.out.below b2)
  replace B := hide (B.out.trans (b2.mono B.out.size))
  clear b2
  have v0 : w2.cell? ⟨H, 0, none⟩ = some (.int .i64 1) := V.out.cell 0
  have v1 : w2.cell? ⟨H, 1, none⟩ = some (.int .i64 ht) := V.out.cell 1
  have v2 : w2.cell? ⟨H, 2, none⟩ = some (.int .i64 i0) := V.out.cell 2
  have v3 : w2.cell? ⟨H, 3, none⟩ = some (.int .i64 i1) := V.out.cell 3
  have v4 : w2.cell? ⟨H, 4, none⟩ = some (.int .u64 i2) := V.out.cell 4
  have v5 : w2.cell? ⟨H, 5, none⟩ = some (.int .i64 i3) := V.out.cell 5
  have v6 : w2.cell? ⟨H, 6, none⟩ = some (.int .u64 i4) := V.out.cell 6
  have v7 : w2.cell? ⟨H, 7, none⟩ = some (.slice (some ad) 1025 bc) := V.out.cell 7
  go_wp2_with fail
  clear v0 v1 v2 v3 v4 v5 v6 v7
  refine (rnewEnd_head_bad ht hn _).mono ?_; rintro e w3 ⟨rfl, b3⟩
  replace B := hide (B.out.trans (b3.mono B.out.size))
  clear b3
  go_wp2
  go_ret3
  exact ⟨_, _, rfl, B.out⟩

set_option maxHeartbeats 8000000 in
set_option maxRecDepth 100000 in
theorem madec_tail_ok (ht i0 i1 i2 i3 i4 : Int) (ad : Addr) (bn bc : Nat) (hbn : 1025 < bn) (hbc : bn ≤ bc) (h0 : 0 ≤ ht) (h1 : ht ≤ 32) (w : World) (hR : Ranks w) : Calls Tryd.prog 8 #[.agg #[.int .i64 2, .int .i64 ht, .int .i64 i0, .int .i64 i1, .int .u64 i2, .int .i64 i3, .int .u64 i4, .slice (some ad) bn bc]] w fun e w' => ∃ pv rv, e = .returned (.tuple #[pv, rv, .bool true]) ∧ Below w.heap.size w w' := by
  have e0 : decide ((1025 : Int) < (bn : Int)) = true := decide_eq_true (by omega)
  have ec : decide ((1025 : Int) ≤ (bc : Int)) = true := decide_eq_true (by omega)
  have b1 : Below w.heap.size w (w.alloc (.cells #[.int .i64 2, .int .i64 ht, .int .i64 i0, .int .i64 i1, .int .u64 i2, .int .i64 i3, .int .u64 i4, .slice (some ad) 1025 bc] 32)) := (Below.refl _ w).alloc (Nat.le_refl _) _
  have V := hide (IsB.new w #[.int .i64 2, .int .i64 ht, .int .i64 i0, .int .i64 i1, .int .u64 i2, .int .i64 i3, .int .u64 i4, .slice (some ad) 1025 bc] 32)
  have B := hide b1
  have HR := hide (hR.below b1)
  clear b1 hR
  go_enter Tryd.func8, Tryd.ntmps8
  go_wp2_with fail
  generalize w.alloc (.cells #[.int .i64 2, .int .i64 ht, .int .i64 i0, .int .i64 i1, .int .u64 i2, .int .i64 i3, .int .u64 i4, .slice (some ad) 1025 bc] 32) = W1 at V B HR ⊢
  generalize hH : w.heap.size = H at V ⊢
  replace hH := hide hH
  refine (pend_tail ht h0 h1 _ HR.out).mono ?_; rintro e w2 ⟨p, lp, lm, km, ca, cc, rfl, -, b2⟩
  replace V := hide (V.out.below b2)
  replace HR := hide (HR.out.below b2)
  replace B := hide (B.out.trans (b2.mono B.out.size))
  clear b2
  have v0 : w2.cell? ⟨H, 0, none⟩ = some (.int .i64 2) := V.out.cell 0
  have v1 : w2.cell? ⟨H, 1, none⟩ = some (.int .i64 ht) := V.out.cell 1
  have v2 : w2.cell? ⟨H, 2, none⟩ = some (.int .i64 i0) := V.out.cell 2
  have v3 : w2.cell? ⟨H, 3, none⟩ = some (.int .i64 i1) := V.out.cell 3
  have v4 : w2.cell? ⟨H, 4, none⟩ = some (.int .u64 i2) := V.out.cell 4
  have v5 : w2.cell? ⟨H, 5, none⟩ = some (.int .i64 i3) := V.out.cell 5
  have v6 : w2.cell? ⟨H, 6, none⟩ = some (.int .u64 i4) := V.out.cell 6
  have v7 : w2.cell? ⟨H, 7, none⟩ = some (.slice (some ad) 1025 bc) := V.out.cell 7
  go_wp2_with fail
  clear v0 v1 v2 v3 v4 v5 v6 v7
  refine (rnewEnd_tail_ok ht h0 h1 _).mono ?_; rintro e w3 ⟨rb, rfl, b3⟩
  replace B := hide (B.out.trans (b3.mono B.out.size))
  clear b3
  go_wp2
  go_ret3
  exact ⟨_, _, rfl, B.out⟩

set_option maxHeartbeats 8000000 in
set_option maxRecDepth 100000 in
theorem madec_tail_bad (ht i0 i1 i2 i3 i4 : Int) (ad : Addr) (bn bc : Nat) (hbn : 1025 < bn) (hbc : bn ≤ bc) (hn : ht < 0 ∨ 32 < ht) (w : World) (hR : Ranks w) : Calls Tryd.prog 8 #[.agg #[.int .i64 2, .int .i64 ht, .int .i64 i0, .int .i64 i1, .int .u64 i2, .int .i64 i3, .int .u64 i4, .slice (some ad) bn bc]] w fun e w' => ∃ pv rv, e = .returned (.tuple #[pv, rv, .bool true]) ∧ Below w.heap.size w w' := by
  have e0 : decide ((1025 : Int) < (bn : Int)) = true := decide_eq_true (by omega)
  have ec : decide ((1025 : Int) ≤ (bc : Int)) = true := decide_eq_true (by omega)
  have b1 : Below w.heap.size w (w.alloc (.cells #[.int .i64 2, .int .i64 ht, .int .i64 i0, .int .i64 i1, .int .u64 i2, .int .i64 i3, .int .u64 i4, .slice (some ad) 1025 bc] 32)) := (Below.refl _ w).alloc (Nat.le_refl _) _
  have V := hide (IsB.new w #[.int .i64 2, .int .i64 ht, .int .i64 i0, .int .i64 i1, .int .u64 i2, .int .i64 i3, .int .u64 i4, .slice (some ad) 1025 bc] 32)
  have B := hide b1
  have HR := hide (hR.below b1)
  clear b1 hR
  go_enter Tryd.func8, Tryd.ntmps8
  go_wp2_with fail
  generalize w.alloc (.cells #[.int .i64 2, .int .i64 ht, .int .i64 i0, .int .i64 i1, .int .u64 i2, .int .i64 i3, .int .u64 i4, .slice (some ad) 1025 bc] 32) = W1 at V B HR ⊢
  generalize hH : w.heap.size = H at V ⊢
  replace hH := hide hH
  refine (pend_tail_bad ht hn _).mono ?_; rintro e w2 ⟨rfl, b2⟩
  replace V := hide (V.out.below b2)
  replace HR := hide (HR.out.below b2)
  replace B := hide (B.out.trans (b2.mono B.out.size))
  clear b2
  have v0 : w2.cell? ⟨H, 0, none⟩ = some (.int .i64 2) := V.out.cell 0
  have v1 : w2.cell? ⟨H, 1, none⟩ = some (.int .i64 ht) := V.out.cell 1
  have v2 : w2.cell? ⟨H, 2, none⟩ = some (.int .i64 i0) := V.out.cell 2
  have v3 : w2.cell? ⟨H, 3, none⟩ = some (.int .i64 i1) := V.out.cell 3
  have v4 : w2.cell? ⟨H, 4, none⟩ = some (.int .u64 i2) := V.out.cell 4
  have v5 : w2.cell? ⟨H, 5, none⟩ = some (.int .i64 i3) := V.out.cell 5
  have v6 : w2.cell? ⟨H, 6, none⟩ = some (.int .u64 i4) := V.out.cell 6
  have v7 : w2.cell? ⟨H, 7, none⟩ = some (.slice (some ad) 1025 bc) := V.out.cell 7
  go_wp2_with fail
  clear v0 v1 v2 v3 v4 v5 v6 v7
  refine (rnewEnd_tail_bad ht hn _).mono ?_; rintro e w3 ⟨rfl, b3⟩
  replace B := hide (B.out.trans (b3.mono B.out.size))
  clear b3
  go_wp2
  go_ret3
  exact ⟨_, _, rfl, B.out⟩

set_option maxHeartbeats 8000000 in
set_option maxRecDepth 100000 in
theorem madec_new (en ht i0 i1 i2 i3 i4 : Int) (ad : Addr) (bn bc : Nat) (hbn : 1025 < bn) (hbc : bn ≤ bc) (hen : en ≠ 1 ∧ en ≠ 2) (hb : 0 ≤ i4) (w : World) (hR : Ranks w) : Calls Tryd.prog 8 #[.agg #[.int .i64 en, .int .i64 ht, .int .i64 i0, .int .i64 i1, .int .u64 i2, .int .i64 i3, .int .u64 i4, .slice (some ad) bn bc]] w fun e w' => ∃ pv rv, e = .returned (.tuple #[pv, rv, .bool true]) ∧ Below w.heap.size w w' := by
  have en1 : (en == 1) = false := by simpa using hen.1
  have en2 : (en == 2) = false := by simpa using hen.2
  have e0 : decide ((1025 : Int) < (bn : Int)) = true := decide_eq_true (by omega)
  have ec : decide ((1025 : Int) ≤ (bc : Int)) = true := decide_eq_true (by omega)
  have hbad : Hid (i1 ≠ 2 ∨ i0 < 2 ∨ 1024 ≤ i0 ∨ (1024 : Int) < ((1025 : Nat) : Int) ∨ rt i3 i4 = false) := Or.inr (Or.inr (Or.inr (Or.inl (by decide))))
  have b1 : Below w.heap.size w (w.alloc (.cells #[.int .i64 en, .int .i64 ht, .int .i64 i0, .int .i64 i1, .int .u64 i2, .int .i64 i3, .int .u64 i4, .slice (some ad) 1025 bc] 32)) := (Below.refl _ w).alloc (Nat.le_refl _) _
  have V := hide (IsB.new w #[.int .i64 en, .int .i64 ht, .int .i64 i0, .int .i64 i1, .int .u64 i2, .int .i64 i3, .int .u64 i4, .slice (some ad) 1025 bc] 32)
  have B := hide b1
  have HR := hide (hR.below b1)
  clear b1 hR
  go_enter Tryd.func8, Tryd.ntmps8
  go_wp2_with fail
  generalize w.alloc (.cells #[.int .i64 en, .int .i64 ht, .int .i64 i0, .int .i64 i1, .int .u64 i2, .int .i64 i3, .int .u64 i4, .slice (some ad) 1025 bc] 32) = W1 at V B HR ⊢
  generalize hH : w.heap.size = H at V ⊢
  replace hH := hide hH
  refine (pnew_bad i0 i1 i2 i3 i4 (some ad) 1025 bc hb hbad.out _ HR.out).mono ?_; rintro e w2 ⟨rfl, b2⟩
  replace V := hide (V.out.below b2)
  replace HR := hide (HR.out.below b2)
  replace B := hide (B.out.trans (b2.mono B.out.size))
  clear b2
  have v0 : w2.cell? ⟨H, 0, none⟩ = some (.int .i64 en) := V.out.cell 0
  have v1 : w2.cell? ⟨H, 1, none⟩ = some (.int .i64 ht) := V.out.cell 1
  have v2 : w2.cell? ⟨H, 2, none⟩ = some (.int .i64 i0) := V.out.cell 2
  have v3 : w2.cell? ⟨H, 3, none⟩ = some (.int .i64 i1) := V.out.cell 3
  have v4 : w2.cell? ⟨H, 4, none⟩ = some (.int .u64 i2) := V.out.cell 4
  have v5 : w2.cell? ⟨H, 5, none⟩ = some (.int .i64 i3) := V.out.cell 5
  have v6 : w2.cell? ⟨H, 6, none⟩ = some (.int .u64 i4) := V.out.cell 6
  have v7 : w2.cell? ⟨H, 7, none⟩ = some (.slice (some ad) 1025 bc) := V.out.cell 7
  go_wp2_with fail
  clear v0 v1 v2 v3 v4 v5 v6 v7
  refine (rnew_bad i0 i1 i2 i3 i4 (some ad) 1025 bc hbad.out _).mono ?_; rintro e w3 ⟨rfl, b3⟩
  replace B := hide (B.out.trans (b3.mono B.out.size))
  clear b3
  go_wp2
  go_ret3
  exact ⟨_, _, rfl, B.out⟩

/-- The law's made, whatever came in. -/
theorem made_any (en ht i0 i1 i2 i3 i4 : Int) (ba : Option Addr) (bc : Nat) (bl : List Int) (hn : ba = none → bc = 0) (hcap : bl.length ≤ bc) (hb : 0 ≤ i4) (w : World) (hr : Rd8 w ba bl) (hR : Ranks w) : Calls Tryd.prog 8 #[.agg #[.int .i64 en, .int .i64 ht, .int .i64 i0, .int .i64 i1, .int .u64 i2, .int .i64 i3, .int .u64 i4, .slice ba bl.length bc]] w fun e w' => ∃ pv rv, e = .returned (.tuple #[pv, rv, .bool true]) ∧ Below w.heap.size w w' := by
  rcases Nat.lt_or_ge 1025 bl.length with hl | hl
  · obtain ⟨ad, rfl⟩ : ∃ ad, ba = some ad := by
      rcases ba with _ | ad
      · have := hn rfl; omega
      · exact ⟨ad, rfl⟩
    by_cases e1 : en = 1
    · subst e1
      by_cases h : ht < 0 ∨ 32 < ht
      · exact madec_head_bad ht i0 i1 i2 i3 i4 ad _ bc hl hcap h w hR
      · exact madec_head_ok ht i0 i1 i2 i3 i4 ad _ bc hl hcap (by omega) (by omega) w hR
    · by_cases e2 : en = 2
      · subst e2
        by_cases h : ht < 0 ∨ 32 < ht
        · exact madec_tail_bad ht i0 i1 i2 i3 i4 ad _ bc hl hcap h w hR
        · exact madec_tail_ok ht i0 i1 i2 i3 i4 ad _ bc hl hcap (by omega) (by omega) w hR
      · exact madec_new en ht i0 i1 i2 i3 i4 ad _ bc hl hcap ⟨e1, e2⟩ hb w hR
  · by_cases e1 : en = 1
    · subst e1
      by_cases h : ht < 0 ∨ 32 < ht
      · exact made_head_bad ht i0 i1 i2 i3 i4 ba _ bc hl h w hR
      · exact made_head_ok ht i0 i1 i2 i3 i4 ba _ bc hl (by omega) (by omega) w hR
    · by_cases e2 : en = 2
      · subst e2
        by_cases h : ht < 0 ∨ 32 < ht
        · exact made_tail_bad ht i0 i1 i2 i3 i4 ba _ bc hl h w hR
        · exact made_tail_ok ht i0 i1 i2 i3 i4 ba _ bc hl (by omega) (by omega) w hR
      · rcases hB : newB i0 i1 i3 i4 bl.length with _ | _
        · exact made_new_bad en ht i0 i1 i2 i3 i4 ba _ bc hl ⟨e1, e2⟩ hb (newB_no hB) w hR
        · obtain ⟨rfl, h1, h2, h3, h4⟩ := newB_yes hB
          exact made_new_ok en ht i0 i2 i3 i4 ba bc bl hn h4 ⟨e1, e2⟩ hb h1 h2 h3 w hr hR

end Go.Proofs.YtdogdinkopocaaaDoor
