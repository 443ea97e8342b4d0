/- Packages pack and msg: may a reference be? -/
import Derived.Test.YtdogdinkopocaaaDoorKO
namespace Go.Proofs.YtdogdinkopocaaaDoor
open Go.RowKit Go.Maps

/-- May a reference be? -/
def refOk (r x l b : Int) : Bool := decide (ckE r x = 0) && rt l b
theorem fl_info : (Tryd.prog.info? 102).map (·.size) = some 14 := by kernel_rfl
theorem ret_fl {fn : Func} {p : Tmp} (hf : fn.results = #[.cell p 102]) {Q : Ending → World → Prop} {tmps : Array Value} {w : World} {b : Nat} {cs : Array Value} (hs : cs.size = 14)
    (hp : tmps.getD p undef = .pointer (some ⟨b, 0, none⟩)) (I : IsB w b cs 102) (hQ : Q (.returned (.agg cs)) w) :
    bodyPost Tryd.prog fn Q .ret ⟨tmps, []⟩ w :=
  bodyPost_ret (results_cell_row hf tmps w b 102 cs (0, 0) _ hp I Tryd.underlying102 rfl (by rw [hs]; exact fl_info)) rfl hQ
theorem IsB.alloc {w : World} {b : Nat} {cs : Array Value} {t : TypeId} (h : IsB w b cs t) (o : Obj) : IsB (w.alloc o) b cs t := h.below ((Below.refl _ _).alloc (Nat.le_refl _) o)
theorem conv_nil (w : World) : (convert 30 9 (.slice none 0 0)).run Tryd.prog w = .ok (.string ⟨#[]⟩) w := by
  rw [run_convert_bytes_string (P := Tryd.prog) w 30 9 5 none 0 0 Tryd.underlying30 Tryd.underlying5 Tryd.underlying9]
  rfl

set_option maxHeartbeats 400000 in
set_option maxRecDepth 100000 in
theorem equal_nil (w : World) : Calls Tryd.prog 81 #[.slice none 0 0, .slice none 0 0] w fun e w' => e = .returned (.bool true) ∧ w' = w := by
  have hc := conv_nil w
  go_enter Tryd.func81, Tryd.ntmps81
  go_wp2
  go_ret
  exact ⟨rfl, rfl⟩

set_option maxHeartbeats 400000 in
set_option maxRecDepth 100000 in
theorem isKind_yes (k : Int) (h0 : 1 ≤ k) (h1 : k ≤ 7) (w : World) : Calls Tryd.prog 64 #[.int .i64 k] w fun e w' => e = .returned (.bool true) ∧ w' = w := by
  have d0 : decide (1 ≤ k) = true := decide_eq_true h0
  have d1 : decide (k ≤ 7) = true := decide_eq_true h1
  go_enter Tryd.func64, Tryd.ntmps64
  go_wp2
  go_ret
  exact ⟨rfl, rfl⟩

set_option maxHeartbeats 4000000 in
set_option maxRecDepth 100000 in
theorem same_zero (w : World) : Calls Tryd.prog 66 #[.agg #[.int .i64 0, .int .u64 0, .int .i64 0, .bool false, .slice none 0 0, .int .i64 0, .int .u64 0, .int .i64 0, .int .u64 0, .int .i64 0, .int .i64 0, .int .u64 0, .int .i64 0, .int .u64 0], .agg #[.int .i64 0, .int .u64 0, .int .i64 0, .bool false, .slice none 0 0, .int .i64 0, .int .u64 0, .int .i64 0, .int .u64 0, .int .i64 0, .int .i64 0, .int .u64 0, .int .i64 0, .int .u64 0]] w fun e w' => e = .returned (.bool true) ∧ Below w.heap.size w w' := by
  have HI := hide ((IsB.new w #[.int .i64 0, .int .u64 0, .int .i64 0, .bool false, .slice none 0 0, .int .i64 0, .int .u64 0, .int .i64 0, .int .u64 0, .int .i64 0, .int .i64 0, .int .u64 0, .int .i64 0, .int .u64 0] 102).alloc (.cells #[.int .i64 0, .int .u64 0, .int .i64 0, .bool false, .slice none 0 0, .int .i64 0, .int .u64 0, .int .i64 0, .int .u64 0, .int .i64 0, .int .i64 0, .int .u64 0, .int .i64 0, .int .u64 0] 102))
  have HJ := IsB.new (w.alloc (.cells #[.int .i64 0, .int .u64 0, .int .i64 0, .bool false, .slice none 0 0, .int .i64 0, .int .u64 0, .int .i64 0, .int .u64 0, .int .i64 0, .int .i64 0, .int .u64 0, .int .i64 0, .int .u64 0] 102)) #[.int .i64 0, .int .u64 0, .int .i64 0, .bool false, .slice none 0 0, .int .i64 0, .int .u64 0, .int .i64 0, .int .u64 0, .int .i64 0, .int .i64 0, .int .u64 0, .int .i64 0, .int .u64 0] 102
  rw [World.size_alloc] at HJ
  replace HJ := hide HJ
  have HB := hide (show Below w.heap.size w ((w.alloc (.cells #[.int .i64 0, .int .u64 0, .int .i64 0, .bool false, .slice none 0 0, .int .i64 0, .int .u64 0, .int .i64 0, .int .u64 0, .int .i64 0, .int .i64 0, .int .u64 0, .int .i64 0, .int .u64 0] 102)).alloc (.cells #[.int .i64 0, .int .u64 0, .int .i64 0, .bool false, .slice none 0 0, .int .i64 0, .int .u64 0, .int .i64 0, .int .u64 0, .int .i64 0, .int .i64 0, .int .u64 0, .int .i64 0, .int .u64 0] 102)) from ((Below.refl _ w).alloc (Nat.le_refl _) _).alloc (by simp) _)
  go_enter Tryd.func66, Tryd.ntmps66
  go_wp2_with fail
  generalize (w.alloc (.cells #[.int .i64 0, .int .u64 0, .int .i64 0, .bool false, .slice none 0 0, .int .i64 0, .int .u64 0, .int .i64 0, .int .u64 0, .int .i64 0, .int .i64 0, .int .u64 0, .int .i64 0, .int .u64 0] 102)).alloc (.cells #[.int .i64 0, .int .u64 0, .int .i64 0, .bool false, .slice none 0 0, .int .i64 0, .int .u64 0, .int .i64 0, .int .u64 0, .int .i64 0, .int .i64 0, .int .u64 0, .int .i64 0, .int .u64 0] 102) = W0 at HI HJ HB ⊢
  have a0 : W0.cell? ⟨w.heap.size, 0, none⟩ = some (.int .i64 0) := HI.out.cell 0
  have a1 : W0.cell? ⟨w.heap.size, 1, none⟩ = some (.int .u64 0) := HI.out.cell 1
  have a2 : W0.cell? ⟨w.heap.size, 2, none⟩ = some (.int .i64 0) := HI.out.cell 2
  have a3 : W0.cell? ⟨w.heap.size, 3, none⟩ = some (.bool false) := HI.out.cell 3
  have a4 : W0.cell? ⟨w.heap.size, 4, none⟩ = some (.slice none 0 0) := HI.out.cell 4
  have a5 : W0.cell? ⟨w.heap.size, 5, none⟩ = some (.int .i64 0) := HI.out.cell 5
  have a6 : W0.cell? ⟨w.heap.size, 6, none⟩ = some (.int .u64 0) := HI.out.cell 6
  have a7 : W0.cell? ⟨w.heap.size, 7, none⟩ = some (.int .i64 0) := HI.out.cell 7
  have a8 : W0.cell? ⟨w.heap.size, 8, none⟩ = some (.int .u64 0) := HI.out.cell 8
  have a9 : W0.cell? ⟨w.heap.size, 9, none⟩ = some (.int .i64 0) := HI.out.cell 9
  have a10 : W0.cell? ⟨w.heap.size, 10, none⟩ = some (.int .i64 0) := HI.out.cell 10
  have a11 : W0.cell? ⟨w.heap.size, 11, none⟩ = some (.int .u64 0) := HI.out.cell 11
  have a12 : W0.cell? ⟨w.heap.size, 12, none⟩ = some (.int .i64 0) := HI.out.cell 12
  have a13 : W0.cell? ⟨w.heap.size, 13, none⟩ = some (.int .u64 0) := HI.out.cell 13
  have b0 : W0.cell? ⟨w.heap.size + 1, 0, none⟩ = some (.int .i64 0) := HJ.out.cell 0
  have b1 : W0.cell? ⟨w.heap.size + 1, 1, none⟩ = some (.int .u64 0) := HJ.out.cell 1
  have b2 : W0.cell? ⟨w.heap.size + 1, 2, none⟩ = some (.int .i64 0) := HJ.out.cell 2
  have b3 : W0.cell? ⟨w.heap.size + 1, 3, none⟩ = some (.bool false) := HJ.out.cell 3
  have b4 : W0.cell? ⟨w.heap.size + 1, 4, none⟩ = some (.slice none 0 0) := HJ.out.cell 4
  have b5 : W0.cell? ⟨w.heap.size + 1, 5, none⟩ = some (.int .i64 0) := HJ.out.cell 5
  have b6 : W0.cell? ⟨w.heap.size + 1, 6, none⟩ = some (.int .u64 0) := HJ.out.cell 6
  have b7 : W0.cell? ⟨w.heap.size + 1, 7, none⟩ = some (.int .i64 0) := HJ.out.cell 7
  have b8 : W0.cell? ⟨w.heap.size + 1, 8, none⟩ = some (.int .u64 0) := HJ.out.cell 8
  have b9 : W0.cell? ⟨w.heap.size + 1, 9, none⟩ = some (.int .i64 0) := HJ.out.cell 9
  have b10 : W0.cell? ⟨w.heap.size + 1, 10, none⟩ = some (.int .i64 0) := HJ.out.cell 10
  have b11 : W0.cell? ⟨w.heap.size + 1, 11, none⟩ = some (.int .u64 0) := HJ.out.cell 11
  have b12 : W0.cell? ⟨w.heap.size + 1, 12, none⟩ = some (.int .i64 0) := HJ.out.cell 12
  have b13 : W0.cell? ⟨w.heap.size + 1, 13, none⟩ = some (.int .u64 0) := HJ.out.cell 13
  refine (equal_nil _).mono ?_; rintro e w1 ⟨rfl, rfl⟩
  go_wp2
  go_ret
  exact ⟨rfl, HB.out⟩

set_option maxHeartbeats 4000000 in
set_option maxRecDepth 100000 in
theorem own_ref (i r x l b : Int) (hb : 0 ≤ b) (w : World) (hR : Ranks w) : Calls Tryd.prog 65 #[.agg #[.int .i64 7, .int .u64 0, .int .i64 0, .bool false, .slice none 0 0, .int .i64 0, .int .u64 0, .int .i64 0, .int .u64 0, .int .i64 i, .int .i64 r, .int .u64 x, .int .i64 l, .int .u64 b]] w fun e w' => e = .returned (.bool (refOk r x l b)) ∧ Below w.heap.size w w' := by
  unfold refOk
  rcases ckE_or r x with hc | hc
  · have HC := hide hc
    clear hc
    have HR := hide hR
    clear hR
    have HI := hide (IsB.new w #[.int .i64 7, .int .u64 0, .int .i64 0, .bool false, .slice none 0 0, .int .i64 0, .int .u64 0, .int .i64 0, .int .u64 0, .int .i64 i, .int .i64 r, .int .u64 x, .int .i64 l, .int .u64 b] 102)
    have HB := hide (show Below w.heap.size w (w.alloc (.cells #[.int .i64 7, .int .u64 0, .int .i64 0, .bool false, .slice none 0 0, .int .i64 0, .int .u64 0, .int .i64 0, .int .u64 0, .int .i64 i, .int .i64 r, .int .u64 x, .int .i64 l, .int .u64 b] 102)) from (Below.refl _ w).alloc (Nat.le_refl _) _)
    go_enter Tryd.func65, Tryd.ntmps65
    go_wp2_with fail
    generalize w.alloc (.cells #[.int .i64 7, .int .u64 0, .int .i64 0, .bool false, .slice none 0 0, .int .i64 0, .int .u64 0, .int .i64 0, .int .u64 0, .int .i64 i, .int .i64 r, .int .u64 x, .int .i64 l, .int .u64 b] 102) = W0 at HI HB ⊢
    have a0 : W0.cell? ⟨w.heap.size, 0, none⟩ = some (.int .i64 7) := HI.out.cell 0
    have a1 : W0.cell? ⟨w.heap.size, 1, none⟩ = some (.int .u64 0) := HI.out.cell 1
    have a2 : W0.cell? ⟨w.heap.size, 2, none⟩ = some (.int .i64 0) := HI.out.cell 2
    have a3 : W0.cell? ⟨w.heap.size, 3, none⟩ = some (.bool false) := HI.out.cell 3
    have a4 : W0.cell? ⟨w.heap.size, 4, none⟩ = some (.slice none 0 0) := HI.out.cell 4
    have a5 : W0.cell? ⟨w.heap.size, 5, none⟩ = some (.int .i64 0) := HI.out.cell 5
    have a6 : W0.cell? ⟨w.heap.size, 6, none⟩ = some (.int .u64 0) := HI.out.cell 6
    have a7 : W0.cell? ⟨w.heap.size, 7, none⟩ = some (.int .i64 0) := HI.out.cell 7
    have a8 : W0.cell? ⟨w.heap.size, 8, none⟩ = some (.int .u64 0) := HI.out.cell 8
    have a9 : W0.cell? ⟨w.heap.size, 9, none⟩ = some (.int .i64 i) := HI.out.cell 9
    have a10 : W0.cell? ⟨w.heap.size, 10, none⟩ = some (.int .i64 r) := HI.out.cell 10
    have a11 : W0.cell? ⟨w.heap.size, 11, none⟩ = some (.int .u64 x) := HI.out.cell 11
    have a12 : W0.cell? ⟨w.heap.size, 12, none⟩ = some (.int .i64 l) := HI.out.cell 12
    have a13 : W0.cell? ⟨w.heap.size, 13, none⟩ = some (.int .u64 b) := HI.out.cell 13
    have ck := kCheck_any r x W0 (HR.out.below HB.out)
    rw [HC.out] at ck
    go_wp2_with fail
    clear a0 a1 a2 a3 a4 a5 a6 a7 a8 a9 a10 a11 a12 a13
    refine ck.mono ?_; rintro e w1 ⟨rfl, hg⟩
    replace HI := hide (HI.out.below hg.below)
    replace HB := hide (HB.out.trans (hg.below.mono HB.out.size))
    clear hg
    have a0 : w1.cell? ⟨w.heap.size, 0, none⟩ = some (.int .i64 7) := HI.out.cell 0
    have a1 : w1.cell? ⟨w.heap.size, 1, none⟩ = some (.int .u64 0) := HI.out.cell 1
    have a2 : w1.cell? ⟨w.heap.size, 2, none⟩ = some (.int .i64 0) := HI.out.cell 2
    have a3 : w1.cell? ⟨w.heap.size, 3, none⟩ = some (.bool false) := HI.out.cell 3
    have a4 : w1.cell? ⟨w.heap.size, 4, none⟩ = some (.slice none 0 0) := HI.out.cell 4
    have a5 : w1.cell? ⟨w.heap.size, 5, none⟩ = some (.int .i64 0) := HI.out.cell 5
    have a6 : w1.cell? ⟨w.heap.size, 6, none⟩ = some (.int .u64 0) := HI.out.cell 6
    have a7 : w1.cell? ⟨w.heap.size, 7, none⟩ = some (.int .i64 0) := HI.out.cell 7
    have a8 : w1.cell? ⟨w.heap.size, 8, none⟩ = some (.int .u64 0) := HI.out.cell 8
    have a9 : w1.cell? ⟨w.heap.size, 9, none⟩ = some (.int .i64 i) := HI.out.cell 9
    have a10 : w1.cell? ⟨w.heap.size, 10, none⟩ = some (.int .i64 r) := HI.out.cell 10
    have a11 : w1.cell? ⟨w.heap.size, 11, none⟩ = some (.int .u64 x) := HI.out.cell 11
    have a12 : w1.cell? ⟨w.heap.size, 12, none⟩ = some (.int .i64 l) := HI.out.cell 12
    have a13 : w1.cell? ⟨w.heap.size, 13, none⟩ = some (.int .u64 b) := HI.out.cell 13
    go_wp2_with fail
    clear a0 a1 a2 a3 a4 a5 a6 a7 a8 a9 a10 a11 a12 a13
    refine (vright_any l b hb _).mono ?_; rintro e w2 ⟨rfl, hb2⟩
    replace HB := hide (HB.out.trans (hb2.mono HB.out.size))
    clear hb2
    rcases hq : rt l b with _ | _
    · rw [reS_no hq]
      go_wp2
      go_ret
      exact ⟨by simp [HC.out, hq], HB.out⟩
    · rw [reS_yes hq]
      go_wp2
      go_ret
      exact ⟨by simp [HC.out, hq], HB.out⟩
  · have HC := hide hc
    clear hc
    have HR := hide hR
    clear hR
    have HI := hide (IsB.new w #[.int .i64 7, .int .u64 0, .int .i64 0, .bool false, .slice none 0 0, .int .i64 0, .int .u64 0, .int .i64 0, .int .u64 0, .int .i64 i, .int .i64 r, .int .u64 x, .int .i64 l, .int .u64 b] 102)
    have HB := hide (show Below w.heap.size w (w.alloc (.cells #[.int .i64 7, .int .u64 0, .int .i64 0, .bool false, .slice none 0 0, .int .i64 0, .int .u64 0, .int .i64 0, .int .u64 0, .int .i64 i, .int .i64 r, .int .u64 x, .int .i64 l, .int .u64 b] 102)) from (Below.refl _ w).alloc (Nat.le_refl _) _)
    go_enter Tryd.func65, Tryd.ntmps65
    go_wp2_with fail
    generalize w.alloc (.cells #[.int .i64 7, .int .u64 0, .int .i64 0, .bool false, .slice none 0 0, .int .i64 0, .int .u64 0, .int .i64 0, .int .u64 0, .int .i64 i, .int .i64 r, .int .u64 x, .int .i64 l, .int .u64 b] 102) = W0 at HI HB ⊢
    have a0 : W0.cell? ⟨w.heap.size, 0, none⟩ = some (.int .i64 7) := HI.out.cell 0
    have a1 : W0.cell? ⟨w.heap.size, 1, none⟩ = some (.int .u64 0) := HI.out.cell 1
    have a2 : W0.cell? ⟨w.heap.size, 2, none⟩ = some (.int .i64 0) := HI.out.cell 2
    have a3 : W0.cell? ⟨w.heap.size, 3, none⟩ = some (.bool false) := HI.out.cell 3
    have a4 : W0.cell? ⟨w.heap.size, 4, none⟩ = some (.slice none 0 0) := HI.out.cell 4
    have a5 : W0.cell? ⟨w.heap.size, 5, none⟩ = some (.int .i64 0) := HI.out.cell 5
    have a6 : W0.cell? ⟨w.heap.size, 6, none⟩ = some (.int .u64 0) := HI.out.cell 6
    have a7 : W0.cell? ⟨w.heap.size, 7, none⟩ = some (.int .i64 0) := HI.out.cell 7
    have a8 : W0.cell? ⟨w.heap.size, 8, none⟩ = some (.int .u64 0) := HI.out.cell 8
    have a9 : W0.cell? ⟨w.heap.size, 9, none⟩ = some (.int .i64 i) := HI.out.cell 9
    have a10 : W0.cell? ⟨w.heap.size, 10, none⟩ = some (.int .i64 r) := HI.out.cell 10
    have a11 : W0.cell? ⟨w.heap.size, 11, none⟩ = some (.int .u64 x) := HI.out.cell 11
    have a12 : W0.cell? ⟨w.heap.size, 12, none⟩ = some (.int .i64 l) := HI.out.cell 12
    have a13 : W0.cell? ⟨w.heap.size, 13, none⟩ = some (.int .u64 b) := HI.out.cell 13
    have ck := kCheck_any r x W0 (HR.out.below HB.out)
    rw [HC.out] at ck
    go_wp2_with fail
    clear a0 a1 a2 a3 a4 a5 a6 a7 a8 a9 a10 a11 a12 a13
    refine ck.mono ?_; rintro e w1 ⟨rfl, hg⟩
    replace HB := hide (HB.out.trans (hg.below.mono HB.out.size))
    clear hg
    go_wp2
    go_ret
    exact ⟨by simp [HC.out], HB.out⟩

set_option maxHeartbeats 2000000 in
set_option maxRecDepth 100000 in
theorem without_ref (i r x l b : Int) (w : World) : Calls Tryd.prog 67 #[.agg #[.int .i64 7, .int .u64 0, .int .i64 0, .bool false, .slice none 0 0, .int .i64 0, .int .u64 0, .int .i64 0, .int .u64 0, .int .i64 i, .int .i64 r, .int .u64 x, .int .i64 l, .int .u64 b]] w fun e w' => e = .returned (.agg #[.int .i64 0, .int .u64 0, .int .i64 0, .bool false, .slice none 0 0, .int .i64 0, .int .u64 0, .int .i64 0, .int .u64 0, .int .i64 0, .int .i64 0, .int .u64 0, .int .i64 0, .int .u64 0]) ∧ Below w.heap.size w w' := by
  go_enter Tryd.func67, Tryd.ntmps67
  go_wp2
  have I := IsB.new (w.alloc (.cells #[.int .i64 0, .int .u64 0, .int .i64 0, .bool false, .slice none 0 0, .int .i64 0, .int .u64 0, .int .i64 0, .int .u64 0, .int .i64 0, .int .i64 0, .int .u64 0, .int .i64 0, .int .u64 0] 102)) #[.int .i64 0, .int .u64 0, .int .i64 0, .bool false, .slice none 0 0, .int .i64 0, .int .u64 0, .int .i64 0, .int .u64 0, .int .i64 0, .int .i64 0, .int .u64 0, .int .i64 0, .int .u64 0] 102
  rw [World.size_alloc] at I
  refine ret_fl (b := w.heap.size + 1) Tryd.results67 rfl rfl I ?_
  exact ⟨rfl, ((Below.refl _ w).alloc (Nat.le_refl _) _).alloc (by simp) _⟩

def fldE : Bool → Int
  | true => 0
  | false => 30

set_option maxHeartbeats 4000000 in
set_option maxRecDepth 100000 in
theorem check_ref (i r x l b : Int) (hb : 0 ≤ b) (w : World) (hR : Ranks w) : Calls Tryd.prog 42 #[.agg #[.int .i64 7, .int .u64 0, .int .i64 0, .bool false, .slice none 0 0, .int .i64 0, .int .u64 0, .int .i64 0, .int .u64 0, .int .i64 i, .int .i64 r, .int .u64 x, .int .i64 l, .int .u64 b]] w fun e w' => e = .returned (.int .i64 (fldE (refOk r x l b))) ∧ Below w.heap.size w w' := by
  have ho := hide (fun w hR => own_ref i r x l b hb w hR)
  have hw := hide (fun w => without_ref i r x l b w)
  have HR := hide hR
  clear hR
  have HI := hide (IsB.new w #[.int .i64 7, .int .u64 0, .int .i64 0, .bool false, .slice none 0 0, .int .i64 0, .int .u64 0, .int .i64 0, .int .u64 0, .int .i64 i, .int .i64 r, .int .u64 x, .int .i64 l, .int .u64 b] 102)
  have HB := hide (show Below w.heap.size w (w.alloc (.cells #[.int .i64 7, .int .u64 0, .int .i64 0, .bool false, .slice none 0 0, .int .i64 0, .int .u64 0, .int .i64 0, .int .u64 0, .int .i64 i, .int .i64 r, .int .u64 x, .int .i64 l, .int .u64 b] 102)) from (Below.refl _ w).alloc (Nat.le_refl _) _)
  rcases hq : refOk r x l b with _ | _
  · replace hq := hide hq
    go_enter Tryd.func42, Tryd.ntmps42
    go_wp2_with fail
    generalize w.alloc (.cells #[.int .i64 7, .int .u64 0, .int .i64 0, .bool false, .slice none 0 0, .int .i64 0, .int .u64 0, .int .i64 0, .int .u64 0, .int .i64 i, .int .i64 r, .int .u64 x, .int .i64 l, .int .u64 b] 102) = W0 at HI HB ⊢
    have a0 : W0.cell? ⟨w.heap.size, 0, none⟩ = some (.int .i64 7) := HI.out.cell 0
    have a1 : W0.cell? ⟨w.heap.size, 1, none⟩ = some (.int .u64 0) := HI.out.cell 1
    have a2 : W0.cell? ⟨w.heap.size, 2, none⟩ = some (.int .i64 0) := HI.out.cell 2
    have a3 : W0.cell? ⟨w.heap.size, 3, none⟩ = some (.bool false) := HI.out.cell 3
    have a4 : W0.cell? ⟨w.heap.size, 4, none⟩ = some (.slice none 0 0) := HI.out.cell 4
    have a5 : W0.cell? ⟨w.heap.size, 5, none⟩ = some (.int .i64 0) := HI.out.cell 5
    have a6 : W0.cell? ⟨w.heap.size, 6, none⟩ = some (.int .u64 0) := HI.out.cell 6
    have a7 : W0.cell? ⟨w.heap.size, 7, none⟩ = some (.int .i64 0) := HI.out.cell 7
    have a8 : W0.cell? ⟨w.heap.size, 8, none⟩ = some (.int .u64 0) := HI.out.cell 8
    have a9 : W0.cell? ⟨w.heap.size, 9, none⟩ = some (.int .i64 i) := HI.out.cell 9
    have a10 : W0.cell? ⟨w.heap.size, 10, none⟩ = some (.int .i64 r) := HI.out.cell 10
    have a11 : W0.cell? ⟨w.heap.size, 11, none⟩ = some (.int .u64 x) := HI.out.cell 11
    have a12 : W0.cell? ⟨w.heap.size, 12, none⟩ = some (.int .i64 l) := HI.out.cell 12
    have a13 : W0.cell? ⟨w.heap.size, 13, none⟩ = some (.int .u64 b) := HI.out.cell 13
    refine (isKind_yes 7 (by omega) (by omega) _).mono ?_; rintro e w1 ⟨rfl, rfl⟩
    go_wp2_with fail
    clear a0 a1 a2 a3 a4 a5 a6 a7 a8 a9 a10 a11 a12 a13
    refine (ho.out _ (HR.out.below HB.out)).mono ?_; rintro e w2 ⟨rfl, hg⟩
    rw [hq.out]
    replace HI := hide (HI.out.below hg)
    replace HB := hide (HB.out.trans (hg.mono HB.out.size))
    clear hg
    go_wp2
    go_ret
    exact ⟨rfl, HB.out⟩
  · replace hq := hide hq
    go_enter Tryd.func42, Tryd.ntmps42
    go_wp2_with fail
    generalize w.alloc (.cells #[.int .i64 7, .int .u64 0, .int .i64 0, .bool false, .slice none 0 0, .int .i64 0, .int .u64 0, .int .i64 0, .int .u64 0, .int .i64 i, .int .i64 r, .int .u64 x, .int .i64 l, .int .u64 b] 102) = W0 at HI HB ⊢
    have a0 : W0.cell? ⟨w.heap.size, 0, none⟩ = some (.int .i64 7) := HI.out.cell 0
    have a1 : W0.cell? ⟨w.heap.size, 1, none⟩ = some (.int .u64 0) := HI.out.cell 1
    have a2 : W0.cell? ⟨w.heap.size, 2, none⟩ = some (.int .i64 0) := HI.out.cell 2
    have a3 : W0.cell? ⟨w.heap.size, 3, none⟩ = some (.bool false) := HI.out.cell 3
    have a4 : W0.cell? ⟨w.heap.size, 4, none⟩ = some (.slice none 0 0) := HI.out.cell 4
    have a5 : W0.cell? ⟨w.heap.size, 5, none⟩ = some (.int .i64 0) := HI.out.cell 5
    have a6 : W0.cell? ⟨w.heap.size, 6, none⟩ = some (.int .u64 0) := HI.out.cell 6
    have a7 : W0.cell? ⟨w.heap.size, 7, none⟩ = some (.int .i64 0) := HI.out.cell 7
    have a8 : W0.cell? ⟨w.heap.size, 8, none⟩ = some (.int .u64 0) := HI.out.cell 8
    have a9 : W0.cell? ⟨w.heap.size, 9, none⟩ = some (.int .i64 i) := HI.out.cell 9
    have a10 : W0.cell? ⟨w.heap.size, 10, none⟩ = some (.int .i64 r) := HI.out.cell 10
    have a11 : W0.cell? ⟨w.heap.size, 11, none⟩ = some (.int .u64 x) := HI.out.cell 11
    have a12 : W0.cell? ⟨w.heap.size, 12, none⟩ = some (.int .i64 l) := HI.out.cell 12
    have a13 : W0.cell? ⟨w.heap.size, 13, none⟩ = some (.int .u64 b) := HI.out.cell 13
    refine (isKind_yes 7 (by omega) (by omega) _).mono ?_; rintro e w1 ⟨rfl, rfl⟩
    go_wp2_with fail
    clear a0 a1 a2 a3 a4 a5 a6 a7 a8 a9 a10 a11 a12 a13
    refine (ho.out _ (HR.out.below HB.out)).mono ?_; rintro e w2 ⟨rfl, hg⟩
    rw [hq.out]
    replace HI := hide (HI.out.below hg)
    replace HB := hide (HB.out.trans (hg.mono HB.out.size))
    clear hg
    have a0 : w2.cell? ⟨w.heap.size, 0, none⟩ = some (.int .i64 7) := HI.out.cell 0
    have a1 : w2.cell? ⟨w.heap.size, 1, none⟩ = some (.int .u64 0) := HI.out.cell 1
    have a2 : w2.cell? ⟨w.heap.size, 2, none⟩ = some (.int .i64 0) := HI.out.cell 2
    have a3 : w2.cell? ⟨w.heap.size, 3, none⟩ = some (.bool false) := HI.out.cell 3
    have a4 : w2.cell? ⟨w.heap.size, 4, none⟩ = some (.slice none 0 0) := HI.out.cell 4
    have a5 : w2.cell? ⟨w.heap.size, 5, none⟩ = some (.int .i64 0) := HI.out.cell 5
    have a6 : w2.cell? ⟨w.heap.size, 6, none⟩ = some (.int .u64 0) := HI.out.cell 6
    have a7 : w2.cell? ⟨w.heap.size, 7, none⟩ = some (.int .i64 0) := HI.out.cell 7
    have a8 : w2.cell? ⟨w.heap.size, 8, none⟩ = some (.int .u64 0) := HI.out.cell 8
    have a9 : w2.cell? ⟨w.heap.size, 9, none⟩ = some (.int .i64 i) := HI.out.cell 9
    have a10 : w2.cell? ⟨w.heap.size, 10, none⟩ = some (.int .i64 r) := HI.out.cell 10
    have a11 : w2.cell? ⟨w.heap.size, 11, none⟩ = some (.int .u64 x) := HI.out.cell 11
    have a12 : w2.cell? ⟨w.heap.size, 12, none⟩ = some (.int .i64 l) := HI.out.cell 12
    have a13 : w2.cell? ⟨w.heap.size, 13, none⟩ = some (.int .u64 b) := HI.out.cell 13
    go_wp2_with fail
    clear a0 a1 a2 a3 a4 a5 a6 a7 a8 a9 a10 a11 a12 a13
    refine (hw.out _).mono ?_; rintro e w3 ⟨rfl, hg⟩
    replace HB := hide (HB.out.trans (hg.mono HB.out.size))
    clear hg
    go_wp2_with fail
    refine (same_zero _).mono ?_; rintro e w4 ⟨rfl, hg⟩
    replace HB := hide (HB.out.trans (hg.mono HB.out.size))
    clear hg
    go_wp2
    go_ret
    exact ⟨rfl, HB.out⟩

set_option maxHeartbeats 2000000 in
set_option maxRecDepth 100000 in
theorem reference_any (i r x l b : Int) (w : World) : Calls Tryd.prog 43 #[.agg #[.int .i64 i, .int .i64 r, .int .u64 x, .int .i64 l, .int .u64 b]] w fun e w' => e = .returned (.agg #[.int .i64 7, .int .u64 0, .int .i64 0, .bool false, .slice none 0 0, .int .i64 0, .int .u64 0, .int .i64 0, .int .u64 0, .int .i64 i, .int .i64 r, .int .u64 x, .int .i64 l, .int .u64 b]) ∧ Below w.heap.size w w' := by
  go_enter Tryd.func43, Tryd.ntmps43
  go_wp2
  have I := IsB.new (w.alloc (.cells #[.int .i64 i, .int .i64 r, .int .u64 x, .int .i64 l, .int .u64 b] 29)) #[.int .i64 7, .int .u64 0, .int .i64 0, .bool false, .slice none 0 0, .int .i64 0, .int .u64 0, .int .i64 0, .int .u64 0, .int .i64 i, .int .i64 r, .int .u64 x, .int .i64 l, .int .u64 b] 102
  rw [World.size_alloc] at I
  refine ret_fl (b := w.heap.size + 1) Tryd.results43 rfl rfl I ?_
  exact ⟨rfl, ((Below.refl _ w).alloc (Nat.le_refl _) _).alloc (by simp) _⟩

set_option maxHeartbeats 4000000 in
set_option maxRecDepth 100000 in
theorem refMayBe_any (i r x l b : Int) (hb : 0 ≤ b) (w : World) (hR : Ranks w) : Calls Tryd.prog 29 #[.agg #[.int .i64 i, .int .i64 r, .int .u64 x, .int .i64 l, .int .u64 b]] w fun e w' => e = .returned (.bool (refOk r x l b)) ∧ Below w.heap.size w w' := by
  have HB := hide (show Below w.heap.size w (w.alloc (.cells #[.int .i64 i, .int .i64 r, .int .u64 x, .int .i64 l, .int .u64 b] 29)) from (Below.refl _ w).alloc (Nat.le_refl _) _)
  have HR := hide (hR.below HB.out)
  clear hR
  go_enter Tryd.func29, Tryd.ntmps29
  go_wp2_with fail
  generalize w.alloc (.cells #[.int .i64 i, .int .i64 r, .int .u64 x, .int .i64 l, .int .u64 b] 29) = W0 at HB HR ⊢
  refine (reference_any i r x l b _).mono ?_; rintro e w2 ⟨rfl, hg⟩
  replace HR := hide (HR.out.below hg)
  replace HB := hide (HB.out.trans (hg.mono HB.out.size))
  clear hg
  go_wp2_with fail
  refine (check_ref i r x l b hb _ HR.out).mono ?_; rintro e w3 ⟨rfl, hg⟩
  replace HB := hide (HB.out.trans (hg.mono HB.out.size))
  clear hg HR
  rcases hq : refOk r x l b with _ | _
  · replace hq := hide hq
    simp only [fldE]
    go_wp2
    go_ret
    exact ⟨by rw [hq.out]; rfl, HB.out⟩
  · replace hq := hide hq
    simp only [fldE]
    go_wp2
    go_ret
    exact ⟨by rw [hq.out]; rfl, HB.out⟩

end Go.Proofs.YtdogdinkopocaaaDoor
