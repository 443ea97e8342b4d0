/- Package key: Check. -/
import Derived.Test.YtmhcmlegdoapdaaDoorB
namespace Go.Proofs.YtmhcmlegdoapdaaDoor
open Go.RowKit

/-- The table of ranks lies there. -/
def Ranks (w : World) : Prop := w.cell? ⟨0, 0, none⟩ = some (.int .i64 1) ∧ w.cell? ⟨0, 1, none⟩ = some (.string ⟨#[45]⟩) ∧ w.cell? ⟨0, 2, none⟩ = some (.int .i64 2) ∧ w.cell? ⟨0, 3, none⟩ = some (.string ⟨#[]⟩) ∧ w.cell? ⟨0, 4, none⟩ = some (.int .i64 3) ∧ w.cell? ⟨0, 5, none⟩ = some (.string ⟨#[43]⟩)
theorem lt_of_cell {w : World} {a : Addr} {v : Value} (h : w.cell? a = some v) : a.block < w.heap.size := by
  rcases Nat.lt_or_ge a.block w.heap.size with h' | h'
  · exact h'
  · simp [World.cell?, Array.getElem?_eq_none h'] at h
theorem Ranks.below {w w' : World} (h : Ranks w) (hb : Below w.heap.size w w') : Ranks w' := by
  obtain ⟨h0, h1, h2, h3, h4, h5⟩ := h
  have hl := lt_of_cell h0
  refine ⟨?_, ?_, ?_, ?_, ?_, ?_⟩ <;> (rw [hb.cell (by exact hl)]; assumption)
theorem Ranks.gr {w w' : World} (h : Ranks w) (hg : Gr w w') : Ranks w' := h.below hg.below

/-- The table as one value, and its rows. -/
def rankTab : Value := .agg #[.int .i64 1, .string ⟨#[45]⟩, .int .i64 2, .string ⟨#[]⟩, .int .i64 3, .string ⟨#[43]⟩]
theorem rank0 (w : World) : (Instr.index 108 (.agg #[.int .i64 1, .string ⟨#[45]⟩, .int .i64 2, .string ⟨#[]⟩, .int .i64 3, .string ⟨#[43]⟩]) (.int .i64 0)).run Tryd.prog w = .ok (.agg #[.int .i64 1, .string ⟨#[45]⟩]) w := by kernel_rfl
theorem rank1 (w : World) : (Instr.index 108 (.agg #[.int .i64 1, .string ⟨#[45]⟩, .int .i64 2, .string ⟨#[]⟩, .int .i64 3, .string ⟨#[43]⟩]) (.int .i64 1)).run Tryd.prog w = .ok (.agg #[.int .i64 2, .string ⟨#[]⟩]) w := by kernel_rfl
theorem rank2 (w : World) : (Instr.index 108 (.agg #[.int .i64 1, .string ⟨#[45]⟩, .int .i64 2, .string ⟨#[]⟩, .int .i64 3, .string ⟨#[43]⟩]) (.int .i64 2)).run Tryd.prog w = .ok (.agg #[.int .i64 3, .string ⟨#[43]⟩]) w := by kernel_rfl

/-- What Check tells. -/
def ckE (r n : Int) : Int := if r = 2 ∨ (r = 1 ∨ r = 3) ∧ n = 0 then 0 else 20

set_option maxHeartbeats 2000000 in
set_option maxRecDepth 100000 in
theorem kCheck_any (r n : Int) (w : World) (hR : Ranks w) :
    Calls Tryd.prog 53 #[(.agg #[.int .i64 (r), .int .u64 (n)])] w fun e w' => e = .returned (.int .i64 (ckE r n)) ∧ Gr w w' := by
  have hR1 := hR.gr ((Gr.refl w).alloc (.cells #[.int .i64 r, .int .u64 n] 30))
  obtain ⟨h0, h1, h2, h3, h4, h5⟩ := hR1
  clear hR
  go_enter Tryd.func53, Tryd.ntmps53
  go_wp2
  clear h0 h1 h2 h3 h4 h5
  go_loopw [6] (fun i wr => (i = .int .i64 0 ∨ (i = .int .i64 1 ∧ ¬ (r = 1 ∧ n = 0)) ∨ (i = .int .i64 2 ∧ ¬ (r = 1 ∧ n = 0) ∧ ¬ r = 2) ∨ (i = .int .i64 3 ∧ ¬ (r = 1 ∧ n = 0) ∧ ¬ r = 2 ∧ ¬ (r = 3 ∧ n = 0))) ∧ Is2 wr w.heap.size (.int .i64 r) (.int .u64 n) ∧ Gr w wr) (fun i _ => 3 - (intOf i).toNat)
  case atStart => exact ⟨Or.inl rfl, Is2.new w _ _, (Gr.refl w).alloc _⟩
  case round =>
    have x0 := rank0
    have x1 := rank1
    have x2 := rank2
    obtain ⟨hi, I0, hg⟩ := hrel
    have HI := hide I0
    have HG := hide hg
    obtain ⟨a0, a1, -, -⟩ := I0.c
    have hlt := I0.lt
    clear I0 hg
    rcases hi with rfl | ⟨rfl, n1⟩ | ⟨rfl, n1, n2⟩ | ⟨rfl, n1, n2, n3⟩
    · by_cases hr : r = 1
      · subst hr
        by_cases hn : n = 0
        · subst hn
          go_wp2
          go_ret
          exact ⟨rfl, HG.out.alloc _⟩
        · have hn' : (n == 0) = false := by simp [hn]
          go_wp2
          go_roundw
          case rel => exact ⟨Or.inr (Or.inl ⟨rfl, fun h => hn h.2⟩), HI.out.alloc _, HG.out.alloc _⟩
          case measure => simp [intOf]
      · have hr' : (r == 1) = false := by simp [hr]
        go_wp2
        go_roundw
        case rel => exact ⟨Or.inr (Or.inl ⟨rfl, fun h => hr h.1⟩), HI.out.alloc _, HG.out.alloc _⟩
        case measure => simp [intOf]
    · by_cases hr : r = 2
      · subst hr
        go_wp2
        go_ret
        exact ⟨rfl, HG.out.alloc _⟩
      · have hr' : (r == 2) = false := by simp [hr]
        go_wp2
        go_roundw
        case rel => exact ⟨Or.inr (Or.inr (Or.inl ⟨rfl, n1, hr⟩)), HI.out.alloc _, HG.out.alloc _⟩
        case measure => simp [intOf]
    · by_cases hr : r = 3
      · subst hr
        by_cases hn : n = 0
        · subst hn
          go_wp2
          go_ret
          exact ⟨rfl, HG.out.alloc _⟩
        · have hn' : (n == 0) = false := by simp [hn]
          go_wp2
          go_roundw
          case rel => exact ⟨Or.inr (Or.inr (Or.inr ⟨rfl, n1, n2, fun h => hn h.2⟩)), HI.out.alloc _, HG.out.alloc _⟩
          case measure => simp [intOf]
      · have hr' : (r == 3) = false := by simp [hr]
        go_wp2
        go_roundw
        case rel => exact ⟨Or.inr (Or.inr (Or.inr ⟨rfl, n1, n2, fun h => hr h.1⟩)), HI.out.alloc _, HG.out.alloc _⟩
        case measure => simp [intOf]
    · have hc : ckE r n = 20 := by unfold ckE; rw [if_neg (by omega)]
      go_wp2
      go_ret
      exact ⟨by rw [hc]; rfl, HG.out⟩

end Go.Proofs.YtmhcmlegdoapdaaDoor
