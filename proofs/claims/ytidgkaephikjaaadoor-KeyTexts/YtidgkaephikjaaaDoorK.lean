/- Regions that draw their order, walked once, where callees may turn whatever is new; KeyOrders, walked. -/
import Derived.Test.YtidgkaephikjaaaDoorJ
namespace Go.Proofs.YtidgkaephikjaaaDoor
open Go.RowKit

/-- A world in which all that lay in W lies as it did. -/
structure Bel (W : World) where
  v : World
  h : Below W.heap.size W v

theorem wp_region_bel {P : Program} {id : Nat} {Q : Exit → Act → World → Prop} {a : Act} {w : World} {l : List Oper} (hm : P.follows .mixedOrders = true) (hB : Region.lexB .any l.toArray = true)
    (h : wpQuiet P l.toArray (fun w' => ∃ p : Bel w, w' = p.v) (fun a' => ∀ w', (∃ p : Bel w, w' = p.v) → Q .normal a' w') l a) : (Code.region id l.toArray true).wp P Q a w :=
  wp_region_quiet (C := fun w' => ∃ p : Bel w, w' = p.v) hm hB ⟨⟨w.drew, (Below.refl _ _).drew⟩, rfl⟩ (by simpa using h)

theorem bel_of {P : Program} {f : FuncId} {args : Array Value} {w : World} {v : Value} (p : Bel w)
    (h : Calls P f args p.v fun e w' => e = .returned v ∧ Below p.v.heap.size p.v w') : Calls P f args p.v fun e w'' => e = .returned v ∧ ∃ q : Bel w, w'' = q.v :=
  h.mono fun _ w'' ⟨he, hb⟩ => ⟨he, ⟨w'', p.h.trans (hb.mono p.h.size)⟩, rfl⟩
theorem bel_gr {P : Program} {f : FuncId} {args : Array Value} {w : World} {v : Value} (p : Bel w)
    (h : Calls P f args p.v fun e w' => e = .returned v ∧ Gr p.v w') : Calls P f args p.v fun e w'' => e = .returned v ∧ ∃ q : Bel w, w'' = q.v :=
  bel_of p (h.mono fun _ _ ⟨he, hg⟩ => ⟨he, hg.below⟩)
theorem bel_cell {w : World} {a : Addr} {v : Value} (h : w.cell? a = some v) (p : Bel w) : p.v.cell? a = some v := by
  rw [p.h.cell (lt_of_cell h)]; exact h

set_option maxHeartbeats 4000000 in
set_option maxRecDepth 100000 in
theorem keyOrders_any (r n s m : Int) (w : World) (hR : Ranks w) :
    Calls Tryd.prog 3 #[(.agg #[.int .i64 (r), .int .u64 (n)]), (.agg #[.int .i64 (s), .int .u64 (m)])] w fun e w' => e = .returned (.bool true) ∧ Below w.heap.size w w' := by
  have mixed : Tryd.prog.follows .mixedOrders = true := by kernel_rfl
  have I0 := (Is2.new w (.int .i64 r) (.int .u64 n)).alloc (.cells #[.int .i64 s, .int .u64 m] 25)
  have I1 := Is2.new (w.alloc (.cells #[.int .i64 r, .int .u64 n] 25)) (.int .i64 s) (.int .u64 m)
  rw [World.size_alloc] at I1
  have HG := hide (show Gr w ((w.alloc (.cells #[.int .i64 r, .int .u64 n] 25)).alloc (.cells #[.int .i64 s, .int .u64 m] 25)) from ((Gr.refl w).alloc _).alloc _)
  have k1 := fun w => rCheck_any r n w
  have k2 := fun w => kCompare_any r n s m w
  have k3 := fun w => rCompare_any r n s m w
  have k4 := fun w => kLess_any r n s m w
  have k5 := fun w => rLess_any r n s m w
  have k0 : ∀ w, Ranks w → _ := fun w h => kCheck_any r n w h
  generalize ckE r n = E0 at k0 k1
  generalize kcmp (r, n) (s, m) = E1 at k2 k3
  generalize klt (r, n) (s, m) = E2 at k4 k5
  replace k0 := hide k0
  replace k1 := hide k1
  replace k2 := hide k2
  replace k3 := hide k3
  replace k4 := hide k4
  replace k5 := hide k5
  have HR := hide hR
  clear hR
  go_enter Tryd.func3, Tryd.ntmps3
  go_wp2
  generalize (w.alloc (.cells #[.int .i64 r, .int .u64 n] 25)).alloc (.cells #[.int .i64 s, .int .u64 m] 25) = W at I0 I1 HG ⊢
  have HRW := hide (show ∀ p : Bel W, Ranks p.v from fun p => (HR.out.gr HG.out).below p.h)
  have a0 : ∀ p : Bel W, p.v.cell? ⟨w.heap.size, 0, none⟩ = some (.int .i64 r) := bel_cell I0.c.1
  have a1 : ∀ p : Bel W, p.v.cell? ⟨w.heap.size, 1, none⟩ = some (.int .u64 n) := bel_cell I0.c.2.1
  have b0 : ∀ p : Bel W, p.v.cell? ⟨w.heap.size + 1, 0, none⟩ = some (.int .i64 s) := bel_cell I1.c.1
  have b1 : ∀ p : Bel W, p.v.cell? ⟨w.heap.size + 1, 1, none⟩ = some (.int .u64 m) := bel_cell I1.c.2.1
  clear I0 I1
  haveI : Inhabited (Bel W) := ⟨⟨W, Below.refl _ _⟩⟩
  refine wp_region_bel (by assumption) (by kernel_rfl) ?_
  repeat (quiet_step ((first
    | (go_at_call 9; exact bel_gr _ (k0.out _ (HRW.out _)))
    | (go_at_call 10; exact bel_gr _ (k1.out _))
    | (go_at_call 11; exact bel_gr _ (k2.out _))
    | (go_at_call 12; exact bel_gr _ (k3.out _))
    | (go_at_call 13; exact bel_gr _ (k4.out _))
    | (go_at_call 14; exact bel_gr _ (k5.out _))
    | (go_at_call 15; exact bel_of _ (awake_any _ (HRW.out _))))))
  refine wpQuiet_nil ?_
  intro _ hw'
  obtain ⟨p, rfl⟩ := hw'
  go_wp2
  go_ret
  exact ⟨rfl, HG.out.below.trans (p.h.mono HG.out.le)⟩

end Go.Proofs.YtidgkaephikjaaaDoor
