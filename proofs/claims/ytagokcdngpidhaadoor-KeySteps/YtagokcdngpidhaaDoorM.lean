/- KeySteps, walked. -/
import Derived.Test.YtagokcdngpidhaaDoorK
namespace Go.Proofs.YtagokcdngpidhaaDoor
open Go.RowKit

set_option maxHeartbeats 8000000 in
set_option maxRecDepth 100000 in
theorem keySteps_any (r n a b c d : Int) (h0 : 0 ≤ n) (h1 : n < 18446744073709551616) (w : World) (hR : Ranks w) :
    Calls Tryd.prog 4 #[(.agg #[.int .i64 (r), .int .u64 (n)]), (.agg #[.int .i64 (a), .int .u64 (b)]), (.agg #[.int .i64 (c), .int .u64 (d)])] w fun e w' => e = .returned (.bool true) ∧ Below w.heap.size w w' := by
  have mixed : Tryd.prog.follows .mixedOrders = true := by kernel_rfl
  obtain ⟨p, q, x, hE⟩ : ∃ p q x, nxE r n = (p, q, x) := ⟨_, _, _, rfl⟩
  obtain ⟨p', q', x', hE'⟩ : ∃ p q x, pvE r n = (p, q, x) := ⟨_, _, _, rfl⟩
  have n1 := fun w h => kNext_any r n h0 h1 w h
  have n2 := fun w => rNext_any r n h0 h1 w
  have n3 := fun w h => kPrev_any r n h0 h1 w h
  have n4 := fun w => rPrev_any r n h0 h1 w
  rw [hE] at n1 n2
  rw [hE'] at n3 n4
  simp only [keyB] at n1 n2 n3 n4
  have k1 := fun w => kIn_any a b r n c d w
  have k2 := fun w => rIn_any a b r n c d w
  generalize (!klt (r, n) (a, b) && !klt (c, d) (r, n)) = E at k1 k2
  replace n1 := hide n1
  replace n2 := hide n2
  replace n3 := hide n3
  replace n4 := hide n4
  replace k1 := hide k1
  replace k2 := hide k2
  clear hE hE' h0 h1
  have HR := hide hR
  clear hR
  have I0 := hide (((Is2.new w (.int .i64 r) (.int .u64 n)).alloc (.cells #[.int .i64 a, .int .u64 b] 25)).alloc (.cells #[.int .i64 c, .int .u64 d] 25))
  have I1 := (Is2.new (w.alloc (.cells #[.int .i64 r, .int .u64 n] 25)) (.int .i64 a) (.int .u64 b)).alloc (.cells #[.int .i64 c, .int .u64 d] 25)
  have I2 := Is2.new ((w.alloc (.cells #[.int .i64 r, .int .u64 n] 25)).alloc (.cells #[.int .i64 a, .int .u64 b] 25)) (.int .i64 c) (.int .u64 d)
  simp only [World.size_alloc] at I1 I2
  replace I1 := hide I1
  replace I2 := hide I2
  have HG := hide (show Gr w (((w.alloc (.cells #[.int .i64 r, .int .u64 n] 25)).alloc (.cells #[.int .i64 a, .int .u64 b] 25)).alloc (.cells #[.int .i64 c, .int .u64 d] 25)) from (((Gr.refl w).alloc _).alloc _).alloc _)
  go_enter Tryd.func4, Tryd.ntmps4
  go_wp2_with fail
  generalize ((w.alloc (.cells #[.int .i64 r, .int .u64 n] 25)).alloc (.cells #[.int .i64 a, .int .u64 b] 25)).alloc (.cells #[.int .i64 c, .int .u64 d] 25) = W0 at I0 I1 I2 HG ⊢
  refine (n1.out W0 (HR.out.gr HG.out)).mono ?_; rintro e w1 ⟨rfl, hg⟩
  replace I0 := hide ((I0.out.gr hg).alloc (.cells #[.int .i64 p, .int .u64 q] 25))
  replace I1 := hide ((I1.out.gr hg).alloc (.cells #[.int .i64 p, .int .u64 q] 25))
  replace I2 := hide ((I2.out.gr hg).alloc (.cells #[.int .i64 p, .int .u64 q] 25))
  have J0 := hide (Is2.new w1 (.int .i64 p) (.int .u64 q))
  replace HG := hide ((HG.out.trans hg).alloc (.cells #[.int .i64 p, .int .u64 q] 25))
  clear hg
  obtain ⟨a0, a1, -, -⟩ := I0.out.c
  have hz := I0.out.lt
  go_wp2_with fail
  clear a0 a1 hz
  generalize hK : w1.heap.size = K0 at J0 ⊢
  clear hK
  generalize w1.alloc (.cells #[.int .i64 p, .int .u64 q] 25) = W1 at I0 I1 I2 J0 HG ⊢
  refine (n2.out W1).mono ?_; rintro e w2 ⟨rfl, hg⟩
  replace I0 := hide ((I0.out.gr hg).alloc (.cells #[.int .i64 p, .int .u64 q] 25))
  replace I1 := hide ((I1.out.gr hg).alloc (.cells #[.int .i64 p, .int .u64 q] 25))
  replace I2 := hide ((I2.out.gr hg).alloc (.cells #[.int .i64 p, .int .u64 q] 25))
  replace J0 := hide ((J0.out.gr hg).alloc (.cells #[.int .i64 p, .int .u64 q] 25))
  have J1 := hide (Is2.new w2 (.int .i64 p) (.int .u64 q))
  replace HG := hide ((HG.out.trans hg).alloc (.cells #[.int .i64 p, .int .u64 q] 25))
  clear hg
  obtain ⟨a0, a1, -, -⟩ := I0.out.c
  have hz := I0.out.lt
  go_wp2_with fail
  clear a0 a1 hz
  generalize hK : w2.heap.size = K1 at J1 ⊢
  clear hK
  generalize w2.alloc (.cells #[.int .i64 p, .int .u64 q] 25) = W2 at I0 I1 I2 J0 J1 HG ⊢
  refine (n3.out W2 (HR.out.gr HG.out)).mono ?_; rintro e w3 ⟨rfl, hg⟩
  replace I0 := hide ((I0.out.gr hg).alloc (.cells #[.int .i64 p', .int .u64 q'] 25))
  replace I1 := hide ((I1.out.gr hg).alloc (.cells #[.int .i64 p', .int .u64 q'] 25))
  replace I2 := hide ((I2.out.gr hg).alloc (.cells #[.int .i64 p', .int .u64 q'] 25))
  replace J0 := hide ((J0.out.gr hg).alloc (.cells #[.int .i64 p', .int .u64 q'] 25))
  replace J1 := hide ((J1.out.gr hg).alloc (.cells #[.int .i64 p', .int .u64 q'] 25))
  have J2 := hide (Is2.new w3 (.int .i64 p') (.int .u64 q'))
  replace HG := hide ((HG.out.trans hg).alloc (.cells #[.int .i64 p', .int .u64 q'] 25))
  clear hg
  obtain ⟨a0, a1, -, -⟩ := I0.out.c
  have hz := I0.out.lt
  go_wp2_with fail
  clear a0 a1 hz
  generalize hK : w3.heap.size = K2 at J2 ⊢
  clear hK
  generalize w3.alloc (.cells #[.int .i64 p', .int .u64 q'] 25) = W3 at I0 I1 I2 J0 J1 J2 HG ⊢
  refine (n4.out W3).mono ?_; rintro e w4 ⟨rfl, hg⟩
  replace I0 := hide ((I0.out.gr hg).alloc (.cells #[.int .i64 p', .int .u64 q'] 25))
  replace I1 := hide ((I1.out.gr hg).alloc (.cells #[.int .i64 p', .int .u64 q'] 25))
  replace I2 := hide ((I2.out.gr hg).alloc (.cells #[.int .i64 p', .int .u64 q'] 25))
  replace J0 := hide ((J0.out.gr hg).alloc (.cells #[.int .i64 p', .int .u64 q'] 25))
  replace J1 := hide ((J1.out.gr hg).alloc (.cells #[.int .i64 p', .int .u64 q'] 25))
  replace J2 := hide ((J2.out.gr hg).alloc (.cells #[.int .i64 p', .int .u64 q'] 25))
  have J3 := hide (Is2.new w4 (.int .i64 p') (.int .u64 q'))
  replace HG := hide ((HG.out.trans hg).alloc (.cells #[.int .i64 p', .int .u64 q'] 25))
  clear hg
  go_wp2
  generalize hK : w4.heap.size = K3 at J3 ⊢
  clear hK
  generalize w4.alloc (.cells #[.int .i64 p', .int .u64 q'] 25) = W4 at I0 I1 I2 J0 J1 J2 J3 HG ⊢
  have HRW := hide (show ∀ p : Bel W4, Ranks p.v from fun p => (HR.out.gr HG.out).below p.h)
  have c00 : ∀ z : Bel W4, z.v.cell? ⟨w.heap.size, 0, none⟩ = some (.int .i64 r) := bel_cell I0.out.c.1
  have c01 : ∀ z : Bel W4, z.v.cell? ⟨w.heap.size, 1, none⟩ = some (.int .u64 n) := bel_cell I0.out.c.2.1
  have c10 : ∀ z : Bel W4, z.v.cell? ⟨w.heap.size + 1, 0, none⟩ = some (.int .i64 a) := bel_cell I1.out.c.1
  have c11 : ∀ z : Bel W4, z.v.cell? ⟨w.heap.size + 1, 1, none⟩ = some (.int .u64 b) := bel_cell I1.out.c.2.1
  have c20 : ∀ z : Bel W4, z.v.cell? ⟨w.heap.size + 1 + 1, 0, none⟩ = some (.int .i64 c) := bel_cell I2.out.c.1
  have c21 : ∀ z : Bel W4, z.v.cell? ⟨w.heap.size + 1 + 1, 1, none⟩ = some (.int .u64 d) := bel_cell I2.out.c.2.1
  have c30 : ∀ z : Bel W4, z.v.cell? ⟨K0, 0, none⟩ = some (.int .i64 p) := bel_cell J0.out.c.1
  have c31 : ∀ z : Bel W4, z.v.cell? ⟨K0, 1, none⟩ = some (.int .u64 q) := bel_cell J0.out.c.2.1
  have c40 : ∀ z : Bel W4, z.v.cell? ⟨K1, 0, none⟩ = some (.int .i64 p) := bel_cell J1.out.c.1
  have c41 : ∀ z : Bel W4, z.v.cell? ⟨K1, 1, none⟩ = some (.int .u64 q) := bel_cell J1.out.c.2.1
  have c50 : ∀ z : Bel W4, z.v.cell? ⟨K2, 0, none⟩ = some (.int .i64 p') := bel_cell J2.out.c.1
  have c51 : ∀ z : Bel W4, z.v.cell? ⟨K2, 1, none⟩ = some (.int .u64 q') := bel_cell J2.out.c.2.1
  have c60 : ∀ z : Bel W4, z.v.cell? ⟨K3, 0, none⟩ = some (.int .i64 p') := bel_cell J3.out.c.1
  have c61 : ∀ z : Bel W4, z.v.cell? ⟨K3, 1, none⟩ = some (.int .u64 q') := bel_cell J3.out.c.2.1
  clear I0 I1 I2 J0 J1 J2 J3
  haveI : Inhabited (Bel W4) := ⟨⟨W4, Below.refl _ _⟩⟩
  refine wp_region_bel (by assumption) (by kernel_rfl) ?_
  repeat (quiet_step ((first
    | (go_at_call 20; exact bel_gr _ (k1.out _))
    | (go_at_call 21; exact bel_gr _ (k2.out _))
    | (go_at_call 15; exact bel_of _ (awake_any _ (HRW.out _))))))
  refine wpQuiet_nil ?_
  intro _ hw'
  obtain ⟨pp, rfl⟩ := hw'
  go_wp2
  go_ret
  exact ⟨rfl, HG.out.below.trans (pp.h.mono HG.out.le)⟩

end Go.Proofs.YtagokcdngpidhaaDoor
