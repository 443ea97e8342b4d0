/- Walk: what the law does with a prefix that it is told of. -/
import Derived.Test.YtdjlmmgnknfkfaaU
namespace Go.Proofs.Ytdjlmmgnknfkfaa
open Go.RowKit
attribute [local go_sem ↓] Go.wp_at_zero Go.wp_at_succ

set_option maxHeartbeats 2000000 in
theorem yield_any (R K Wt M k n1 most cap g : Nat) (x y : Int) (w : World)
    (hR : Is1 w R 4 (.bool true)) (hK : Is1 w K 3 (.int .i64 (k : Int))) (hW : Is1 w Wt 38 (.slice (some ⟨g, 0, none⟩) n1 cap)) (hM : Is1 w M 3 (.int .i64 (most : Int)))
    (hc0 : w.cell? ⟨g, k * 2, none⟩ = some (.int .i64 x)) (hc1 : w.cell? ⟨g, k * 2 + 1, none⟩ = some (.int .u64 y)) (hk : k < n1) (hn1 : n1 ≤ 100)
    (d1 : R ≠ K) (d2 : R ≠ Wt) (d3 : R ≠ M) (d4 : K ≠ Wt) (d5 : K ≠ M) (d6 : R ≠ g) (d7 : K ≠ g) :
    Calls Try.prog 38 #[(.agg #[.int .i64 (x), .int .u64 (y)]), .pointer (some ⟨R, 0, none⟩), .pointer (some ⟨K, 0, none⟩), .pointer (some ⟨Wt, 0, none⟩), .pointer (some ⟨M, 0, none⟩)] w fun e w' =>
      e = .returned (.bool (decide ((k : Int) + 1 < most))) ∧ Is1 w' R 4 (.bool true) ∧ Is1 w' K 3 (.int .i64 ((k + 1 : Nat) : Int)) ∧
      (∀ b, b < w.heap.size → b ≠ R → b ≠ K → w'.heap[b]? = w.heap[b]?) ∧ (∀ B, B ≤ R → B ≤ K → B ≤ w.heap.size → Below B w w') := by
  have zR := hR.lt
  have zK := hK.lt
  have zW := hW.lt
  have zM := hM.lt
  have zg : g < w.heap.size := World.block_lt_of_cell? w ⟨g, k * 2, none⟩ hc0
  obtain ⟨r0, r1⟩ := hR.c
  obtain ⟨k0, k1⟩ := hK.c
  obtain ⟨v0, -⟩ := hW.c
  obtain ⟨m0, -⟩ := hM.c
  have HR := hide hR
  have HK := hide hK
  clear hR hK hW hM
  have i1 : (k : Int) < n1 := by omega
  have i2 : (0 : Int) ≤ k := by omega
  go_enter Try.func38, Try.ntmps38
  go_wp2
  have I0 := hide (Is2.new w (.int .i64 x) (.int .u64 y))
  have HR1 := hide (HR.out.alloc (.cells #[.int .i64 x, .int .u64 y] 24))
  have HK1 := hide (HK.out.alloc (.cells #[.int .i64 x, .int .u64 y] 24))
  generalize hW0 : w.alloc (.cells #[.int .i64 x, .int .u64 y] 24) = W0 at *
  have e0 : W0.cell? ⟨g, k * 2, none⟩ = some (.int .i64 x) := by rw [← hW0, World.cell?_alloc_lt _ _ _ zg]; exact hc0
  have e1 : W0.cell? ⟨g, k * 2 + 1, none⟩ = some (.int .u64 y) := by rw [← hW0, World.cell?_alloc_lt _ _ _ zg]; exact hc1
  have e2 : W0.cell? ⟨Wt, 0, none⟩ = some (.slice (some ⟨g, 0, none⟩) n1 cap) := by rw [← hW0, World.cell?_alloc_lt _ _ _ zW]; exact v0
  have e3 : W0.cell? ⟨M, 0, none⟩ = some (.int .i64 (most : Int)) := by rw [← hW0, World.cell?_alloc_lt _ _ _ zM]; exact m0
  obtain ⟨e4, e5, -, -⟩ := I0.out.c
  obtain ⟨e6, e7⟩ := HR1.out.c
  obtain ⟨e8, e9⟩ := HK1.out.c
  have n0 : w.heap.size ≠ R := by omega
  have n1' : w.heap.size ≠ K := by omega
  have HB := hide (Below.refl W0.heap.size W0)
  have HW := hide hW0
  clear hc0 hc1 v0 m0 r0 r1 k0 k1 hW0
  go_region_held3 (fun w' => w'.cell? ⟨R, 0, none⟩ = some (.bool true) ∧ w'.frozen? ⟨R, 0, none⟩ = false ∧ w'.cell? ⟨K, 0, none⟩ = some (.int .i64 (k : Int)) ∧ w'.cell? ⟨Wt, 0, none⟩ = some (.slice (some ⟨g, 0, none⟩) n1 cap) ∧ w'.cell? ⟨g, k * 2, none⟩ = some (.int .i64 x) ∧ w'.cell? ⟨g, k * 2 + 1, none⟩ = some (.int .u64 y) ∧ w'.cell? ⟨w.heap.size, 0, none⟩ = some (.int .i64 x) ∧ w'.cell? ⟨w.heap.size, 1, none⟩ = some (.int .u64 y))
    (first | (go_keep; done) | (refine ⟨?_, ?_, ?_, ?_, ?_, ?_, ?_, ?_⟩ <;> first | (go_keep; done) | exact (HR1.out.set (.bool true)).c.1 | exact (I0.out.other ⟨R, 0, none⟩ (.bool true) n0).c.1 | exact (I0.out.other ⟨R, 0, none⟩ (.bool true) n0).c.2.1))
    (fail)
  rename_i hHeld
  clear hHeld
  have G0 := hide (show Is1 (W0.setCell ⟨R, 0, none⟩ (.bool true)).drew R 4 (.bool true) from HR1.out.set _)
  have G1 := hide (show Is1 (W0.setCell ⟨R, 0, none⟩ (.bool true)).drew K 3 (.int .i64 (k : Int)) from HK1.out.other _ _ (Ne.symm d1))
  have G2 := hide (show ∀ b, b ≠ R → (W0.setCell ⟨R, 0, none⟩ (.bool true)).drew.heap[b]? = W0.heap[b]? from fun b hb => Below.heap_setCell W0 _ _ b hb)
  have G3 := hide (show ∀ B, B ≤ R → Below B W0 (W0.setCell ⟨R, 0, none⟩ (.bool true)).drew from fun B hB => ((Below.refl B W0).setCell (p := ⟨R, 0, none⟩) hB _).drew)
  have e10 : (W0.setCell ⟨R, 0, none⟩ (.bool true)).drew.cell? ⟨M, 0, none⟩ = some (.int .i64 (most : Int)) := (World.cell?_of_block (w := W0) (Below.heap_setCell W0 _ _ M (Ne.symm d3))).trans e3
  clear e0 e1 e2 e3 e4 e5 e6 e7 e8 e9
  generalize (W0.setCell ⟨R, 0, none⟩ (.bool true)).drew = W1 at *
  obtain ⟨r0, -⟩ := G0.out.c
  obtain ⟨k0, k1⟩ := G1.out.c
  have F0 := hide (fun u => G0.out.other ⟨K, 0, none⟩ u d1)
  go_wp2
  go_ret
  refine ⟨rfl, F0.out _, ?_, ?_, ?_⟩
  · have h := G1.out.set (.int .i64 ((k : Int) + 1))
    simpa using h
  · intro b hb h1 h2
    rw [Below.heap_setCell W1 _ _ b h2, G2.out b h1, ← HW.out]
    exact Below.heap_alloc w _ b hb
  · intro B h1 h2 h3
    have s0 : Below B w W0 := by rw [← HW.out]; exact (Below.refl B w).alloc h3 _
    exact (s0.trans (G3.out B h1)).setCell (p := ⟨K, 0, none⟩) h2 _

end Go.Proofs.Ytdjlmmgnknfkfaa
