/- Package key, Sorted: its closure (what the sort asks), and slices.Compact at keys. -/
import Derived.Test.YtidgkaephikjaaaDoorSB
import Derived.Test.YtidgkaephikjaaaDoorB
import Derived.Lib.SlicesCompact
import Derived.Lib.SliceRun
import Derived.Lib.Walk
import Derived.Sort.WalkB12
import Derived.Deep.Draws
import Derived.Laws.StructEq
namespace Go.Proofs.YtidgkaephikjaaaDoor
open Go.Shelf Go.RowKit Go.Lib Go.Sort

/-- A key's cells. -/
def encK (x : Int × Int) : List Value := [.int .i64 x.1, .int .u64 x.2]
theorem encK_len (x : Int × Int) : (encK x).length = 2 := rfl
theorem encK_one (x : Int × Int) : ∀ v ∈ encK x, v.oneCell' = true := fun v hv => by simp [encK] at hv; rcases hv with rfl | rfl <;> rfl
theorem holds_cells {w : World} {blk off : Nat} {d : Array (Int × Int)} (h : HoldsK encK 2 w blk off d) {i : Nat} (hi : i < d.size) :
    w.cell? ⟨blk, off + i * 2, none⟩ = some (.int .i64 d[i]!.1) ∧ w.cell? ⟨blk, off + i * 2 + 1, none⟩ = some (.int .u64 d[i]!.2) ∧ w.frozen? ⟨blk, off + i * 2, none⟩ = false ∧ w.frozen? ⟨blk, off + i * 2 + 1, none⟩ = false :=
  ⟨(h.cell hi (by omega : 0 < 2)).1, (h.cell hi (by omega : 1 < 2)).1, (h.cell hi (by omega : 0 < 2)).2, (h.cell hi (by omega : 1 < 2)).2⟩

set_option maxHeartbeats 2000000 in
theorem less_any (blk off c Bs size : Nat) (W : World) (R N : Nat → Int) (hs : W.cell? ⟨Bs, 0, none⟩ = some (.slice (some ⟨blk, off, none⟩) size c)) (hB : Bs < W.heap.size) (hblk : blk < W.heap.size)
    (hc : ∀ t, t < size → W.cell? ⟨blk, off + t * 2, none⟩ = some (.int .i64 (R t)) ∧ W.cell? ⟨blk, off + t * 2 + 1, none⟩ = some (.int .u64 (N t))) (i j : Nat) (hi : i < size) (hj : j < size) (_hsz : size < 4611686018427387904) :
    Calls Tryd.prog 44 #[.int .i64 i, .int .i64 j, .pointer (some ⟨Bs, 0, none⟩)] W fun e w' => e = .returned (.bool (klt (R i, N i) (R j, N j))) ∧ Gr W w' := by
  have c0 : ∀ n os, (grow (W.drewN n) os).cell? ⟨Bs, 0, none⟩ = some (.slice (some ⟨blk, off, none⟩) size c) := fun n os => cell_grown hB hs n os
  have c1 : ∀ n os, (grow (W.drewN n) os).cell? ⟨blk, off + i * 2, none⟩ = some (.int .i64 (R i)) := fun n os => cell_grown hblk (hc i hi).1 n os
  have c2 : ∀ n os, (grow (W.drewN n) os).cell? ⟨blk, off + i * 2 + 1, none⟩ = some (.int .u64 (N i)) := fun n os => cell_grown hblk (hc i hi).2 n os
  have c3 : ∀ n os, (grow (W.drewN n) os).cell? ⟨blk, off + j * 2, none⟩ = some (.int .i64 (R j)) := fun n os => cell_grown hblk (hc j hj).1 n os
  have c4 : ∀ n os, (grow (W.drewN n) os).cell? ⟨blk, off + j * 2 + 1, none⟩ = some (.int .u64 (N j)) := fun n os => cell_grown hblk (hc j hj).2 n os
  clear hc hs
  generalize R i = a at *
  generalize N i = b at *
  generalize R j = a' at *
  generalize N j = b' at *
  have mixed : Tryd.prog.follows .mixedOrders = true := by kernel_rfl
  go_enter Tryd.func44, Tryd.ntmps44
  go_wp2
  go_quiet_grown (first | (go_at_call 13; refine Calls.grown_of (kLess_any a b a' b' _)))
  go_wp2
  go_ret
  exact ⟨rfl, ⟨_, _, rfl⟩⟩

theorem less_lays (blk off c Bs : Nat) (d : Array (Int × Int)) (w : World) (hH : HoldsK encK 2 w blk off d) (hblk : blk < w.heap.size) (hsz : d.size < 4611686018427387904)
    (hBs : w.cell? ⟨Bs, 0, none⟩ = some (.slice (some ⟨blk, off, none⟩) d.size c)) (hB1 : Bs < w.heap.size) (hB2 : Bs ≠ blk) :
    LessLaysK Tryd.prog 44 #[.pointer (some ⟨Bs, 0, none⟩)] encK 2 klt blk off d.size w := by
  intro p dk hs i j hi hj
  have hHg : HoldsK encK 2 (putRowK encK 2 (gr w p) blk off dk) blk off dk := holdsK_putRowK _ _ _ blk off d dk (holdsK_gr encK 2 w blk off p d hblk hH) hs
  refine (less_any blk off c Bs d.size _ (fun t => dk[t]!.1) (fun t => dk[t]!.2) ?_ ?_ ?_ (fun t ht => ?_) i j hi hj hsz).mono ?_
  · rw [cell?_putRowK_other _ _ _ blk off dk _ (by exact hB2), cell?_gr _ _ _ (by exact hB1)]; exact hBs
  · rw [size_putRowK]; exact gr_lt hB1 p
  · rw [size_putRowK]; exact gr_lt hblk p
  · have := holds_cells hHg (i := t) (by omega)
    exact ⟨this.1, this.2.1⟩
  · rintro e w' ⟨rfl, hg⟩
    exact ⟨rfl, gr_of_Gr hg⟩

end Go.Proofs.YtidgkaephikjaaaDoor
