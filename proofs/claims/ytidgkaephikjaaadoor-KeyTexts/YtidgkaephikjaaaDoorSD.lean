/- Package key: slices.Compact at keys. After the kit's Derived/Shelf/SlicesE/Compact.lean (elements of one cell). -/
import Derived.Test.YtidgkaephikjaaaDoorSC
import Derived.Shelf.SlicesE.Compact
namespace Go.Proofs.YtidgkaephikjaaaDoor
open Go.Shelf Go.RowKit Go.Lib Go.Sort

/-- A row of keys lies there. -/
def HoldsL (w : World) (blk off : Nat) (l : List (Int × Int)) : Prop := ∀ j x, l[j]? = some x → w.cell? ⟨blk, off + j * 2, none⟩ = some (.int .i64 x.1) ∧ w.cell? ⟨blk, off + j * 2 + 1, none⟩ = some (.int .u64 x.2)
theorem holdsL_of {w : World} {blk off : Nat} {d : Array (Int × Int)} (h : HoldsK encK 2 w blk off d) : HoldsL w blk off d.toList := fun j x hx => by
  have hj : j < d.size := by
    have := (List.getElem?_eq_some_iff.1 hx).1
    simpa using this
  have e : d[j]! = x := by
    have h2 := (List.getElem?_eq_some_iff.1 hx).2
    rw [← h2, getElem!_pos d j hj]; simp
  have := holds_cells h hj
  rw [e] at this
  exact ⟨this.1, this.2.1⟩
theorem HoldsL.below {w w' : World} {blk off : Nat} {l : List (Int × Int)} (h : HoldsL w blk off l) {B : Nat} (hb : RowKit.Below B w w') (hB : blk < B) : HoldsL w' blk off l := fun j x hx => by
  have := h j x hx
  exact ⟨by rw [hb.cell (by exact hB)]; exact this.1, by rw [hb.cell (by exact hB)]; exact this.2⟩
theorem below_putRowK {w : World} (blk off : Nat) (d : Array (Int × Int)) (p : Gb) (hblk : blk < w.heap.size) : RowKit.Below blk w (putRowK encK 2 (gr w p) blk off d) := by
  refine ⟨rfl, rfl, rfl, by rw [size_putRowK, size_gr]; omega, fun k hk => ?_⟩
  have e : (putRowK encK 2 (gr w p) blk off d).heap[k]? = (gr w p).heap[k]? := by
    simp only [putRowK, putRow, mapBlock, Array.getElem?_modify]
    rw [if_neg (by omega)]
  rw [e]
  exact heap_grow_old _ _ (by show k < w.heap.size; omega)
theorem below_setCells {B : Nat} {a : World} (blk : Nat) (hB : B ≤ blk) : ∀ (vs : List Value) (o : Nat) (w : World), RowKit.Below B a w → RowKit.Below B a (w.setCells blk o vs)
  | [], _, _, h => h
  | v :: vs, o, _, h => below_setCells blk hB vs (o + 1) _ (h.setCell (p := ⟨blk, o, none⟩) hB v)

/-- A key stored into the row. -/
theorem store_gr {w : World} (p : Gb) (blk off : Nat) (dk : Array (Int × Int)) (i : Nat) (hi : i < dk.size) (x y : Int) :
    ((putRowK encK 2 (gr w p) blk off dk).setCell ⟨blk, off + i * 2, none⟩ (.int .i64 x)).setCell ⟨blk, off + i * 2 + 1, none⟩ (.int .u64 y) = putRowK encK 2 (gr w p) blk off (dk.setIfInBounds i (x, y)) := by
  have h := setCells_putRow (gr w p) blk off [.int .i64 x, .int .u64 y] (i * 2) (flatK encK 2 dk) (by rw [size_flatK]; show i * 2 + 2 ≤ dk.size * 2; omega)
  have e : ((putRowK encK 2 (gr w p) blk off dk).setCell ⟨blk, off + i * 2, none⟩ (.int .i64 x)).setCell ⟨blk, off + i * 2 + 1, none⟩ (.int .u64 y) = (putRow id (gr w p) blk off (flatK encK 2 dk)).setCells blk (off + i * 2) [.int .i64 x, .int .u64 y] := rfl
  rw [e, h]
  unfold putRowK
  congr 1
  refine ext_get! (by simp) fun t ht => ?_
  rw [size_setMany, size_flatK] at ht
  rw [get_setMany _ _ _ _ (by rw [size_flatK]; exact ht), get_flatK _ _ dk _ ht, get_flatK _ _ (dk.setIfInBounds i (x, y)) _ (by simpa using ht)]
  simp only [List.length_cons, List.length_nil]
  by_cases hb : i * 2 ≤ t ∧ t < i * 2 + (0 + 1 + 1)
  · rw [if_pos hb]
    have hd : t / 2 = i := by omega
    rw [hd]
    have e2 : (dk.setIfInBounds i (x, y))[i]! = (x, y) := by simp [hi]
    rw [e2]
    rcases (by omega : t = i * 2 ∨ t = i * 2 + 1) with rfl | rfl
    · rw [Nat.sub_self, Nat.mul_mod_left]; rfl
    · rw [show i * 2 + 1 - i * 2 = 1 from by omega, show (i * 2 + 1) % 2 = 1 from by omega]; rfl
  · rw [if_neg hb]
    have hd : t / 2 ≠ i := by omega
    have e2 : (dk.setIfInBounds i (x, y))[t / 2]! = dk[t / 2]! := by
      have : t / 2 < dk.size := by omega
      rw [getElem!_pos (dk.setIfInBounds i (x, y)) (t / 2) (by simpa using this), getElem!_pos dk (t / 2) this, Array.getElem_setIfInBounds_ne this (Ne.symm hd)]
    rw [e2]

theorem zeroKey (w : World) : (zeroValue 25).run Tryd.prog w = .ok (.agg #[.int .i64 (0), .int .u64 (0)]) w := by kernel_rfl

/-- 'clear' at keys. -/
theorem clear_keys (w : World) (ty : TypeId) (b o n c : Nat) (hn : 0 < n) (hc : ∀ j, j < n * 2 → (w.cell? ⟨b, o + j, none⟩).isSome = true) (hf : ∀ j, j < n * 2 → w.frozen? ⟨b, o + j, none⟩ = false) :
    ∃ vs, vs.length = n * 2 ∧ (Builtin.clear_ #[34] ty #[.slice (some ⟨b, o, none⟩) n c]).run Tryd.prog w = .ok (.tuple #[]) (w.setCells b o vs) := by
  refine ⟨(Builtin.zeroCells (Value.cells (.agg #[.int .i64 (0), .int .u64 (0)])) n).toList, by simp [Builtin.zeroCells, Value.cells], ?_⟩
  have hl : (Builtin.zeroCells (Value.cells (.agg #[.int .i64 (0), .int .u64 (0)])) n).toList.length = n * 2 := by simp [Builtin.zeroCells, Value.cells]
  have hst := run_storeCells_cells (P := Tryd.prog) b o (Builtin.zeroCells (Value.cells (.agg #[.int .i64 (0), .int .u64 (0)])) n).toList 0 w (by rw [hl]; simpa using hc) (by rw [hl]; simpa using hf) (by
    intro v hv
    simp only [Builtin.zeroCells, Value.cells, Array.toList_map, List.mem_map] at hv
    obtain ⟨a, ha, rfl⟩ := hv
    have h2 : a % 2 = 0 ∨ a % 2 = 1 := by omega
    rcases h2 with h2 | h2
    · show (#[Value.int .i64 0, Value.int .u64 0][a % 2]!).oneCell' = true
      rw [h2]; rfl
    · show (#[Value.int .i64 0, Value.int .u64 0][a % 2]!).oneCell' = true
      rw [h2]; rfl)
  simp only [Nat.add_zero] at hst
  obtain ⟨m, rfl⟩ : ∃ m, n = m + 1 := ⟨n - 1, by omega⟩
  have hv := zeroKey
  generalize ((.agg #[.int .i64 (0), .int .u64 (0)]) : Value) = z at *
  simp [Builtin.clear_, run_underlying Tryd.underlying34, hv, hst]

end Go.Proofs.YtidgkaephikjaaaDoor
