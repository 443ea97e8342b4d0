/- awake: two peers, and a key between them. -/
import Derived.Test.YtokehogcenjefaaGreatDoorSI
namespace Go.Proofs.YtokehogcenjefaaGreatDoor
open Go.RowKit Go.Maps Go.ChangeMaps

def s0 : Sk := newS 0 ⟨0, 1, 0, 0, 0⟩ 2 7
def s1 : Sk := { s0 with ah := ⟨2, 2, 5, 0, 0⟩, lk := true }
def s2 : Sk := { s0 with pt := ⟨2, 2, 5, 0, 0⟩, ov := true, rl := ⟨2, 2, 5, 0, 0⟩, rr := ⟨3, 2, 9, 0, 0⟩ }
def a1 : An := ⟨1, false, zr, ⟨2, 2, 5, 0, 0⟩, none, 0, 0⟩
def a2 : An := ⟨1, false, ⟨0, 1, 0, 0, 0⟩, ⟨3, 2, 9, 0, 0⟩, none, 0, 0⟩
theorem aw1 : s0.tell [] a1 = (s1, []) := by
 have hl : liv [] 0 0 ⟨0, 1, 0, 0, 0⟩ ⟨2, 2, 5, 0, 0⟩ = some ⟨2, 2, 5, 0, 0⟩ := liv_none (by decide) rfl
 show (s0.right [] ⟨2, 2, 5, 0, 0⟩, ([] : List (Pl × Rf))) = _
 unfold Sk.right
 show ((match liv [] 0 0 ⟨0, 1, 0, 0, 0⟩ ⟨2, 2, 5, 0, 0⟩ with | none => s0.begin | some x => s0.next x), ([] : List (Pl × Rf))) = _
 rw [hl]
 rfl
theorem aw2 : s1.tell [] a2 = (s2, []) := by
 have hl : liv [] 0 0 ⟨2, 2, 5, 0, 0⟩ ⟨3, 2, 9, 0, 0⟩ = some ⟨3, 2, 9, 0, 0⟩ := liv_none (by decide) rfl
 show ((s1.stand s1.ah).right [] ⟨3, 2, 9, 0, 0⟩, ([] : List (Pl × Rf))) = _
 unfold Sk.right
 show ((match liv [] 0 0 ⟨2, 2, 5, 0, 0⟩ ⟨3, 2, 9, 0, 0⟩ with | none => (s1.stand s1.ah).begin | some x => (s1.stand s1.ah).next x), ([] : List (Pl × Rf))) = _
 rw [hl]
 rfl
theorem s0_ok : SOk s0 [] := newS_ok (by decide) (by decide) (by decide)
theorem a1_ok : AOk a1 := ⟨by decide, by decide⟩
theorem a2_ok : AOk a2 := ⟨by decide, by decide⟩
theorem s1_ok : SOk s1 [] := by have := s0_ok.tell a1_ok; rwa [aw1] at this
theorem store_step (w : World) (cs : Array Value) (hs : cs.size = 36) (h1 : cs.all (·.oneCell') = true) : (Instr.storeAt 53 (.pointer (some ⟨w.heap.size, 0, none⟩)) (.agg cs)).run Tryz.prog (w.alloc (.cells #[.int .i64 0, .int .i64 0, .int .i64 0, .int .u64 0, .int .i64 0, .int .u64 0, .int .i64 0, .int .i64 0, .int .u64 0, .int .i64 0, .int .i64 0, .int .u64 0, .int .i64 0, .int .u64 0, .int .i64 0, .int .i64 0, .int .u64 0, .int .i64 0, .int .u64 0, .int .i64 0, .int .i64 0, .int .i64 0, .int .u64 0, .slice none 0 0, .slice none 0 0, .int .i64 0, .int .i64 0, .int .u64 0, .int .i64 0, .int .u64 0, .int .i64 0, .int .i64 0, .int .u64 0, .int .i64 0, .int .u64 0, .bool false] 53)) = .ok () (w.alloc (.cells cs 53)) := run_storeAt_new w 53 _ cs (by rw [hs]; exact step_info) (by rw [hs]; rfl) h1
theorem ld_sref {w : World} {b : Nat} {cs : List Value} (I : IsB w b cs.toArray 53) (o : Nat) (r : Rf) (h : (cs.drop o).take 5 = r.cs) : (Instr.loadAt 29 (.pointer (some ⟨b, o, none⟩))).run Tryz.prog w = .ok (.agg r.cells) w := load_mid I o _ r.cs _ h Tryz.underlying29 rfl (by kernel_rfl)



end Go.Proofs.YtokehogcenjefaaGreatDoor
