/- The law's awake. -/
import Derived.Test.YtfnpapaibgbjpaaZP
import Derived.Lib.SlBytesConst
namespace Go.Proofs.Ytfnpapaibgbjpaa
open Go.RowKit Go.Maps

theorem awake_runs (a : Option Addr) (c : Nat) : runs [(⟨1, 5, 0, a, c, [97]⟩ : Ca), ⟨1, 5, 0, none, 0, []⟩, ⟨4, 2, 0, none, 0, []⟩, ⟨4, 6, 0, none, 0, []⟩] [] = ([(5, [97])], [(0, 0, [], [], false), (100, 0, [], [], false), (0, 5, [97], [], true), (101, 0, [], [], false)], 0) := by kernel_rfl

set_option maxHeartbeats 4000000 in
set_option maxRecDepth 100000 in
theorem awake_any (w : World) : Calls Try.prog 20 #[] w fun e w' => e = .returned (.bool true) ∧ Below w.heap.size w w' := by
  have b1 : Below w.heap.size w (w.alloc (.cells #[.int .u8 97] 5 (1, 2))) := (Below.refl w.heap.size w).alloc (Nat.le_refl _) _
  have b2 : Below w.heap.size w ((w.alloc (.cells #[.int .u8 97] 5 (1, 2))).alloc (.cells #[.int .i64 1, .int .u64 5, .int .u64 0, .slice (some ⟨w.heap.size, 0, none⟩) 1 1, .int .i64 1, .int .u64 5, .int .u64 0, .slice none 0 0, .int .i64 4, .int .u64 2, .int .u64 0, .slice none 0 0, .int .i64 4, .int .u64 6, .int .u64 0, .slice none 0 0] 27)) := b1.alloc (by simp) _
  have i1 : IsB ((w.alloc (.cells #[.int .u8 97] 5 (1, 2))).alloc (.cells #[.int .i64 1, .int .u64 5, .int .u64 0, .slice (some ⟨w.heap.size, 0, none⟩) 1 1, .int .i64 1, .int .u64 5, .int .u64 0, .slice none 0 0, .int .i64 4, .int .u64 2, .int .u64 0, .slice none 0 0, .int .i64 4, .int .u64 6, .int .u64 0, .slice none 0 0] 27)) (w.heap.size + 1) #[.int .i64 1, .int .u64 5, .int .u64 0, .slice (some ⟨w.heap.size, 0, none⟩) 1 1, .int .i64 1, .int .u64 5, .int .u64 0, .slice none 0 0, .int .i64 4, .int .u64 2, .int .u64 0, .slice none 0 0, .int .i64 4, .int .u64 6, .int .u64 0, .slice none 0 0] 27 := by
    have := IsB.new (w.alloc (.cells #[.int .u8 97] 5 (1, 2))) #[.int .i64 1, .int .u64 5, .int .u64 0, .slice (some ⟨w.heap.size, 0, none⟩) 1 1, .int .i64 1, .int .u64 5, .int .u64 0, .slice none 0 0, .int .i64 4, .int .u64 2, .int .u64 0, .slice none 0 0, .int .i64 4, .int .u64 6, .int .u64 0, .slice none 0 0] 27
    rwa [World.size_alloc] at this
  have r1 : Rd8 ((w.alloc (.cells #[.int .u8 97] 5 (1, 2))).alloc (.cells #[.int .i64 1, .int .u64 5, .int .u64 0, .slice (some ⟨w.heap.size, 0, none⟩) 1 1, .int .i64 1, .int .u64 5, .int .u64 0, .slice none 0 0, .int .i64 4, .int .u64 2, .int .u64 0, .slice none 0 0, .int .i64 4, .int .u64 6, .int .u64 0, .slice none 0 0] 27)) (some ⟨w.heap.size, 0, none⟩) [97] := by
    refine Or.inr ⟨_, rfl, fun j hj => ?_⟩
    have hj : j = 0 := by simpa using hj
    subst hj
    have h0 : (w.alloc (.cells #[.int .u8 97] 5 (1, 2))).heap[w.heap.size]? = some (.cells #[.int .u8 97] 5 (1, 2)) := heap_new w _
    have h1 : ((w.alloc (.cells #[.int .u8 97] 5 (1, 2))).alloc (.cells #[.int .i64 1, .int .u64 5, .int .u64 0, .slice (some ⟨w.heap.size, 0, none⟩) 1 1, .int .i64 1, .int .u64 5, .int .u64 0, .slice none 0 0, .int .i64 4, .int .u64 2, .int .u64 0, .slice none 0 0, .int .i64 4, .int .u64 6, .int .u64 0, .slice none 0 0] 27)).heap[w.heap.size]? = some (.cells #[.int .u8 97] 5 (1, 2)) := (((Below.refl _ (w.alloc (.cells #[.int .u8 97] 5 (1, 2)))).alloc (Nat.le_refl _) _).block _ (lt_of_heap h0)).trans h0
    rw [add_none, Nat.zero_add]
    show World.cell? _ ⟨w.heap.size, 0, none⟩ = _
    rw [cell_of_row _ _ _ _ _ _ h1]
    rfl
  have hcs : Cs ((w.alloc (.cells #[.int .u8 97] 5 (1, 2))).alloc (.cells #[.int .i64 1, .int .u64 5, .int .u64 0, .slice (some ⟨w.heap.size, 0, none⟩) 1 1, .int .i64 1, .int .u64 5, .int .u64 0, .slice none 0 0, .int .i64 4, .int .u64 2, .int .u64 0, .slice none 0 0, .int .i64 4, .int .u64 6, .int .u64 0, .slice none 0 0] 27)) (.slice (some ⟨w.heap.size + 1, 0, none⟩) 4 4) [(⟨1, 5, 0, some ⟨w.heap.size, 0, none⟩, 1, [97]⟩ : Ca), ⟨1, 5, 0, none, 0, []⟩, ⟨4, 2, 0, none, 0, []⟩, ⟨4, 6, 0, none, 0, []⟩] := by
    refine ⟨⟨_, _, rfl, Nat.le_refl _, by unfold maxLen; omega, fun _ _ => ⟨_, _, rfl, fun j u hu => ?_⟩⟩, fun c hc => ?_⟩
    · rw [Nat.zero_add, i1.cell j]
      simpa [cas] using hu
    · simp only [List.mem_cons, List.not_mem_nil, or_false] at hc
      rcases hc with rfl | rfl | rfl | rfl
      · exact ⟨r1, fun h => by cases h⟩
      · exact ⟨Or.inl ⟨rfl, rfl⟩, fun _ => rfl⟩
      · exact ⟨Or.inl ⟨rfl, rfl⟩, fun _ => rfl⟩
      · exact ⟨Or.inl ⟨rfl, rfl⟩, fun _ => rfl⟩
  have hrn := hide (run_any (.slice none 0 0) _ [] (by simp) _ (by simp) _ (Sl.nil _) hcs)
  rw [runE_yes (show okM [] from fun j hj => by simp at hj), awake_runs] at hrn
  have hcv := Go.Lib.run_convert_bytes_const (P := Try.prog) w 25 5 #[.int .u8 97] 1 1 Try.underlying25 Try.underlying5
  have B2 := hide b2
  clear b1 b2 i1 r1 hcs
  go_enter Try.func20, Try.ntmps20
  go_wp2_with fail
  clear hcv
  refine hrn.out.mono ?_
  rintro e w3 ⟨v', m, vr, rs, E, rfl, hO, hR, he, hb⟩
  injection he with e1 e2
  injection e2 with e2 e3
  subst e3
  have hml : m.length = 1 := by have := congrArg List.length e1; simpa using this
  have hrl : rs.length = 4 := by have := congrArg List.length e2; simpa using this
  obtain ⟨ma, mc, rfl, -, -⟩ := hO.sl.shape
  obtain ⟨g, cap, hv, -, -, -⟩ := hR.row.form (by omega)
  match rs, hrl with
  | [r0, r1, r2, r3], _ =>
  simp only [List.map_cons, List.map_nil, List.cons.injEq, and_true, Rs.val, Prod.mk.injEq] at e2
  obtain ⟨⟨f0, -⟩, ⟨f1, -⟩, ⟨-, f2, -, -, f3⟩, ⟨f4, -⟩⟩ := e2
  subst hv
  have c0 := hR.row.cellAt 0 (by simp)
  have c1 := hR.row.cellAt 15 (by simp)
  have c2 := hR.row.cellAt 31 (by simp)
  have c3 := hR.row.cellAt 44 (by simp)
  have c4 := hR.row.cellAt 45 (by simp)
  replace c0 : w3.cell? ⟨g, 0, none⟩ = some (.int .i64 0) := c0.trans (by rw [← f0]; rfl)
  replace c1 : w3.cell? ⟨g, 15, none⟩ = some (.int .i64 100) := c1.trans (by rw [← f1]; rfl)
  replace c2 : w3.cell? ⟨g, 31, none⟩ = some (.int .u64 5) := c2.trans (by rw [← f2]; rfl)
  replace c3 : w3.cell? ⟨g, 44, none⟩ = some (.bool true) := c3.trans (by rw [← f3]; rfl)
  replace c4 : w3.cell? ⟨g, 45, none⟩ = some (.int .i64 101) := c4.trans (by rw [← f4]; rfl)
  have B3 : Hid (Below w.heap.size w w3) := B2.out.trans (hb.mono (by simp; omega))
  rw [hml]
  clear hO hR hb e1 f0 f1 f2 f3 f4 hml B2 hrn
  go_wp2
  go_ret
  exact ⟨rfl, B3.out⟩

end Go.Proofs.Ytfnpapaibgbjpaa
