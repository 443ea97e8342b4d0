/- The law's own first question of a network: two parcels that change places. -/
import Derived.Test.YtoinjmddmahpkaaNM
import Derived.Laws.IdiomStrings
import Derived.Lib.SlBytesConst
namespace Go.Proofs.Ytoinjmddmahpkaa
open Go.RowKit Go.Maps

theorem ptr_eq_nil (a : Addr) (w : World) : (binOp .eql 23 (.pointer (some a)) (.pointer none)).run Try.prog w = .ok (.bool false) w := by kernel_rfl
theorem rd1 (w : World) (x : Int) (t : TypeId) (f : Nat × Nat) : Rd8 (w.alloc (.cells #[.int .u8 x] t f)) (some ⟨w.heap.size, 0, none⟩) [x] := Or.inr ⟨_, rfl, fun j hj => by
  obtain rfl : j = 0 := by simpa using hj
  rw [add_none, cell_of_row _ _ _ _ _ _ (heap_new w _)]
  rfl⟩
theorem conv_b (w : World) (a : Option Addr) (c : Nat) (h : By w a c [98]) : (convert 33 9 (.slice a 1 c)).run Try.prog w = .ok (.string ⟨#[98]⟩) w := by
  rcases h.rd with ⟨-, h1⟩ | ⟨ad, rfl, hc⟩
  · cases h1
  · have := run_convert_bytes_back (P := Try.prog) w 33 9 5 ad c [98] Try.underlying33 Try.underlying5 Try.underlying9 (fun j hj => by
      obtain rfl : j = 0 := by simpa using hj
      exact hc 0 (by simp))
    exact this
theorem okP0 : okP 0 0 [97].length = true := by decide
theorem okP3 : okP 0 3 [98].length = true := by decide

set_option maxHeartbeats 8000000 in
set_option maxRecDepth 100000 in
theorem alive_any (w : World) : Calls Try.prog 16 #[] w fun e w' => e = .returned (.bool true) ∧ Below w.heap.size w w' := by
  have hpn := ptr_eq_nil
  have hci := fun (w : World) (C : Array Value) (n c : Nat) => Lib.run_convert_bytes_const (P := Try.prog) w 33 5 C n c Try.underlying33 Try.underlying5
  go_enter Try.func16, Try.ntmps16
  go_wp2_with fail
  refine (new_any w).mono ?_; rintro e w1 ⟨b, m, rfl, hb, hm, hN, hbl⟩
  replace hN := hide hN
  replace hbl := hide hbl
  go_wp2_with fail
  have n1 := hN.out.below ((Below.refl w1.heap.size w1).alloc (Nat.le_refl _) (.cells #[.int .u8 97] 5 (1, 2)))
  have x1 := hN.out.nx ((Below.refl w1.heap.size w1).alloc (Nat.le_refl _) (.cells #[.int .u8 97] 5 (1, 2)))
  refine (put_ok b m _ _ _ 0 (by omega) _ n1 false 0 false 0 (some ⟨w1.heap.size, 0, none⟩) 1 [97] okP0 (by simp) (by simp) (rd1 w1 97 5 (1, 2))).mono ?_
  rintro e w2 ⟨rfl, v2, a2, c2, hx2, -⟩
  have X2 := hide (x1.trans hx2)
  clear n1 x1 hx2 hN
  simp only [List.nil_append] at X2
  go_wp2_with fail
  have x2 := X2.out.bel ((Below.refl w2.heap.size w2).alloc (Nat.le_refl _) (.cells #[.int .u8 98] 5 (1, 2)))
  refine (put_ok b m _ _ _ _ (by omega) _ x2.ns false 0 true 3 (some ⟨w2.heap.size, 0, none⟩) 1 [98] okP3 (by simp) (by simp) (rd1 w2 98 5 (1, 2))).mono ?_
  rintro e w3 ⟨rfl, v3, a3, c3, hx3, -⟩
  have X3 := hide (x2.trans hx3)
  clear x2 hx3 X2
  simp only [List.cons_append, List.nil_append] at X3
  go_wp2_with fail
  refine (swap_ok b m _ _ _ _ _ X3.out.ns 0 1 (by simp) (by simp)).mono ?_
  rintro e w4 ⟨rfl, hx4⟩
  have X4 := hide (X3.out.trans hx4)
  clear hx4 X3
  simp only [swp, List.set_cons_zero, List.set_cons_succ, List.getD_cons_zero, List.getD_cons_succ] at X4
  go_wp2_with fail
  refine (take_ok b m _ _ _ _ (by omega) _ X4.out.ns 0 (by simp)).mono ?_
  rintro e w5 ⟨x, v5, rfl, hcm, hx5⟩
  have X5 := hide (X4.out.trans hx5)
  clear hx5 X4
  simp only [List.getElem_cons_zero, List.eraseIdx_cons_zero] at hcm X5
  obtain ⟨a', c', rfl, hby, -, -⟩ := hcm
  simp only [] at hby
  have bel := (Below.refl w5.heap.size w5).alloc (Nat.le_refl _) (.cells #[.bool false, .int .i64 0, .bool true, .int .i64 3, .slice a' 1 c'] 35)
  have hcv := conv_b _ a' c' (hby.below bel)
  have X6 := hide (X5.out.bel bel)
  replace hbl := hide (hbl.out)
  clear hby bel X5 hci
  go_wp2_with fail
  refine (len_any b m _ _ _ _ _ X6.out.ns).mono ?_; rintro e w7 ⟨rfl, rfl⟩
  go_wp2
  go_ret
  refine ⟨by simp, ?_⟩
  refine hbl.out.trans (X6.out.kp.to_below hbl.out.size ?_)
  intro q hq
  simp [foot, Value.ownBlock] at hq
  rcases hq with rfl | rfl <;> assumption

end Go.Proofs.Ytoinjmddmahpkaa
