/- Walks: the prefixes one by one, told to the law's closure. -/
import Derived.Test.YtdjlmmgnknfkfaaUA
namespace Go.Proofs.Ytdjlmmgnknfkfaa
open Go.RowKit
attribute [local go_sem ↓] Go.wp_at_zero Go.wp_at_succ

theorem Is2.cell_of {w w' : World} {b : Nat} {x y : Value} (h : Is2 w b x y) (e : w'.heap[b]? = w.heap[b]?) : Is2 w' b x y := e.trans h
theorem Is1.cell_of {w w' : World} {b t : Nat} {x : Value} (h : Is1 w b t x) (e : w'.heap[b]? = w.heap[b]?) : Is1 w' b t x := e.trans h

theorem Try.yield_nil (W : World) (f : Fn) (a c : Array Value) : (binOp .eql 35 (.func f a c) .nilFunc).run Try.prog W = .ok (.bool false) W := by kernel_rfl
theorem Try.seq_nil (W : World) (f : Fn) (a c : Array Value) : (binOp .eql 58 (.func f a c) .nilFunc).run Try.prog W = .ok (.bool false) W := by kernel_rfl

set_option maxHeartbeats 400000 in
theorem vPrefixes_any (n b : Int) (w : World) :
    Calls Try.prog 37 #[(.agg #[.int .i64 (n), .int .u64 (b)])] w fun e w' => e = .returned (.func (.func 53) #[] #[.pointer (some ⟨w.heap.size, 0, none⟩)]) ∧ w' = w.alloc (.cells #[.int .i64 n, .int .u64 b] 24) := by
  go_enter Try.func37, Try.ntmps37
  go_wp2
  go_ret
  exact ⟨rfl, rfl⟩

set_option maxHeartbeats 400000 in
theorem seq_no (n b : Int) (f : Fn) (cs : Array Value) (bx : Nat) (w : World) (h : rt n b = false) (hV : Is2 w bx (.int .i64 n) (.int .u64 b)) :
    Calls Try.prog 53 #[.func f #[] cs, .pointer (some ⟨bx, 0, none⟩)] w fun e w' => e = .returned (.tuple #[]) ∧ Below w.heap.size w w' := by
  obtain ⟨v0, v1, -, -⟩ := hV.c
  have hnil := Try.yield_nil
  go_enter Try.func53, Try.ntmps53
  go_wp2_with fail
  refine (vright_no _ _ h _).mono ?_; rintro e w1 ⟨rfl, hb1⟩
  go_wp2
  (try simp only [Exit.inBlock, Exit.then]); refine bodyPost_ret (results_none rfl _ _ _) rfl ?_
  exact ⟨rfl, hb1⟩

set_option maxHeartbeats 2000000 in
theorem seq_in (n b : Nat) (hn : n ≤ 32) (hb : b < 2 ^ n) (R K Wt M bx g most cap : Nat) (w : World) (hm : 1 ≤ most)
    (hR : Is1 w R 4 (.bool true)) (hK : Is1 w K 3 (.int .i64 0)) (hW : Is1 w Wt 38 (.slice (some ⟨g, 0, none⟩) (n + 1) cap)) (hM : Is1 w M 3 (.int .i64 (most : Int)))
    (hV : Is2 w bx (.int .i64 (n : Int)) (.int .u64 (b : Int)))
    (hg : g < w.heap.size) (hc : ∀ j, j < n + 1 → w.cell? ⟨g, j * 2, none⟩ = some (.int .i64 (j : Int)) ∧ w.cell? ⟨g, j * 2 + 1, none⟩ = some (.int .u64 (pre n b j : Nat)))
    (d1 : R ≠ K) (d2 : R ≠ Wt) (d3 : R ≠ M) (d4 : K ≠ Wt) (d5 : K ≠ M) (d6 : R ≠ g) (d7 : K ≠ g) (d8 : R ≠ bx) (d9 : K ≠ bx) :
    Calls Try.prog 53 #[.func (.func 38) #[] #[.pointer (some ⟨R, 0, none⟩), .pointer (some ⟨K, 0, none⟩), .pointer (some ⟨Wt, 0, none⟩), .pointer (some ⟨M, 0, none⟩)], .pointer (some ⟨bx, 0, none⟩)] w fun e w' =>
      e = .returned (.tuple #[]) ∧ Is1 w' R 4 (.bool true) ∧ Is1 w' K 3 (.int .i64 ((min (n + 1) most : Nat) : Int)) ∧
      (∀ b, b < w.heap.size → b ≠ R → b ≠ K → w'.heap[b]? = w.heap[b]?) ∧ (∀ B, B ≤ R → B ≤ K → B ≤ w.heap.size → Below B w w') := by
  have hr : rt (n : Int) (b : Int) = true := rt_of n b hn hb
  have hp := p32 n hn
  have hb2 : b < 18446744073709551616 := by omega
  have H1 := hide hR
  have H2 := hide hK
  have H3 := hide hW
  have H4 := hide hM
  have H5 := hide hV
  have H6 := hide hc
  have zb := hV.lt
  obtain ⟨v0, v1, -, -⟩ := hV.c
  clear hR hK hW hM hV hc hp hb
  have hnil := Try.yield_nil
  go_enter Try.func53, Try.ntmps53
  go_wp2_with fail
  refine (vright_yes _ _ hr (by omega) _).mono ?_; rintro e w1 ⟨rfl, hb1⟩
  have q0 := (hb1.cell (p := ⟨bx, 0, none⟩) zb).trans v0
  have q1 := (hb1.cell (p := ⟨bx, 1, none⟩) zb).trans v1
  have HB := hide hb1
  clear hb1
  go_wp2
  go_loopw [14] (fun i wr => ∃ k : Nat, k ≤ n + 1 ∧ k < most ∧ i = .int .i64 (k : Int) ∧ Is1 wr R 4 (.bool true) ∧ Is1 wr K 3 (.int .i64 (k : Int)) ∧
      (∀ b, b < w.heap.size → b ≠ R → b ≠ K → wr.heap[b]? = w.heap[b]?) ∧ (∀ B, B ≤ R → B ≤ K → B ≤ w.heap.size → Below B w wr))
    (fun i _ => n + 1 - (intOf i).toNat)
  case atStart => exact ⟨0, by omega, by omega, rfl, H1.out.below HB.out, H2.out.below HB.out, fun b hb _ _ => HB.out.block b hb, fun B _ _ hB => HB.out.mono hB⟩
  case round =>
    obtain ⟨k, hk, hkm, rfl, h1, h2, h3, h4⟩ := hrel
    by_cases hlt : k < n + 1
    · have i1 : (k : Int) < (n : Int) + 1 := by omega
      have E5 := hide (H5.out.cell_of (h3 bx zb d8.symm d9.symm))
      have E3 := hide (H3.out.cell_of (h3 Wt H3.out.lt d2.symm d4.symm))
      have E4 := hide (H4.out.cell_of (h3 M H4.out.lt d3.symm d5.symm))
      have E1 := hide h1
      have E2 := hide h2
      have F3 := hide h3
      have F4 := hide h4
      obtain ⟨c0, c1, -, -⟩ := E5.out.c
      have EC0 : Hid (wr.cell? ⟨g, k * 2, none⟩ = some (.int .i64 (k : Int))) := (World.cell?_of_block (w := w) (h3 g hg d6.symm d7.symm)).trans (H6.out k hlt).1
      have EC1 : Hid (wr.cell? ⟨g, k * 2 + 1, none⟩ = some (.int .u64 (pre n b k : Nat))) := (World.cell?_of_block (w := w) (h3 g hg d6.symm d7.symm)).trans (H6.out k hlt).2
      have hgl : Hid (g < wr.heap.size) := World.block_lt_of_cell? wr ⟨g, k * 2, none⟩ EC0.out
      clear h1 h2 h3 h4 q0 q1 v0 v1
      go_wp2_with fail
      refine (first_any _ _ _ (by omega) (by omega) (by omega) (by omega) _).mono ?_; rintro e w2 ⟨rfl, hb2⟩
      simp only [Int.toNat_natCast]
      have hs2 := hb2.size
      have A1 := hide (E1.out.below hb2)
      have A2 := hide (E2.out.below hb2)
      have A3 := hide (E3.out.below hb2)
      have A4 := hide (E4.out.below hb2)
      have AC0 := hide ((hb2.cell (p := ⟨g, k * 2, none⟩) hgl.out).trans EC0.out)
      have AC1 := hide ((hb2.cell (p := ⟨g, k * 2 + 1, none⟩) hgl.out).trans EC1.out)
      have AB := hide hb2
      clear hb2 c0 c1
      generalize pre n b k = y at *
      go_wp2_with fail
      refine (yield_any R K Wt M k (n + 1) most cap g _ _ _ A1.out A2.out A3.out A4.out AC0.out AC1.out hlt (by omega) d1 d2 d3 d4 d5 d6 d7).mono ?_; rintro e w3 ⟨rfl, B1, B2, B3, B4⟩
      have hw : w.heap.size ≤ wr.heap.size := (F4.out 0 (by omega) (by omega) (by omega)).size
      have G3 : Hid (∀ b, b < w.heap.size → b ≠ R → b ≠ K → w3.heap[b]? = w.heap[b]?) := fun b hb h1 h2 => ((B3 b (by omega) h1 h2).trans (AB.out.block b (by omega))).trans (F3.out b hb h1 h2)
      have G4 : Hid (∀ B, B ≤ R → B ≤ K → B ≤ w.heap.size → Below B w w3) := fun B h1 h2 h3 => ((F4.out B h1 h2 h3).trans (AB.out.mono (by omega))).trans (B4 B h1 h2 (by omega))
      have C1 := hide B1
      have C2 := hide B2
      clear B1 B2 B3 B4
      by_cases hc : (k : Int) + 1 < most
      · rw [decide_eq_true hc]
        go_wp2
        exact ⟨⟨k + 1, by omega, by omega, by simp, C1.out, C2.out, G3.out, G4.out⟩, by simp [intOf]; omega⟩
      · rw [decide_eq_false hc]
        have e : min (n + 1) most = k + 1 := by omega
        go_wp2
        (try simp only [Exit.inBlock, Exit.then]); refine bodyPost_ret (results_none rfl _ _ _) rfl ?_
        exact ⟨rfl, C1.out, by rw [e]; exact C2.out, G3.out, G4.out⟩
    · have e : k = n + 1 := by omega
      have e2 : min (n + 1) most = k := by omega
      have i1 : ¬ (k : Int) < (n : Int) + 1 := by omega
      have C : Hid (Is1 wr K 3 (.int .i64 ((min (n + 1) most : Nat) : Int))) := by rw [e2]; exact h2
      have D1 := hide h1
      have D3 := hide h3
      have D4 := hide h4
      clear h1 h2 h3 h4 e2
      go_wp2
      go_end0
      exact ⟨rfl, D1.out, C.out, D3.out, D4.out⟩

end Go.Proofs.Ytdjlmmgnknfkfaa
