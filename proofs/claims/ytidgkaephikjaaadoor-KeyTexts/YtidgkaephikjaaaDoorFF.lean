/- Package key: Read, of the nine bytes of a key. -/
import Derived.Test.YtidgkaephikjaaaDoorFE
import Derived.Test.YtidgkaephikjaaaDoorF
namespace Go.Proofs.YtidgkaephikjaaaDoor
open Go.RowKit

/-- The number of the first k of eight bytes. -/
def rd (n : Int) : Nat → Int
  | 0 => 0
  | 1 => n / 72057594037927936
  | 2 => n / 281474976710656
  | 3 => n / 1099511627776
  | 4 => n / 4294967296
  | 5 => n / 16777216
  | 6 => n / 65536
  | 7 => n / 256
  | _ => n

theorem Is2.setOther {w : World} {b : Nat} {x y : Value} (h : Is2 w b x y) {a : Addr} (ne : b ≠ a.block) (u : Value) : Is2 (w.setCell a u) b x y := (Below.heap_setCell w a u b ne).trans h
theorem Is2.set1 {w : World} {b : Nat} {x y : Value} (h : Is2 w b x y) (v : Value) : Is2 (w.setCell ⟨b, 1, none⟩ v) b x v := by
  unfold Is2 at *
  rw [Sort.setCell_eq]
  simp only [Sort.mapBlock, Array.getElem?_modify, if_true, h, Option.map_some, Sort.onCells]
  rfl
theorem or8 (a b : Int) (h0 : 0 ≤ a) (h1 : a < 18446744073709551616) (hm : a % 256 = 0) (h2 : 0 ≤ b) (h3 : b < 256) : bits .or .u64 a b = a + b :=
  bits_join .u64 64 (by decide) (fun n h1 h2 => by rw [IntKind.wrap_u64]; omega) 8 a b h0 (by simpa using hm) (by simpa using h1) h2 (by simpa using h3) (by simp; omega)
theorem or_0 (n : Nat) (hn : n < 18446744073709551616) : bits .or .u64 (0) ((n : Int) / 72057594037927936) = rd n 1 := by
  rw [or8 _ _ (by omega) (by omega) (by omega) (by omega) (by omega)]; simp only [rd]; omega
theorem or_1 (n : Nat) (hn : n < 18446744073709551616) : bits .or .u64 ((n : Int) / 72057594037927936 * 256) ((n : Int) / 281474976710656 % 256) = rd n 2 := by
  rw [or8 _ _ (by omega) (by omega) (by omega) (by omega) (by omega)]; simp only [rd]; omega
theorem or_2 (n : Nat) (hn : n < 18446744073709551616) : bits .or .u64 ((n : Int) / 281474976710656 * 256) ((n : Int) / 1099511627776 % 256) = rd n 3 := by
  rw [or8 _ _ (by omega) (by omega) (by omega) (by omega) (by omega)]; simp only [rd]; omega
theorem or_3 (n : Nat) (hn : n < 18446744073709551616) : bits .or .u64 ((n : Int) / 1099511627776 * 256) ((n : Int) / 4294967296 % 256) = rd n 4 := by
  rw [or8 _ _ (by omega) (by omega) (by omega) (by omega) (by omega)]; simp only [rd]; omega
theorem or_4 (n : Nat) (hn : n < 18446744073709551616) : bits .or .u64 ((n : Int) / 4294967296 * 256) ((n : Int) / 16777216 % 256) = rd n 5 := by
  rw [or8 _ _ (by omega) (by omega) (by omega) (by omega) (by omega)]; simp only [rd]; omega
theorem or_5 (n : Nat) (hn : n < 18446744073709551616) : bits .or .u64 ((n : Int) / 16777216 * 256) ((n : Int) / 65536 % 256) = rd n 6 := by
  rw [or8 _ _ (by omega) (by omega) (by omega) (by omega) (by omega)]; simp only [rd]; omega
theorem or_6 (n : Nat) (hn : n < 18446744073709551616) : bits .or .u64 ((n : Int) / 65536 * 256) ((n : Int) / 256 % 256) = rd n 7 := by
  rw [or8 _ _ (by omega) (by omega) (by omega) (by omega) (by omega)]; simp only [rd]; omega
theorem or_7 (n : Nat) (hn : n < 18446744073709551616) : bits .or .u64 ((n : Int) / 256 * 256) ((n : Int) % 256) = rd n 8 := by
  rw [or8 _ _ (by omega) (by omega) (by omega) (by omega) (by omega)]; simp only [rd]; omega

set_option maxHeartbeats 4000000 in
set_option maxRecDepth 100000 in
theorem kRead_ok (r n : Nat) (hr0 : 1 ≤ r) (hr3 : r ≤ 3) (hn : n < 18446744073709551616) (g : Nat) (w : World) (hR : Ranks w) (hc : ckE r n = 0)
    (hC : ∀ j u, (u8s (kb r n))[j]? = some u → w.cell? ⟨g, j, none⟩ = some u) :
    Calls Tryd.prog 35 #[.slice (some ⟨g, 0, none⟩) 9 9] w fun e w' => e = .returned (.tuple #[(.agg #[.int .i64 ((r : Int)), .int .u64 ((n : Int))]), .int .i64 0]) ∧ RowKit.Below w.heap.size w w' := by
  have c0 := hC 0 _ rfl
  have c1 := hC 1 _ rfl
  have c2 := hC 2 _ rfl
  have c3 := hC 3 _ rfl
  have c4 := hC 4 _ rfl
  have c5 := hC 5 _ rfl
  have c6 := hC 6 _ rfl
  have c7 := hC 7 _ rfl
  have c8 := hC 8 _ rfl
  have hgl := lt_of_cell c0
  simp only [] at hgl
  clear hC
  go_enter Tryd.func35, Tryd.ntmps35
  go_wp2
  have HI0 := hide ((Is2.new w (.int .i64 0) (.int .u64 0)).alloc (.cells #[.int .i64 r, .int .u64 0] 25))
  have I1 := Is2.new (w.alloc (.cells #[.int .i64 0, .int .u64 0] 25)) (.int .i64 r) (.int .u64 0)
  rw [World.size_alloc] at I1
  have HI1 := hide I1
  have HG := hide (show Gr w ((w.alloc (.cells #[.int .i64 0, .int .u64 0] 25)).alloc (.cells #[.int .i64 r, .int .u64 0] 25)) from ((Gr.refl w).alloc _).alloc _)
  clear I1
  go_loopw [20] (fun i wr => ∃ k : Nat, k ≤ 8 ∧ i = .int .i64 (k : Int) ∧ Is2 wr w.heap.size (.int .i64 0) (.int .u64 0) ∧ Is2 wr (w.heap.size + 1) (.int .i64 r) (.int .u64 (rd n k)) ∧ Gr w wr) (fun i _ => 8 - (intOf i).toNat)
  case atStart => exact ⟨0, by omega, rfl, HI0.out, HI1.out, HG.out⟩
  case round =>
    obtain ⟨k, hk, rfl, I0, I1, hg⟩ := hrel
    clear HI0 HI1 HG
    have hb := hg.below
    replace c1 := (hb.cell (p := ⟨g, 1, none⟩) (by exact hgl)).trans c1
    replace c2 := (hb.cell (p := ⟨g, 2, none⟩) (by exact hgl)).trans c2
    replace c3 := (hb.cell (p := ⟨g, 3, none⟩) (by exact hgl)).trans c3
    replace c4 := (hb.cell (p := ⟨g, 4, none⟩) (by exact hgl)).trans c4
    replace c5 := (hb.cell (p := ⟨g, 5, none⟩) (by exact hgl)).trans c5
    replace c6 := (hb.cell (p := ⟨g, 6, none⟩) (by exact hgl)).trans c6
    replace c7 := (hb.cell (p := ⟨g, 7, none⟩) (by exact hgl)).trans c7
    replace c8 := (hb.cell (p := ⟨g, 8, none⟩) (by exact hgl)).trans c8
    have HI0 := hide I0
    have HI1 := hide I1
    have HG := hide hg
    obtain ⟨a0, a1, f0, f1⟩ := I1.c
    have hl1 := I1.lt
    clear I0 I1 hg hb
    have hk' : k = 0 ∨ k = 1 ∨ k = 2 ∨ k = 3 ∨ k = 4 ∨ k = 5 ∨ k = 6 ∨ k = 7 ∨ k = 8 := by omega
    rcases hk' with rfl | rfl | rfl | rfl | rfl | rfl | rfl | rfl | rfl
    · simp only [rd] at a1
      have hor := or_0 n hn
      go_wp2
      go_roundw
      case rel => exact ⟨1, by omega, by go_num, HI0.out.setOther (by simp) _, HI1.out.set1 _, HG.out.set _ _ _ (by omega)⟩
      case measure => simp [intOf]
    · simp only [rd] at a1
      have hor := or_1 n hn
      go_wp2
      go_roundw
      case rel => exact ⟨2, by omega, by go_num, HI0.out.setOther (by simp) _, HI1.out.set1 _, HG.out.set _ _ _ (by omega)⟩
      case measure => simp [intOf]
    · simp only [rd] at a1
      have hor := or_2 n hn
      go_wp2
      go_roundw
      case rel => exact ⟨3, by omega, by go_num, HI0.out.setOther (by simp) _, HI1.out.set1 _, HG.out.set _ _ _ (by omega)⟩
      case measure => simp [intOf]
    · simp only [rd] at a1
      have hor := or_3 n hn
      go_wp2
      go_roundw
      case rel => exact ⟨4, by omega, by go_num, HI0.out.setOther (by simp) _, HI1.out.set1 _, HG.out.set _ _ _ (by omega)⟩
      case measure => simp [intOf]
    · simp only [rd] at a1
      have hor := or_4 n hn
      go_wp2
      go_roundw
      case rel => exact ⟨5, by omega, by go_num, HI0.out.setOther (by simp) _, HI1.out.set1 _, HG.out.set _ _ _ (by omega)⟩
      case measure => simp [intOf]
    · simp only [rd] at a1
      have hor := or_5 n hn
      go_wp2
      go_roundw
      case rel => exact ⟨6, by omega, by go_num, HI0.out.setOther (by simp) _, HI1.out.set1 _, HG.out.set _ _ _ (by omega)⟩
      case measure => simp [intOf]
    · simp only [rd] at a1
      have hor := or_6 n hn
      go_wp2
      go_roundw
      case rel => exact ⟨7, by omega, by go_num, HI0.out.setOther (by simp) _, HI1.out.set1 _, HG.out.set _ _ _ (by omega)⟩
      case measure => simp [intOf]
    · simp only [rd] at a1
      have hor := or_7 n hn
      go_wp2
      go_roundw
      case rel => exact ⟨8, by omega, by go_num, HI0.out.setOther (by simp) _, HI1.out.set1 _, HG.out.set _ _ _ (by omega)⟩
      case measure => simp [intOf]
    · simp only [rd] at a1
      have ck := kCheck_any r n wr (hR.gr HG.out)
      rw [hc] at ck
      go_wp2_with fail
      refine ck.mono ?_; rintro e w2 ⟨rfl, hg2⟩
      replace HI0 := hide (HI0.out.gr hg2)
      replace HI1 := hide (HI1.out.gr hg2)
      replace HG := hide (HG.out.trans hg2)
      obtain ⟨b0, b1, g0, g1⟩ := HI1.out.c
      obtain ⟨d0, d1, e0, e1⟩ := HI0.out.c
      simp only [rd] at b1
      have hl2 := HI1.out.lt
      clear ck hg2 a0 a1 f0 f1 c1 c2 c3 c4 c5 c6 c7 c8
      go_wp2
      exact bodyPost_ret (res_key2 rfl _ _ w.heap.size _ _ _ rfl rfl (HI0.out.set _ _)) rfl ⟨rfl, ((HG.out.set _ _ _ (by omega)).set _ _ _ (by omega)).below⟩

end Go.Proofs.YtidgkaephikjaaaDoor
