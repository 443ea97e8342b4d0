/- Package key: Bytes. -/
import Derived.Test.YtidgkaephikjaaaDoorD
import Derived.OwnWalk
import Derived.Laws.OwnMore
namespace Go.Proofs.YtidgkaephikjaaaDoor
open Go.RowKit

theorem Tryd.infoU8 : (Tryd.prog.info? 5).map (fun i => (i.zero, i.size, i.bytes)) = some (some (.int .u8 0), 1, 1) := by kernel_rfl

/-- The nine bytes of a key. -/
def kb (r n : Int) : List Int := [r, n / 72057594037927936, n / 281474976710656 % 256, n / 1099511627776 % 256, n / 4294967296 % 256, n / 16777216 % 256, n / 65536 % 256, n / 256 % 256, n % 256]
/-- Bytes as cells. -/
def u8s (l : List Int) : List Value := l.map (Value.int .u8)

theorem Is2.grown {w w' : World} {b : Nat} {x y : Value} {row : Option Nat} (h : Is2 w b x y) (hg : w.grownBy w' row) (hne : some b ≠ row) : Is2 w' b x y := (hg.block b h.lt hne).trans h

set_option maxHeartbeats 4000000 in
set_option maxRecDepth 100000 in
theorem kBytes_ok (r n : Nat) (hr0 : 1 ≤ r) (hr3 : r ≤ 3) (hn : n < 18446744073709551616) (w : World) (hR : Ranks w) (hc : ckE r n = 0) :
    Calls Tryd.prog 33 #[(.agg #[.int .i64 ((r : Int)), .int .u64 ((n : Int))])] w fun e w' => ∃ g, e = .returned (.tuple #[.slice (some ⟨g, 0, none⟩) 9 9, .int .i64 0]) ∧ w'.ownsRow w.heap.size 5 1 (.slice (some ⟨g, 0, none⟩) 9 9) 9 (u8s (kb r n)) ∧ RowKit.Below w.heap.size w w' := by
  obtain ⟨i0, hi, hz0, hz1, hz2⟩ := info_parts Tryd.infoU8
  have ck := kCheck_any r n (w.alloc (.cells #[.int .i64 r, .int .u64 n] 25)) (hR.gr ((Gr.refl w).alloc _))
  rw [hc] at ck
  have HI := hide (Is2.new w (.int .i64 (r : Int)) (.int .u64 (n : Int)))
  have HG := hide (show Gr w (w.alloc (.cells #[.int .i64 (r : Int), .int .u64 (n : Int)] 25)) from (Gr.refl w).alloc _)
  clear hR hc
  go_enter Tryd.func33, Tryd.ntmps33
  go_wp2_with fail
  refine ck.mono ?_; rintro e w1 ⟨rfl, hg⟩
  replace HI := hide (HI.out.gr hg)
  have HB := hide (HG.out.trans hg).below
  obtain ⟨a0, a1, -, -⟩ := HI.out.c
  have hlt := HI.out.lt
  have hlt0 := HI.out.lt
  clear ck hg HG
  go_wp2_with (first
    | (at_make; refine wpList_make_own _ rfl _ _ 41 rfl w1.heap.size 5 i0 (.int .u8 0) 1 Tryd.underlying41 hi hz0 hz1 .i64 .i64 _ 9 rfl rfl (by omega) (by rw [hz2]; omega) (by unfold maxLen; omega) (Nat.le_refl _) ?_; intro w2 hown2 hgrow2; replace HI := hide (HI.out.grown hgrow2 (by simp)); replace HB := hide (HB.out.grown hgrow2 HB.out.size (by simp)); obtain ⟨a0, a1, -, -⟩ := HI.out.c; have hs2 := hgrow2.size; have hlt2 := HI.out.lt)
    | (at_builtin; refine wpList_append_fits _ rfl (.tmp 13) (.tmp 17) 41 rfl w1.heap.size 5 i0 1 Tryd.underlying41 hi hz1 w1.heap.size 0 9 [] rfl (hown2.alloc _) ⟨w2.heap.size, 0, none⟩ 1 1 [.int .u8 (r : Int)] rfl rfl (cell_one_new _ _ _) (by intro u hu; simp at hu; subst hu; rfl) (by omega) ?_; intro w3 hown3 hgrow3; replace HI := hide ((HI.out.alloc _).grown hgrow3 (by simp; omega)); replace HB := hide ((HB.out.alloc HB.out.size _).grown hgrow3 (by simp; omega) (by simp; omega)); clear hown2 hgrow2 hgrow3 hs2 hlt2 a0 a1))
  clear hlt a0 a1
  have hsz : w1.heap.size < w3.heap.size := (hown3.lt w1.heap.size rfl).2
  go_loopw [5, 6] (fun v i wr => ∃ k : Nat, k ≤ 8 ∧ i = .int .i64 (56 - 8 * (k : Int)) ∧ v = .slice (some ⟨w1.heap.size, 0, none⟩) (1 + k) 9 ∧ wr.ownsRow w1.heap.size 5 1 (.slice (some ⟨w1.heap.size, 0, none⟩) (1 + k) 9) (1 + k) (u8s ((kb r n).take (1 + k))) ∧ Is2 wr w.heap.size (.int .i64 (r : Int)) (.int .u64 (n : Int)) ∧ RowKit.Below w.heap.size w wr ∧ w.heap.size < w1.heap.size) (fun _ i _ => (8 + intOf i).toNat)
  case atStart => exact ⟨0, by omega, rfl, rfl, hown3, HI.out, HB.out, hlt0⟩
  case round =>
    obtain ⟨k, hk, rfl, rfl, hown, I0, hb, hlt⟩ := hrel
    clear hown3 HI HB hsz
    have HB := hide hb
    have HI := hide I0
    obtain ⟨a0, a1, -, -⟩ := I0.c
    have hsz := (hown.lt w1.heap.size rfl).2
    have hltw := I0.lt
    clear I0 hb
    have hk' : k = 0 ∨ k = 1 ∨ k = 2 ∨ k = 3 ∨ k = 4 ∨ k = 5 ∨ k = 6 ∨ k = 7 ∨ k = 8 := by omega
    rcases hk' with rfl | rfl | rfl | rfl | rfl | rfl | rfl | rfl | rfl
    · go_wp2_with (first
        | (at_builtin; refine wpList_append_fits _ rfl (.tmp 23) (.tmp 29) 41 rfl w1.heap.size 5 i0 1 Tryd.underlying41 hi hz1 w1.heap.size (1 + 0) 9 _ rfl (hown.alloc _) ⟨wr.heap.size, 0, none⟩ 1 1 [.int .u8 ((n : Int) / 72057594037927936)] rfl rfl (cell_one_new _ _ _) (by intro u hu; simp at hu; subst hu; rfl) (by omega) ?_; intro w4 hown4 hgrow4; replace HI := hide ((HI.out.alloc _).grown hgrow4 (by simp; omega)); replace HB := hide ((HB.out.alloc HB.out.size _).grown hgrow4 (by simp; omega) (by simp; omega)); have HO := hide hown4; clear hown4 hown hgrow4 hltw a0 a1 hsz))
      go_roundw
      case rel => exact ⟨1, by omega, by go_num, rfl, HO.out, HI.out, HB.out, hlt⟩
      case measure => simp [intOf]
    · go_wp2_with (first
        | (at_builtin; refine wpList_append_fits _ rfl (.tmp 23) (.tmp 29) 41 rfl w1.heap.size 5 i0 1 Tryd.underlying41 hi hz1 w1.heap.size (1 + 1) 9 _ rfl (hown.alloc _) ⟨wr.heap.size, 0, none⟩ 1 1 [.int .u8 ((n : Int) / 281474976710656 % 256)] rfl rfl (cell_one_new _ _ _) (by intro u hu; simp at hu; subst hu; rfl) (by omega) ?_; intro w4 hown4 hgrow4; replace HI := hide ((HI.out.alloc _).grown hgrow4 (by simp; omega)); replace HB := hide ((HB.out.alloc HB.out.size _).grown hgrow4 (by simp; omega) (by simp; omega)); have HO := hide hown4; clear hown4 hown hgrow4 hltw a0 a1 hsz))
      go_roundw
      case rel => exact ⟨2, by omega, by go_num, rfl, HO.out, HI.out, HB.out, hlt⟩
      case measure => simp [intOf]
    · go_wp2_with (first
        | (at_builtin; refine wpList_append_fits _ rfl (.tmp 23) (.tmp 29) 41 rfl w1.heap.size 5 i0 1 Tryd.underlying41 hi hz1 w1.heap.size (1 + 2) 9 _ rfl (hown.alloc _) ⟨wr.heap.size, 0, none⟩ 1 1 [.int .u8 ((n : Int) / 1099511627776 % 256)] rfl rfl (cell_one_new _ _ _) (by intro u hu; simp at hu; subst hu; rfl) (by omega) ?_; intro w4 hown4 hgrow4; replace HI := hide ((HI.out.alloc _).grown hgrow4 (by simp; omega)); replace HB := hide ((HB.out.alloc HB.out.size _).grown hgrow4 (by simp; omega) (by simp; omega)); have HO := hide hown4; clear hown4 hown hgrow4 hltw a0 a1 hsz))
      go_roundw
      case rel => exact ⟨3, by omega, by go_num, rfl, HO.out, HI.out, HB.out, hlt⟩
      case measure => simp [intOf]
    · go_wp2_with (first
        | (at_builtin; refine wpList_append_fits _ rfl (.tmp 23) (.tmp 29) 41 rfl w1.heap.size 5 i0 1 Tryd.underlying41 hi hz1 w1.heap.size (1 + 3) 9 _ rfl (hown.alloc _) ⟨wr.heap.size, 0, none⟩ 1 1 [.int .u8 ((n : Int) / 4294967296 % 256)] rfl rfl (cell_one_new _ _ _) (by intro u hu; simp at hu; subst hu; rfl) (by omega) ?_; intro w4 hown4 hgrow4; replace HI := hide ((HI.out.alloc _).grown hgrow4 (by simp; omega)); replace HB := hide ((HB.out.alloc HB.out.size _).grown hgrow4 (by simp; omega) (by simp; omega)); have HO := hide hown4; clear hown4 hown hgrow4 hltw a0 a1 hsz))
      go_roundw
      case rel => exact ⟨4, by omega, by go_num, rfl, HO.out, HI.out, HB.out, hlt⟩
      case measure => simp [intOf]
    · go_wp2_with (first
        | (at_builtin; refine wpList_append_fits _ rfl (.tmp 23) (.tmp 29) 41 rfl w1.heap.size 5 i0 1 Tryd.underlying41 hi hz1 w1.heap.size (1 + 4) 9 _ rfl (hown.alloc _) ⟨wr.heap.size, 0, none⟩ 1 1 [.int .u8 ((n : Int) / 16777216 % 256)] rfl rfl (cell_one_new _ _ _) (by intro u hu; simp at hu; subst hu; rfl) (by omega) ?_; intro w4 hown4 hgrow4; replace HI := hide ((HI.out.alloc _).grown hgrow4 (by simp; omega)); replace HB := hide ((HB.out.alloc HB.out.size _).grown hgrow4 (by simp; omega) (by simp; omega)); have HO := hide hown4; clear hown4 hown hgrow4 hltw a0 a1 hsz))
      go_roundw
      case rel => exact ⟨5, by omega, by go_num, rfl, HO.out, HI.out, HB.out, hlt⟩
      case measure => simp [intOf]
    · go_wp2_with (first
        | (at_builtin; refine wpList_append_fits _ rfl (.tmp 23) (.tmp 29) 41 rfl w1.heap.size 5 i0 1 Tryd.underlying41 hi hz1 w1.heap.size (1 + 5) 9 _ rfl (hown.alloc _) ⟨wr.heap.size, 0, none⟩ 1 1 [.int .u8 ((n : Int) / 65536 % 256)] rfl rfl (cell_one_new _ _ _) (by intro u hu; simp at hu; subst hu; rfl) (by omega) ?_; intro w4 hown4 hgrow4; replace HI := hide ((HI.out.alloc _).grown hgrow4 (by simp; omega)); replace HB := hide ((HB.out.alloc HB.out.size _).grown hgrow4 (by simp; omega) (by simp; omega)); have HO := hide hown4; clear hown4 hown hgrow4 hltw a0 a1 hsz))
      go_roundw
      case rel => exact ⟨6, by omega, by go_num, rfl, HO.out, HI.out, HB.out, hlt⟩
      case measure => simp [intOf]
    · go_wp2_with (first
        | (at_builtin; refine wpList_append_fits _ rfl (.tmp 23) (.tmp 29) 41 rfl w1.heap.size 5 i0 1 Tryd.underlying41 hi hz1 w1.heap.size (1 + 6) 9 _ rfl (hown.alloc _) ⟨wr.heap.size, 0, none⟩ 1 1 [.int .u8 ((n : Int) / 256 % 256)] rfl rfl (cell_one_new _ _ _) (by intro u hu; simp at hu; subst hu; rfl) (by omega) ?_; intro w4 hown4 hgrow4; replace HI := hide ((HI.out.alloc _).grown hgrow4 (by simp; omega)); replace HB := hide ((HB.out.alloc HB.out.size _).grown hgrow4 (by simp; omega) (by simp; omega)); have HO := hide hown4; clear hown4 hown hgrow4 hltw a0 a1 hsz))
      go_roundw
      case rel => exact ⟨7, by omega, by go_num, rfl, HO.out, HI.out, HB.out, hlt⟩
      case measure => simp [intOf]
    · go_wp2_with (first
        | (at_builtin; refine wpList_append_fits _ rfl (.tmp 23) (.tmp 29) 41 rfl w1.heap.size 5 i0 1 Tryd.underlying41 hi hz1 w1.heap.size (1 + 7) 9 _ rfl (hown.alloc _) ⟨wr.heap.size, 0, none⟩ 1 1 [.int .u8 ((n : Int) % 256)] rfl rfl (cell_one_new _ _ _) (by intro u hu; simp at hu; subst hu; rfl) (by omega) ?_; intro w4 hown4 hgrow4; replace HI := hide ((HI.out.alloc _).grown hgrow4 (by simp; omega)); replace HB := hide ((HB.out.alloc HB.out.size _).grown hgrow4 (by simp; omega) (by simp; omega)); have HO := hide hown4; clear hown4 hown hgrow4 hltw a0 a1 hsz))
      go_roundw
      case rel => exact ⟨8, by omega, by go_num, rfl, HO.out, HI.out, HB.out, hlt⟩
      case measure => simp [intOf]
    · go_wp2
      go_ret2
      refine ⟨w1.heap.size, rfl, ?_, HB.out⟩
      obtain ⟨h1, h2⟩ := hown
      refine ⟨h1, ?_⟩
      rcases h2 with ⟨h', _⟩ | ⟨g', cap', cur, h', h3, h4⟩
      · simp at h'
      · exact Or.inr ⟨g', cap', cur, h', by omega, h4⟩

set_option maxHeartbeats 2000000 in
set_option maxRecDepth 100000 in
theorem kBytes_bad (r n : Int) (w : World) (hR : Ranks w) (hc : ckE r n = 20) :
    Calls Tryd.prog 33 #[(.agg #[.int .i64 (r), .int .u64 (n)])] w fun e w' => e = .returned (.tuple #[.slice none 0 0, .int .i64 20]) ∧ RowKit.Below w.heap.size w w' := by
  have ck := kCheck_any r n (w.alloc (.cells #[.int .i64 r, .int .u64 n] 25)) (hR.gr ((Gr.refl w).alloc _))
  rw [hc] at ck
  have HG := hide (show Gr w (w.alloc (.cells #[.int .i64 r, .int .u64 n] 25)) from (Gr.refl w).alloc _)
  clear hc hR
  go_enter Tryd.func33, Tryd.ntmps33
  go_wp2_with fail
  refine ck.mono ?_; rintro e w1 ⟨rfl, hg⟩
  go_wp2
  go_ret2
  exact ⟨rfl, (HG.out.trans hg).below⟩

end Go.Proofs.YtidgkaephikjaaaDoor
