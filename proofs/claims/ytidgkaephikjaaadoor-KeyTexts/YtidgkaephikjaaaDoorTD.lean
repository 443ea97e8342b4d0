/- The document's bytes of a key. -/
import Derived.Test.YtidgkaephikjaaaDoorFE
import Derived.Test.YtidgkaephikjaaaDoorE
import Derived.Lib.ItoaMem
import Derived.Laws.IdiomStrings
import Derived.Test.YtidgkaephikjaaaDoorFG
namespace Go.Proofs.YtidgkaephikjaaaDoor
open Go.RowKit

/-- From cell 0 of block g on lie these bytes. -/
def RowB (w : World) (g : Nat) (l : List Int) : Prop := ∀ j u, (u8s l)[j]? = some u → w.cell? ⟨g, j, none⟩ = some u
theorem RowB.below {w w' : World} {g : Nat} {l : List Int} (h : RowB w g l) (hb : RowKit.Below w.heap.size w w') : RowB w' g l := fun j u hj => (hb.cell (lt_of_cell (h j u hj))).trans (h j u hj)
theorem RowB.of {w : World} {base e g n cap : Nat} {l : List Int} (h : w.ownsRow base e 1 (.slice (some ⟨g, 0, none⟩) n cap) n (u8s l)) : RowB w g l := fun j u hj => by
  have := h.cells (g := g) rfl j u hj
  rw [Lib.add_plain, Nat.zero_add] at this
  exact this
theorem RowB.text {w : World} {g cap : Nat} {r n : Int} (h : RowB w g (kb r n)) (h0 : 1 ≤ r) (h3 : r ≤ 3) (hn0 : 0 ≤ n) (hn : n < 18446744073709551616) :
    (convert 41 9 (.slice (some ⟨g, 0, none⟩) 9 cap)).run Tryd.prog w = .ok (.string ⟨(kbB r n).toArray⟩) w := by
  have := run_convert_bytes_back (P := Tryd.prog) w 41 9 5 ⟨g, 0, none⟩ cap (kbB r n) Tryd.underlying41 Tryd.underlying5 Tryd.underlying9 (fun j hj => by
    have := h j (.int .u8 ((kbB r n)[j].toNat : Int)) (by rw [kbB_cells r n h0 h3 hn0 hn, List.getElem?_map, List.getElem?_eq_getElem hj]; rfl)
    rw [Lib.add_plain, Nat.zero_add]
    exact this)
  rw [kbB_len] at this
  exact this

set_option maxHeartbeats 2000000 in
set_option maxRecDepth 100000 in
theorem rBytes_bad (r n : Int) (w : World) (hc : ckE r n = 20) :
    Calls Tryd.prog 34 #[(.agg #[.int .i64 (r), .int .u64 (n)])] w fun e w' => e = .returned (.tuple #[.slice none 0 0, .int .i64 20]) ∧ RowKit.Below w.heap.size w w' := by
  have ck := rCheck_any r n (w.alloc (.cells #[.int .i64 r, .int .u64 n] 25))
  rw [hc] at ck
  have HG := hide (show Gr w (w.alloc (.cells #[.int .i64 r, .int .u64 n] 25)) from (Gr.refl w).alloc _)
  clear hc
  go_enter Tryd.func34, Tryd.ntmps34
  go_wp2_with fail
  refine ck.mono ?_; rintro e w1 ⟨rfl, hg⟩
  go_wp2
  go_ret2
  exact ⟨rfl, (HG.out.trans hg).below⟩

set_option maxHeartbeats 4000000 in
set_option maxRecDepth 100000 in
theorem rBytes_ok (r n : Nat) (hr0 : 1 ≤ r) (hr3 : r ≤ 3) (hn : n < 18446744073709551616) (w : World) (hc : ckE r n = 0) :
    Calls Tryd.prog 34 #[(.agg #[.int .i64 ((r : Int)), .int .u64 ((n : Int))])] w fun e w' => ∃ g cap, e = .returned (.tuple #[.slice (some ⟨g, 0, none⟩) 9 cap, .int .i64 0]) ∧ RowB w' g (kb r n) ∧ RowKit.Below w.heap.size w w' := by
  obtain ⟨i0, hi, hz0, hz1, hz2⟩ := info_parts Tryd.infoU8
  have ck := rCheck_any r n (w.alloc (.cells #[.int .i64 r, .int .u64 n] 25))
  rw [hc] at ck
  have HI := hide (Is2.new w (.int .i64 (r : Int)) (.int .u64 (n : Int)))
  have HG := hide (show Gr w (w.alloc (.cells #[.int .i64 (r : Int), .int .u64 (n : Int)] 25)) from (Gr.refl w).alloc _)
  clear hc
  go_enter Tryd.func34, Tryd.ntmps34
  go_wp2_with fail
  refine ck.mono ?_; rintro e w1 ⟨rfl, hg⟩
  replace HI := hide (HI.out.gr hg)
  have HB := hide (HG.out.trans hg).below
  obtain ⟨a0, a1, -, -⟩ := HI.out.c
  have hlt := HI.out.lt
  clear ck hg HG
  go_wp2
  have hown0 : (w1.alloc (.cells #[.int .u8 (r : Int)] 5)).ownsRow (w.heap.size + 1) 5 1 (.slice (some ⟨w1.heap.size, 0, none⟩) 1 1) 1 (u8s ((kb r n).take 1)) :=
    World.ownsRow_lit w1 #[.int .u8 (r : Int)] 1 (by omega) (by unfold maxLen; omega) rfl
  replace HI := hide (HI.out.alloc (.cells #[.int .u8 (r : Int)] 5))
  replace HB := hide (HB.out.alloc HB.out.size (.cells #[.int .u8 (r : Int)] 5))
  clear a0 a1 hlt
  generalize w1.alloc (.cells #[.int .u8 (r : Int)] 5) = W1 at HI HB hown0 ⊢
  go_loopw [4, 5] (fun v i wr => ∃ k : Nat, k ≤ 8 ∧ i = .int .i64 (7 - (k : Int)) ∧ wr.ownsRow (w.heap.size + 1) 5 1 v (1 + k) (u8s ((kb r n).take (1 + k))) ∧ Is2 wr w.heap.size (.int .i64 (r : Int)) (.int .u64 (n : Int)) ∧ RowKit.Below w.heap.size w wr) (fun _ i _ => (8 + intOf i).toNat)
  case atStart => exact ⟨0, by omega, rfl, hown0, HI.out, HB.out⟩
  case round =>
    obtain ⟨k, hk, rfl, hown, I0, hb⟩ := hrel
    clear hown0 HI HB
    have HB := hide hb
    have HI := hide I0
    obtain ⟨a0, a1, -, -⟩ := I0.c
    have hltw := I0.lt
    have hne : ∀ j, u4.ownBlock = some j → w.heap.size + 1 ≤ j ∧ j < wr.heap.size := fun j hj => hown.lt j hj
    clear I0 hb
    have hk' : k = 0 ∨ k = 1 ∨ k = 2 ∨ k = 3 ∨ k = 4 ∨ k = 5 ∨ k = 6 ∨ k = 7 ∨ k = 8 := by omega
    rcases hk' with rfl | rfl | rfl | rfl | rfl | rfl | rfl | rfl | rfl
    · go_wp2_with (first
        | (at_builtin; refine wpList_append_own _ rfl (.tmp 17) (.tmp 25) 41 rfl (w.heap.size + 1) 5 i0 (.int .u8 0) 1 1 Tryd.underlying41 hi hz0 hz1 hz2 rfl (by decide) _ _ _ rfl (hown.alloc _) ⟨wr.heap.size, 0, none⟩ 1 1 [.int .u8 ((n : Int) / 72057594037927936)] rfl rfl (cell_one_new _ _ _) (by intro u hu; simp at hu; subst hu; rfl) (by unfold maxLen; omega) (by omega) (by simp; omega) ?_; intro v' w4 hown4 hgrow4 _; replace HI := hide ((HI.out.alloc _).grown hgrow4 (fun h => by have := (hne _ h.symm).1; omega)); replace HB := hide ((HB.out.alloc HB.out.size _).grown hgrow4 (by simp; omega) (fun j hj => by have := (hne j hj).1; omega)); have HO := hide hown4; clear hown4 hown hgrow4 hltw a0 a1 hne))
      go_roundw
      case rel => exact ⟨1, by omega, by go_num, HO.out, HI.out, HB.out⟩
      case measure => simp [intOf]
    · go_wp2_with (first
        | (at_builtin; refine wpList_append_own _ rfl (.tmp 17) (.tmp 25) 41 rfl (w.heap.size + 1) 5 i0 (.int .u8 0) 1 1 Tryd.underlying41 hi hz0 hz1 hz2 rfl (by decide) _ _ _ rfl (hown.alloc _) ⟨wr.heap.size, 0, none⟩ 1 1 [.int .u8 ((n : Int) / 281474976710656 % 256)] rfl rfl (cell_one_new _ _ _) (by intro u hu; simp at hu; subst hu; rfl) (by unfold maxLen; omega) (by omega) (by simp; omega) ?_; intro v' w4 hown4 hgrow4 _; replace HI := hide ((HI.out.alloc _).grown hgrow4 (fun h => by have := (hne _ h.symm).1; omega)); replace HB := hide ((HB.out.alloc HB.out.size _).grown hgrow4 (by simp; omega) (fun j hj => by have := (hne j hj).1; omega)); have HO := hide hown4; clear hown4 hown hgrow4 hltw a0 a1 hne))
      go_roundw
      case rel => exact ⟨2, by omega, by go_num, HO.out, HI.out, HB.out⟩
      case measure => simp [intOf]
    · go_wp2_with (first
        | (at_builtin; refine wpList_append_own _ rfl (.tmp 17) (.tmp 25) 41 rfl (w.heap.size + 1) 5 i0 (.int .u8 0) 1 1 Tryd.underlying41 hi hz0 hz1 hz2 rfl (by decide) _ _ _ rfl (hown.alloc _) ⟨wr.heap.size, 0, none⟩ 1 1 [.int .u8 ((n : Int) / 1099511627776 % 256)] rfl rfl (cell_one_new _ _ _) (by intro u hu; simp at hu; subst hu; rfl) (by unfold maxLen; omega) (by omega) (by simp; omega) ?_; intro v' w4 hown4 hgrow4 _; replace HI := hide ((HI.out.alloc _).grown hgrow4 (fun h => by have := (hne _ h.symm).1; omega)); replace HB := hide ((HB.out.alloc HB.out.size _).grown hgrow4 (by simp; omega) (fun j hj => by have := (hne j hj).1; omega)); have HO := hide hown4; clear hown4 hown hgrow4 hltw a0 a1 hne))
      go_roundw
      case rel => exact ⟨3, by omega, by go_num, HO.out, HI.out, HB.out⟩
      case measure => simp [intOf]
    · go_wp2_with (first
        | (at_builtin; refine wpList_append_own _ rfl (.tmp 17) (.tmp 25) 41 rfl (w.heap.size + 1) 5 i0 (.int .u8 0) 1 1 Tryd.underlying41 hi hz0 hz1 hz2 rfl (by decide) _ _ _ rfl (hown.alloc _) ⟨wr.heap.size, 0, none⟩ 1 1 [.int .u8 ((n : Int) / 4294967296 % 256)] rfl rfl (cell_one_new _ _ _) (by intro u hu; simp at hu; subst hu; rfl) (by unfold maxLen; omega) (by omega) (by simp; omega) ?_; intro v' w4 hown4 hgrow4 _; replace HI := hide ((HI.out.alloc _).grown hgrow4 (fun h => by have := (hne _ h.symm).1; omega)); replace HB := hide ((HB.out.alloc HB.out.size _).grown hgrow4 (by simp; omega) (fun j hj => by have := (hne j hj).1; omega)); have HO := hide hown4; clear hown4 hown hgrow4 hltw a0 a1 hne))
      go_roundw
      case rel => exact ⟨4, by omega, by go_num, HO.out, HI.out, HB.out⟩
      case measure => simp [intOf]
    · go_wp2_with (first
        | (at_builtin; refine wpList_append_own _ rfl (.tmp 17) (.tmp 25) 41 rfl (w.heap.size + 1) 5 i0 (.int .u8 0) 1 1 Tryd.underlying41 hi hz0 hz1 hz2 rfl (by decide) _ _ _ rfl (hown.alloc _) ⟨wr.heap.size, 0, none⟩ 1 1 [.int .u8 ((n : Int) / 16777216 % 256)] rfl rfl (cell_one_new _ _ _) (by intro u hu; simp at hu; subst hu; rfl) (by unfold maxLen; omega) (by omega) (by simp; omega) ?_; intro v' w4 hown4 hgrow4 _; replace HI := hide ((HI.out.alloc _).grown hgrow4 (fun h => by have := (hne _ h.symm).1; omega)); replace HB := hide ((HB.out.alloc HB.out.size _).grown hgrow4 (by simp; omega) (fun j hj => by have := (hne j hj).1; omega)); have HO := hide hown4; clear hown4 hown hgrow4 hltw a0 a1 hne))
      go_roundw
      case rel => exact ⟨5, by omega, by go_num, HO.out, HI.out, HB.out⟩
      case measure => simp [intOf]
    · go_wp2_with (first
        | (at_builtin; refine wpList_append_own _ rfl (.tmp 17) (.tmp 25) 41 rfl (w.heap.size + 1) 5 i0 (.int .u8 0) 1 1 Tryd.underlying41 hi hz0 hz1 hz2 rfl (by decide) _ _ _ rfl (hown.alloc _) ⟨wr.heap.size, 0, none⟩ 1 1 [.int .u8 ((n : Int) / 65536 % 256)] rfl rfl (cell_one_new _ _ _) (by intro u hu; simp at hu; subst hu; rfl) (by unfold maxLen; omega) (by omega) (by simp; omega) ?_; intro v' w4 hown4 hgrow4 _; replace HI := hide ((HI.out.alloc _).grown hgrow4 (fun h => by have := (hne _ h.symm).1; omega)); replace HB := hide ((HB.out.alloc HB.out.size _).grown hgrow4 (by simp; omega) (fun j hj => by have := (hne j hj).1; omega)); have HO := hide hown4; clear hown4 hown hgrow4 hltw a0 a1 hne))
      go_roundw
      case rel => exact ⟨6, by omega, by go_num, HO.out, HI.out, HB.out⟩
      case measure => simp [intOf]
    · go_wp2_with (first
        | (at_builtin; refine wpList_append_own _ rfl (.tmp 17) (.tmp 25) 41 rfl (w.heap.size + 1) 5 i0 (.int .u8 0) 1 1 Tryd.underlying41 hi hz0 hz1 hz2 rfl (by decide) _ _ _ rfl (hown.alloc _) ⟨wr.heap.size, 0, none⟩ 1 1 [.int .u8 ((n : Int) / 256 % 256)] rfl rfl (cell_one_new _ _ _) (by intro u hu; simp at hu; subst hu; rfl) (by unfold maxLen; omega) (by omega) (by simp; omega) ?_; intro v' w4 hown4 hgrow4 _; replace HI := hide ((HI.out.alloc _).grown hgrow4 (fun h => by have := (hne _ h.symm).1; omega)); replace HB := hide ((HB.out.alloc HB.out.size _).grown hgrow4 (by simp; omega) (fun j hj => by have := (hne j hj).1; omega)); have HO := hide hown4; clear hown4 hown hgrow4 hltw a0 a1 hne))
      go_roundw
      case rel => exact ⟨7, by omega, by go_num, HO.out, HI.out, HB.out⟩
      case measure => simp [intOf]
    · go_wp2_with (first
        | (at_builtin; refine wpList_append_own _ rfl (.tmp 17) (.tmp 25) 41 rfl (w.heap.size + 1) 5 i0 (.int .u8 0) 1 1 Tryd.underlying41 hi hz0 hz1 hz2 rfl (by decide) _ _ _ rfl (hown.alloc _) ⟨wr.heap.size, 0, none⟩ 1 1 [.int .u8 ((n : Int) % 256)] rfl rfl (cell_one_new _ _ _) (by intro u hu; simp at hu; subst hu; rfl) (by unfold maxLen; omega) (by omega) (by simp; omega) ?_; intro v' w4 hown4 hgrow4 _; replace HI := hide ((HI.out.alloc _).grown hgrow4 (fun h => by have := (hne _ h.symm).1; omega)); replace HB := hide ((HB.out.alloc HB.out.size _).grown hgrow4 (by simp; omega) (fun j hj => by have := (hne j hj).1; omega)); have HO := hide hown4; clear hown4 hown hgrow4 hltw a0 a1 hne))
      go_roundw
      case rel => exact ⟨8, by omega, by go_num, HO.out, HI.out, HB.out⟩
      case measure => simp [intOf]
    · go_wp2
      go_ret2
      have h := hown.2
      rcases h with ⟨_, h'⟩ | ⟨g', cap', cur, rfl, h3, h4⟩
      · omega
      · exact ⟨g', cap', rfl, RowB.of hown, HB.out⟩

end Go.Proofs.YtidgkaephikjaaaDoor
