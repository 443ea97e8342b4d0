/- Package pack: what each statement asks for at its head: walked. -/
import Derived.Test.YtmhcmlegdoapdaaDoorQF
import Derived.Test.YtmhcmlegdoapdaaDoorQH
import Derived.Test.YtmhcmlegdoapdaaDoorQI
import Derived.Test.YtmhcmlegdoapdaaDoorQN
import Derived.Laws.IdiomStrings
namespace Go.Proofs.YtmhcmlegdoapdaaDoor
open Go.RowKit

theorem packOf_int (W0 : World) (i : Int) (hi0 : -9223372036854775808 ≤ i) (hi1 : i ≤ 9223372036854775807) : PackOf W0 ⟨2, 0, i, false, none, 0, 0, 0, 0, 0, 0, 0, 0, 0, 0, 0⟩ (nb (fold i)) where
  check := fun w _ => (check_int i w).mono fun _ _ ⟨h, k⟩ => ⟨h, k.below⟩
  size := fun w _ => (fieldSize_int i hi0 hi1 w).mono fun _ _ ⟨h, k⟩ => ⟨h, k.below⟩
  put := fun w base g n cap xs _ _ ho hr => putField_int i hi0 hi1 base g n cap xs w ho hr
theorem packOf_vec (W0 : World) (l b : Nat) (hl : l ≤ 32) (hb2 : b < 2 ^ l) : PackOf W0 ⟨5, 0, 0, false, none, 0, 0, l, b, 0, 0, 0, 0, 0, 0, 0⟩ (vb l b) where
  check := fun w _ => (check_vec l b hl hb2 w).mono fun _ _ ⟨h, k⟩ => ⟨h, k.below⟩
  size := fun w _ => (fieldSize_vec l b hl w).mono fun _ _ ⟨h, k⟩ => ⟨h, k.below⟩
  put := fun w base g n cap xs _ _ ho hr => putField_vec l b hl hb2 base g n cap xs w ho hr
theorem packOf_key (W0 : World) (hR : Ranks W0) (r x : Int) (hr0 : 1 ≤ r) (hr3 : r ≤ 3) (hc : ckE r x = 0) : PackOf W0 ⟨6, 0, 0, false, none, 0, 0, 0, 0, r, x, 0, 0, 0, 0, 0⟩ (kyb r x) where
  check := fun w hb => (check_key r x w (hR.below hb) hc).mono fun _ _ ⟨h, k⟩ => ⟨h, k.below⟩
  size := fun w _ => (fieldSize_key r x w).mono fun _ _ ⟨h, k⟩ => ⟨h, k.below⟩
  put := fun w base g n cap xs _ _ ho hr => putField_key r x hr0 hr3 base g n cap xs w ho hr

/-- The three fields. -/
def alv : List (Fd × List Int) := [(⟨2, 0, -1, false, none, 0, 0, 0, 0, 0, 0, 0, 0, 0, 0, 0⟩, nb (fold (-1))), (⟨5, 0, 0, false, none, 0, 0, 3, 5, 0, 0, 0, 0, 0, 0, 0⟩, vb 3 5), (⟨6, 0, 0, false, none, 0, 0, 0, 0, 2, 258, 0, 0, 0, 0, 0⟩, kyb 2 258)]
theorem alv_all : allOf alv = [1, 3, 160, 2, 0, 0, 0, 0, 0, 0, 1, 2] := by
  unfold alv allOf
  rw [show fold (-1) = 1 from by decide]
  simp only [List.flatMap_cons, List.flatMap_nil, nb_small (show 1 < 128 by omega)]
  decide +kernel
theorem fields_alive (w : World) (b : Nat) (hR : Ranks w) (h : IsB w b #[.int .i64 2, .int .u64 0, .int .i64 (-1), .bool false, .slice none 0 0, .int .i64 0, .int .u64 0, .int .i64 0, .int .u64 0, .int .i64 0, .int .i64 0, .int .u64 0, .int .i64 0, .int .u64 0, .int .i64 5, .int .u64 0, .int .i64 0, .bool false, .slice none 0 0, .int .i64 3, .int .u64 5, .int .i64 0, .int .u64 0, .int .i64 0, .int .i64 0, .int .u64 0, .int .i64 0, .int .u64 0, .int .i64 6, .int .u64 0, .int .i64 0, .bool false, .slice none 0 0, .int .i64 0, .int .u64 0, .int .i64 2, .int .u64 258, .int .i64 0, .int .i64 0, .int .u64 0, .int .i64 0, .int .u64 0] 34) : FieldsAt w b 0 alv := by
  intro i p hp
  match i, hp with
  | 0, hp =>
    cases hp
    refine ⟨packOf_int w (-1) (by omega) (by omega), fun j hj => ?_⟩
    match j, hj with
    | 0, _ => exact (h.cell _).trans rfl
    | 1, _ => exact (h.cell _).trans rfl
    | 2, _ => exact (h.cell _).trans rfl
    | 3, _ => exact (h.cell _).trans rfl
    | 4, _ => exact (h.cell _).trans rfl
    | 5, _ => exact (h.cell _).trans rfl
    | 6, _ => exact (h.cell _).trans rfl
    | 7, _ => exact (h.cell _).trans rfl
    | 8, _ => exact (h.cell _).trans rfl
    | 9, _ => exact (h.cell _).trans rfl
    | 10, _ => exact (h.cell _).trans rfl
    | 11, _ => exact (h.cell _).trans rfl
    | 12, _ => exact (h.cell _).trans rfl
    | 13, _ => exact (h.cell _).trans rfl
  | 1, hp =>
    cases hp
    refine ⟨packOf_vec w 3 5 (by omega) (by omega), fun j hj => ?_⟩
    match j, hj with
    | 0, _ => exact (h.cell _).trans rfl
    | 1, _ => exact (h.cell _).trans rfl
    | 2, _ => exact (h.cell _).trans rfl
    | 3, _ => exact (h.cell _).trans rfl
    | 4, _ => exact (h.cell _).trans rfl
    | 5, _ => exact (h.cell _).trans rfl
    | 6, _ => exact (h.cell _).trans rfl
    | 7, _ => exact (h.cell _).trans rfl
    | 8, _ => exact (h.cell _).trans rfl
    | 9, _ => exact (h.cell _).trans rfl
    | 10, _ => exact (h.cell _).trans rfl
    | 11, _ => exact (h.cell _).trans rfl
    | 12, _ => exact (h.cell _).trans rfl
    | 13, _ => exact (h.cell _).trans rfl
  | 2, hp =>
    cases hp
    refine ⟨packOf_key w hR 2 258 (by omega) (by omega) (by decide), fun j hj => ?_⟩
    match j, hj with
    | 0, _ => exact (h.cell _).trans rfl
    | 1, _ => exact (h.cell _).trans rfl
    | 2, _ => exact (h.cell _).trans rfl
    | 3, _ => exact (h.cell _).trans rfl
    | 4, _ => exact (h.cell _).trans rfl
    | 5, _ => exact (h.cell _).trans rfl
    | 6, _ => exact (h.cell _).trans rfl
    | 7, _ => exact (h.cell _).trans rfl
    | 8, _ => exact (h.cell _).trans rfl
    | 9, _ => exact (h.cell _).trans rfl
    | 10, _ => exact (h.cell _).trans rfl
    | 11, _ => exact (h.cell _).trans rfl
    | 12, _ => exact (h.cell _).trans rfl
    | 13, _ => exact (h.cell _).trans rfl

/-- The bytes that a row holds, as a text. -/
theorem text_of {w : World} {base g cap : Nat} (l : List UInt8) (h : w.ownsRow base 5 1 (.slice (some ⟨g, 0, none⟩) l.length cap) l.length (u8s (l.map fun c => (c.toNat : Int)))) :
    ∀ w', RowKit.Below w.heap.size w w' → (convert 25 9 (.slice (some ⟨g, 0, none⟩) l.length cap)).run Tryd.prog w' = .ok (.string ⟨l.toArray⟩) w' := by
  intro w' hb
  refine run_convert_bytes_back (P := Tryd.prog) w' 25 9 5 ⟨g, 0, none⟩ cap l Tryd.underlying25 Tryd.underlying5 Tryd.underlying9 (fun j hj => ?_)
  have hc := h.cells (g := g) rfl j (.int .u8 (l[j].toNat : Int)) (by simp [u8s, hj])
  rw [← hc]
  have hl := lt_of_cell hc
  rw [Lib.add_plain] at hl ⊢
  exact hb.cell (by exact hl)

set_option maxHeartbeats 8000000 in
set_option maxRecDepth 100000 in
theorem alive_any (w : World) (hR : Ranks w) : Calls Tryd.prog 18 #[] w fun e w' => e = .returned (.bool true) ∧ RowKit.Below w.heap.size w w' := by
  have HI := IsB.new w #[.int .i64 2, .int .u64 0, .int .i64 (-1), .bool false, .slice none 0 0, .int .i64 0, .int .u64 0, .int .i64 0, .int .u64 0, .int .i64 0, .int .i64 0, .int .u64 0, .int .i64 0, .int .u64 0, .int .i64 5, .int .u64 0, .int .i64 0, .bool false, .slice none 0 0, .int .i64 3, .int .u64 5, .int .i64 0, .int .u64 0, .int .i64 0, .int .i64 0, .int .u64 0, .int .i64 0, .int .u64 0, .int .i64 6, .int .u64 0, .int .i64 0, .bool false, .slice none 0 0, .int .i64 0, .int .u64 0, .int .i64 2, .int .u64 258, .int .i64 0, .int .i64 0, .int .u64 0, .int .i64 0, .int .u64 0] 34
  have HG := hide (show Gr w (w.alloc (.cells #[.int .i64 2, .int .u64 0, .int .i64 (-1), .bool false, .slice none 0 0, .int .i64 0, .int .u64 0, .int .i64 0, .int .u64 0, .int .i64 0, .int .i64 0, .int .u64 0, .int .i64 0, .int .u64 0, .int .i64 5, .int .u64 0, .int .i64 0, .bool false, .slice none 0 0, .int .i64 3, .int .u64 5, .int .i64 0, .int .u64 0, .int .i64 0, .int .i64 0, .int .u64 0, .int .i64 0, .int .u64 0, .int .i64 6, .int .u64 0, .int .i64 0, .bool false, .slice none 0 0, .int .i64 0, .int .u64 0, .int .i64 2, .int .u64 258, .int .i64 0, .int .i64 0, .int .u64 0, .int .i64 0, .int .u64 0] 34)) from (Gr.refl w).alloc _)
  have hp := pack_any w.heap.size 0 3 alv _ (fields_alive _ w.heap.size (hR.gr HG.out) HI) (by decide) (by rw [alv_all]; decide)
  rw [alv_all] at hp
  have HP := hide hp
  clear hp HI hR
  go_enter Tryd.func18, Tryd.ntmps18
  go_wp2_with fail
  generalize w.alloc (.cells #[.int .i64 2, .int .u64 0, .int .i64 (-1), .bool false, .slice none 0 0, .int .i64 0, .int .u64 0, .int .i64 0, .int .u64 0, .int .i64 0, .int .i64 0, .int .u64 0, .int .i64 0, .int .u64 0, .int .i64 5, .int .u64 0, .int .i64 0, .bool false, .slice none 0 0, .int .i64 3, .int .u64 5, .int .i64 0, .int .u64 0, .int .i64 0, .int .i64 0, .int .u64 0, .int .i64 0, .int .u64 0, .int .i64 6, .int .u64 0, .int .i64 0, .bool false, .slice none 0 0, .int .i64 0, .int .u64 0, .int .i64 2, .int .u64 258, .int .i64 0, .int .i64 0, .int .u64 0, .int .i64 0, .int .u64 0] 34) = W0 at HG HP ⊢
  refine HP.out.mono ?_; rintro e w1 ⟨g, hgl, rfl, hown, hb⟩
  have HB := hide (HG.out.below.trans (hb.mono HG.out.le))
  have HT := hide (text_of [1, 3, 160, 2, 0, 0, 0, 0, 0, 0, 1, 2] hown)
  clear hown hb HP HG
  have I0 := (IsB.new w1 #[.int .u8 128, .int .u8 0] 5).alloc (.cells #[.int .i64 1] 23)
  have I1 := IsB.new (w1.alloc (.cells #[.int .u8 128, .int .u8 0] 5)) #[.int .i64 1] 23
  rw [World.size_alloc] at I1
  have HG1 := hide (show Gr w1 ((w1.alloc (.cells #[.int .u8 128, .int .u8 0] 5)).alloc (.cells #[.int .i64 1] 23)) from ((Gr.refl w1).alloc _).alloc _)
  have hf := hide (first_alive w1.heap.size (w1.heap.size + 1) _ (I0.cell 0) (I0.cell 1) (I1.cell 0))
  clear I0 I1
  go_wp2_with fail
  generalize (w1.alloc (.cells #[.int .u8 128, .int .u8 0] 5)).alloc (.cells #[.int .i64 1] 23) = W2 at HG1 hf ⊢
  refine hf.out.mono ?_; rintro e w3 ⟨rfl, hb⟩
  have hb3 := HG1.out.below.trans (hb.mono HG1.out.le)
  have hcv : (convert 25 9 (.slice (some ⟨g, 0, none⟩) 12 12)).run Tryd.prog w3 = .ok (.string ⟨#[1, 3, 160, 2, 0, 0, 0, 0, 0, 0, 1, 2]⟩) w3 := HT.out w3 hb3
  replace HB := hide (HB.out.trans (hb3.mono HB.out.size))
  clear hb hb3 HT HG1 hf
  go_wp2
  go_ret
  exact ⟨rfl, HB.out⟩

end Go.Proofs.YtmhcmlegdoapdaaDoor
