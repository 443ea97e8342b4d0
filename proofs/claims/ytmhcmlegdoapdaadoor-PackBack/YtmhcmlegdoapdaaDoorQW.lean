/- Package pack: cells that are written one behind the other; a field of bytes is read. -/
import Derived.Test.YtmhcmlegdoapdaaDoorQV
namespace Go.Proofs.YtmhcmlegdoapdaaDoor
open Go.RowKit

/-- The world behind the writing of cells, one behind the other. -/
def putCells (w : World) (b : Nat) : Nat → List Value → World
  | _, [] => w
  | j, v :: vs => putCells (w.setCell ⟨b, j, none⟩ v) b (j + 1) vs
theorem IsB.setj {w : World} {b : Nat} {cs : Array Value} {t : TypeId} (h : IsB w b cs t) (j : Nat) (v : Value) : IsB (w.setCell ⟨b, j, none⟩ v) b (cs.setIfInBounds j v) t := by
  unfold IsB at *
  rw [Sort.setCell_eq]
  simp only [Sort.mapBlock, Array.getElem?_modify, if_true, h, Option.map_some, Sort.onCells]
theorem putCells_at {b : Nat} {t : TypeId} (vs : List Value) : ∀ (w : World) (j : Nat) (pre : List Value) (cs : List Value), IsB w b cs.toArray t → cs.length = j + vs.length → cs.take j = pre → pre.length = j → IsB (putCells w b j vs) b (pre ++ vs).toArray t := by
  induction vs with
  | nil =>
    intro w j pre cs h hl hp hpl
    have : cs = pre := by rw [← hp, List.take_of_length_le (by simp at hl; omega)]
    unfold putCells
    rw [List.append_nil, ← this]; exact h
  | cons v vs ih =>
    intro w j pre cs h hl hp hpl
    unfold putCells
    have h2 := h.setj j v
    rw [List.setIfInBounds_toArray] at h2
    have := ih _ (j + 1) (pre ++ [v]) (cs.set j v) h2 (by simp at hl ⊢; omega) (by
      rw [List.take_succ_eq_append_getElem (by simp at hl ⊢; omega), List.take_set_of_le (Nat.le_refl _), hp]
      simp) (by simp [hpl])
    rw [List.append_assoc] at this
    exact this
theorem putCells_is {w : World} {b : Nat} {t : TypeId} {cs : List Value} (h : IsB w b cs.toArray t) (vs : List Value) (hl : cs.length = vs.length) : IsB (putCells w b 0 vs) b vs.toArray t := by
  have := putCells_at vs w 0 [] cs h (by omega) rfl rfl
  exact this
theorem putCells_other {b c : Nat} {cs : Array Value} {t : TypeId} (hne : c ≠ b) (vs : List Value) : ∀ (w : World) (j : Nat), IsB w c cs t → IsB (putCells w b j vs) c cs t := by
  induction vs with
  | nil => intro w j h; exact h
  | cons v vs ih => intro w j h; exact ih _ (j + 1) (h.setOther (a := ⟨b, j, none⟩) hne v)
theorem putCells_size (b : Nat) (vs : List Value) : ∀ (w : World) (j : Nat), (putCells w b j vs).heap.size = w.heap.size := by
  induction vs with
  | nil => intro w j; rfl
  | cons v vs ih => intro w j; unfold putCells; rw [ih, size_setCell]
theorem grown_new {w w1 : World} {row : Option Nat} (h : w.grownBy w1 row) {a : Addr} (ha : w.heap.size ≤ a.block) (u : Value) : w.grownBy (w1.setCell a u) row :=
  ⟨h.os, h.tape, h.output, by rw [size_setCell]; exact h.size, fun k hk hne => (Below.heap_setCell w1 a u k (by omega)).trans (h.block k hk hne)⟩
theorem putCells_grown {w : World} {b : Nat} {row : Option Nat} (hb : w.heap.size ≤ b) (vs : List Value) : ∀ (w1 : World) (j : Nat), w.grownBy w1 row → w.grownBy (putCells w1 b j vs) row := by
  induction vs with
  | nil => intro w1 j h; exact h
  | cons v vs ih => intro w1 j h; exact ih _ (j + 1) (grown_new h (by exact hb) v)
theorem putCells_owns {b : Nat} {base : Nat} {e : TypeId} {sz : Nat} {g n c : Nat} {xs : List Value} (hne : g ≠ b) (vs : List Value) : ∀ (w : World) (j : Nat), w.ownsRow base e sz (.slice (some ⟨g, 0, none⟩) n c) n xs → (putCells w b j vs).ownsRow base e sz (.slice (some ⟨g, 0, none⟩) n c) n xs := by
  induction vs with
  | nil => intro w j h; exact h
  | cons v vs ih => intro w j h; exact ih _ (j + 1) (ownsRow_setCell_other h (by simp only [Value.ownBlock, ne_eq, Option.some.injEq]; exact hne) _)

theorem field_info : (Tryd.prog.info? 34).map (·.size) = some 14 := by kernel_rfl
theorem field_results (W : World) (g : Nat) (cs : Array Value) (h : IsB W g cs 34) (hs : cs.size = 14) (T : Array Value) (hp : T.getD 4 undef = .pointer (some ⟨g, 0, none⟩)) : (results Tryd.f56 T).run Tryd.prog W = .ok (.agg cs) W :=
  results_cell_row rfl T W g 34 cs (0, 0) _ hp h Tryd.underlying34 rfl (by rw [hs]; exact field_info)

set_option maxHeartbeats 4000000 in
set_option maxRecDepth 100000 in
theorem field_bytes (l : List Int) (hl : l.length ≤ 65536) (R b o len cap : Nat) (at' : Int) (h0 : 0 ≤ at') (h1 : at' ≤ 100000000) (fl : Value) (w : World) (hR : Rd w R (some ⟨b, o, none⟩) len cap at' fl) (hne : b ≠ R)
    (hlen : (nb l.length ++ l).length ≤ len) (hcap : len ≤ cap) (hcap2 : cap ≤ 1000000000) (hC : ∀ j (hj : j < (nb l.length ++ l).length), w.cell? ⟨b, o + j, none⟩ = some (.int .u8 (nb l.length ++ l)[j])) :
    Calls Tryd.prog 56 #[.pointer (some ⟨R, 0, none⟩), .int .i64 4] w fun e w' => ∃ g c, e = .returned (.agg #[.int .i64 4, .int .u64 0, .int .i64 0, .bool false, .slice (some ⟨g, 0, none⟩) l.length c, .int .i64 0, .int .u64 0, .int .i64 0, .int .u64 0, .int .i64 0, .int .i64 0, .int .u64 0, .int .i64 0, .int .u64 0]) ∧ w.heap.size ≤ g ∧ w'.ownsRow w.heap.size 5 1 (.slice (some ⟨g, 0, none⟩) l.length c) l.length (u8s l) ∧ 
      (∃ o', ((nb l.length ++ l).length < len → o' = o + (nb l.length ++ l).length) ∧ Rd w' R (some ⟨b, o', none⟩) (len - (nb l.length ++ l).length) (cap - (nb l.length ++ l).length) (at' + ((nb l.length ++ l).length : Int)) fl) ∧ w.grownBy w' (some R) := by
  have hRl := hR.lt
  have I0 := (IsB.new w #[.int .i64 0, .int .u64 0, .int .i64 0, .bool false, .slice none 0 0, .int .i64 0, .int .u64 0, .int .i64 0, .int .u64 0, .int .i64 0, .int .i64 0, .int .u64 0, .int .i64 0, .int .u64 0] 34).alloc (.cells #[.int .i64 4, .int .u64 0, .int .i64 0, .bool false, .slice none 0 0, .int .i64 0, .int .u64 0, .int .i64 0, .int .u64 0, .int .i64 0, .int .i64 0, .int .u64 0, .int .i64 0, .int .u64 0] 34)
  have I1 := IsB.new (w.alloc (.cells #[.int .i64 0, .int .u64 0, .int .i64 0, .bool false, .slice none 0 0, .int .i64 0, .int .u64 0, .int .i64 0, .int .u64 0, .int .i64 0, .int .i64 0, .int .u64 0, .int .i64 0, .int .u64 0] 34)) #[.int .i64 4, .int .u64 0, .int .i64 0, .bool false, .slice none 0 0, .int .i64 0, .int .u64 0, .int .i64 0, .int .u64 0, .int .i64 0, .int .i64 0, .int .u64 0, .int .i64 0, .int .u64 0] 34
  rw [World.size_alloc] at I1
  have HG := hide (show Gr w ((w.alloc (.cells #[.int .i64 0, .int .u64 0, .int .i64 0, .bool false, .slice none 0 0, .int .i64 0, .int .u64 0, .int .i64 0, .int .u64 0, .int .i64 0, .int .i64 0, .int .u64 0, .int .i64 0, .int .u64 0] 34)).alloc (.cells #[.int .i64 4, .int .u64 0, .int .i64 0, .bool false, .slice none 0 0, .int .i64 0, .int .u64 0, .int .i64 0, .int .u64 0, .int .i64 0, .int .i64 0, .int .u64 0, .int .i64 0, .int .u64 0] 34)) from ((Gr.refl w).alloc _).alloc _)
  have hrow := hide (row_ok l hl R b o len cap at' h0 h1 fl _ (IsB.gr hR HG.out) hne hlen hcap hcap2 (fun j hj => HG.out.cell (lt_of_cell (hC j hj)) (hC j hj)))
  have hl01 := I1.lt
  replace I0 := hide I0
  replace I1 := hide I1
  clear hR hC
  go_enter Tryd.func56, Tryd.ntmps56
  go_wp2_with fail
  generalize (w.alloc (.cells #[.int .i64 0, .int .u64 0, .int .i64 0, .bool false, .slice none 0 0, .int .i64 0, .int .u64 0, .int .i64 0, .int .u64 0, .int .i64 0, .int .i64 0, .int .u64 0, .int .i64 0, .int .u64 0] 34)).alloc (.cells #[.int .i64 4, .int .u64 0, .int .i64 0, .bool false, .slice none 0 0, .int .i64 0, .int .u64 0, .int .i64 0, .int .u64 0, .int .i64 0, .int .i64 0, .int .u64 0, .int .i64 0, .int .u64 0] 34) = W0 at I0 I1 HG hrow hl01 ⊢
  refine hrow.out.mono ?_
  rintro e w1 ⟨g, c, rfl, hgl, hown, ⟨o', hoo, hrd⟩, hgr⟩
  replace I0 := hide (I0.out.grown hgr (by intro h; simp only [Option.some.injEq] at h; omega))
  replace I1 := hide (I1.out.grown hgr (by intro h; simp only [Option.some.injEq] at h; omega))
  have HRD := hide hrd
  have HOO := hide hoo
  have HGR := hide (grown_trans (grown_of_gr HG.out _) hgr)
  have HO := hide hown
  have HGL := hide hgl
  have hlW := I0.out.lt
  have hlW0 : w.heap.size + 1 < W0.heap.size := hl01
  clear hrow hrd hgr hoo hown hgl
  have a0 : w1.cell? ⟨w.heap.size, 0, none⟩ = some (.int .i64 0) := I0.out.cell 0
  have a1 : w1.cell? ⟨w.heap.size, 1, none⟩ = some (.int .u64 0) := I0.out.cell 1
  have a2 : w1.cell? ⟨w.heap.size, 2, none⟩ = some (.int .i64 0) := I0.out.cell 2
  have a3 : w1.cell? ⟨w.heap.size, 3, none⟩ = some (.bool false) := I0.out.cell 3
  have a4 : w1.cell? ⟨w.heap.size, 4, none⟩ = some (.slice none 0 0) := I0.out.cell 4
  have a5 : w1.cell? ⟨w.heap.size, 5, none⟩ = some (.int .i64 0) := I0.out.cell 5
  have a6 : w1.cell? ⟨w.heap.size, 6, none⟩ = some (.int .u64 0) := I0.out.cell 6
  have a7 : w1.cell? ⟨w.heap.size, 7, none⟩ = some (.int .i64 0) := I0.out.cell 7
  have a8 : w1.cell? ⟨w.heap.size, 8, none⟩ = some (.int .u64 0) := I0.out.cell 8
  have a9 : w1.cell? ⟨w.heap.size, 9, none⟩ = some (.int .i64 0) := I0.out.cell 9
  have a10 : w1.cell? ⟨w.heap.size, 10, none⟩ = some (.int .i64 0) := I0.out.cell 10
  have a11 : w1.cell? ⟨w.heap.size, 11, none⟩ = some (.int .u64 0) := I0.out.cell 11
  have a12 : w1.cell? ⟨w.heap.size, 12, none⟩ = some (.int .i64 0) := I0.out.cell 12
  have a13 : w1.cell? ⟨w.heap.size, 13, none⟩ = some (.int .u64 0) := I0.out.cell 13
  have b0 : w1.cell? ⟨w.heap.size + 1, 0, none⟩ = some (.int .i64 4) := I1.out.cell 0
  have b1 : w1.cell? ⟨w.heap.size + 1, 1, none⟩ = some (.int .u64 0) := I1.out.cell 1
  have b2 : w1.cell? ⟨w.heap.size + 1, 2, none⟩ = some (.int .i64 0) := I1.out.cell 2
  have b3 : w1.cell? ⟨w.heap.size + 1, 3, none⟩ = some (.bool false) := I1.out.cell 3
  have b4 : w1.cell? ⟨w.heap.size + 1, 4, none⟩ = some (.slice none 0 0) := I1.out.cell 4
  have b5 : w1.cell? ⟨w.heap.size + 1, 5, none⟩ = some (.int .i64 0) := I1.out.cell 5
  have b6 : w1.cell? ⟨w.heap.size + 1, 6, none⟩ = some (.int .u64 0) := I1.out.cell 6
  have b7 : w1.cell? ⟨w.heap.size + 1, 7, none⟩ = some (.int .i64 0) := I1.out.cell 7
  have b8 : w1.cell? ⟨w.heap.size + 1, 8, none⟩ = some (.int .u64 0) := I1.out.cell 8
  have b9 : w1.cell? ⟨w.heap.size + 1, 9, none⟩ = some (.int .i64 0) := I1.out.cell 9
  have b10 : w1.cell? ⟨w.heap.size + 1, 10, none⟩ = some (.int .i64 0) := I1.out.cell 10
  have b11 : w1.cell? ⟨w.heap.size + 1, 11, none⟩ = some (.int .u64 0) := I1.out.cell 11
  have b12 : w1.cell? ⟨w.heap.size + 1, 12, none⟩ = some (.int .i64 0) := I1.out.cell 12
  have b13 : w1.cell? ⟨w.heap.size + 1, 13, none⟩ = some (.int .u64 0) := I1.out.cell 13
  have f0 := I0.out.free 0
  have f1 := I0.out.free 1
  have f2 := I0.out.free 2
  have f3 := I0.out.free 3
  have f4 := I0.out.free 4
  have f5 := I0.out.free 5
  have f6 := I0.out.free 6
  have f7 := I0.out.free 7
  have f8 := I0.out.free 8
  have f9 := I0.out.free 9
  have f10 := I0.out.free 10
  have f11 := I0.out.free 11
  have f12 := I0.out.free 12
  have f13 := I0.out.free 13
  have q4 := I1.out.free 4
  go_wp2
  have hW : (((((((((((((((w1.setCell ⟨w.heap.size + 1, 4, none⟩ (.slice (some ⟨g, 0, none⟩) l.length c)).setCell ⟨w.heap.size, 0, none⟩ (.int .i64 4)).setCell ⟨w.heap.size, 1, none⟩ (.int .u64 0)).setCell ⟨w.heap.size, 2, none⟩ (.int .i64 0)).setCell ⟨w.heap.size, 3, none⟩ (.bool false)).setCell ⟨w.heap.size, 4, none⟩ (.slice (some ⟨g, 0, none⟩) l.length c)).setCell ⟨w.heap.size, 5, none⟩ (.int .i64 0)).setCell ⟨w.heap.size, 6, none⟩ (.int .u64 0)).setCell ⟨w.heap.size, 7, none⟩ (.int .i64 0)).setCell ⟨w.heap.size, 8, none⟩ (.int .u64 0)).setCell ⟨w.heap.size, 9, none⟩ (.int .i64 0)).setCell ⟨w.heap.size, 10, none⟩ (.int .i64 0)).setCell ⟨w.heap.size, 11, none⟩ (.int .u64 0)).setCell ⟨w.heap.size, 12, none⟩ (.int .i64 0)).setCell ⟨w.heap.size, 13, none⟩ (.int .u64 0)) = putCells (w1.setCell ⟨w.heap.size + 1, 4, none⟩ (.slice (some ⟨g, 0, none⟩) l.length c)) w.heap.size 0 [.int .i64 4, .int .u64 0, .int .i64 0, .bool false, .slice (some ⟨g, 0, none⟩) l.length c, .int .i64 0, .int .u64 0, .int .i64 0, .int .u64 0, .int .i64 0, .int .i64 0, .int .u64 0, .int .i64 0, .int .u64 0] := rfl
  rw [hW]
  clear hW
  have hfin := putCells_is (cs := [.int .i64 0, .int .u64 0, .int .i64 0, .bool false, .slice none 0 0, .int .i64 0, .int .u64 0, .int .i64 0, .int .u64 0, .int .i64 0, .int .i64 0, .int .u64 0, .int .i64 0, .int .u64 0]) ((IsB.setOther (I0.out) (a := ⟨w.heap.size + 1, 4, none⟩) (by simp) (.slice (some ⟨g, 0, none⟩) l.length c))) [.int .i64 4, .int .u64 0, .int .i64 0, .bool false, .slice (some ⟨g, 0, none⟩) l.length c, .int .i64 0, .int .u64 0, .int .i64 0, .int .u64 0, .int .i64 0, .int .i64 0, .int .u64 0, .int .i64 0, .int .u64 0] rfl
  have hrd := putCells_other (b := w.heap.size) (show R ≠ w.heap.size by omega) [.int .i64 4, .int .u64 0, .int .i64 0, .bool false, .slice (some ⟨g, 0, none⟩) l.length c, .int .i64 0, .int .u64 0, .int .i64 0, .int .u64 0, .int .i64 0, .int .i64 0, .int .u64 0, .int .i64 0, .int .u64 0] _ 0 (IsB.setOther (HRD.out) (a := ⟨w.heap.size + 1, 4, none⟩) (by simp only []; omega) (.slice (some ⟨g, 0, none⟩) l.length c))
  have hgr := putCells_grown (b := w.heap.size) (Nat.le_refl _) [.int .i64 4, .int .u64 0, .int .i64 0, .bool false, .slice (some ⟨g, 0, none⟩) l.length c, .int .i64 0, .int .u64 0, .int .i64 0, .int .u64 0, .int .i64 0, .int .i64 0, .int .u64 0, .int .i64 0, .int .u64 0] _ 0 (grown_new (HGR.out) (a := ⟨w.heap.size + 1, 4, none⟩) (by simp) (.slice (some ⟨g, 0, none⟩) l.length c))
  have hgg : w.heap.size ≤ g := by have := HGL.out; have := HG.out.le; omega
  have ho := putCells_owns (b := w.heap.size) (by have := HGL.out; omega) [.int .i64 4, .int .u64 0, .int .i64 0, .bool false, .slice (some ⟨g, 0, none⟩) l.length c, .int .i64 0, .int .u64 0, .int .i64 0, .int .u64 0, .int .i64 0, .int .i64 0, .int .u64 0, .int .i64 0, .int .u64 0] _ 0 (owns_base HG.out.le (ownsRow_setCell_other (HO.out) (a := ⟨w.heap.size + 1, 4, none⟩) (by simp only [Value.ownBlock, ne_eq, Option.some.injEq]; have := HGL.out; omega) (.slice (some ⟨g, 0, none⟩) l.length c)))
  generalize putCells (w1.setCell ⟨w.heap.size + 1, 4, none⟩ (.slice (some ⟨g, 0, none⟩) l.length c)) w.heap.size 0 [.int .i64 4, .int .u64 0, .int .i64 0, .bool false, .slice (some ⟨g, 0, none⟩) l.length c, .int .i64 0, .int .u64 0, .int .i64 0, .int .u64 0, .int .i64 0, .int .i64 0, .int .u64 0, .int .i64 0, .int .u64 0] = W at hfin hrd hgr ho ⊢
  refine bodyPost_ret (field_results W _ _ hfin rfl _ rfl) rfl ?_
  exact ⟨g, c, rfl, hgg, ho, ⟨o', HOO.out, hrd⟩, hgr⟩

end Go.Proofs.YtmhcmlegdoapdaaDoor
