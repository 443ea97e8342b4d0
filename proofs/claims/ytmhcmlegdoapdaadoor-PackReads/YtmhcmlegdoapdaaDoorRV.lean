/- The document's reader: the next byte, a byte, a number, an int, of any bytes. -/
import Derived.Test.YtmhcmlegdoapdaaDoorRU
namespace Go.Proofs.YtmhcmlegdoapdaaDoor
open Go.RowKit

/-- The document's reader lies in block Q: its bytes, how many were taken, its fault. -/
def DR (w : World) (Q sb : Nat) (L : List Int) (p : Nat) (e : Int) : Prop :=
  ∃ a cap, IsB w Q #[.slice a L.length cap, .int .i64 (p : Int), .int .i64 e] 73 ∧ p ≤ L.length ∧ L.length ≤ 1000000000 ∧ L.length ≤ cap ∧ cap ≤ 9223372036854775807 ∧ (∀ c ∈ L, 0 ≤ c ∧ c < 256) ∧ (∀ x, a = some x → x.block = sb) ∧ Src w Q a cap L
theorem DR.lt {w : World} {Q sb : Nat} {L : List Int} {p : Nat} {e : Int} (h : DR w Q sb L p e) : Q < w.heap.size := by
  obtain ⟨a, cap, h, _⟩ := h; exact h.lt
theorem DR.bd {w : World} {Q sb : Nat} {L : List Int} {p : Nat} {e : Int} (h : DR w Q sb L p e) : ∀ c ∈ L, 0 ≤ c ∧ c < 256 := by
  obtain ⟨_, _, _, _, _, _, _, h, _⟩ := h; exact h
theorem DR.le {w : World} {Q sb : Nat} {L : List Int} {p : Nat} {e : Int} (h : DR w Q sb L p e) : p ≤ L.length ∧ L.length ≤ 1000000000 := by
  obtain ⟨_, _, _, h1, h2, _⟩ := h; exact ⟨h1, h2⟩
theorem DR.drew {w : World} {Q sb : Nat} {L : List Int} {p : Nat} {e : Int} (h : DR w Q sb L p e) : DR w.drew Q sb L p e := h
theorem DR.setE {w : World} {Q sb : Nat} {L : List Int} {p : Nat} {e : Int} (h : DR w Q sb L p e) (e' : Int) : DR (w.setCell ⟨Q, 2, none⟩ (.int .i64 e')) Q sb L p e' := by
  obtain ⟨a, cap, h1, h2, h3, h4, h5, h6, h7, h8⟩ := h
  exact ⟨a, cap, IsB.set2 h1 _, h2, h3, h4, h5, h6, h7, h8.kept (grown_set w Q 2 _)⟩
theorem IsB.set1of3 {w : World} {b : Nat} {x y z : Value} {t : TypeId} (h : IsB w b #[x, y, z] t) (v : Value) : IsB (w.setCell ⟨b, 1, none⟩ v) b #[x, v, z] t := by
  unfold IsB at *
  rw [Sort.setCell_eq]
  simp only [Sort.mapBlock, Array.getElem?_modify, if_true, h, Option.map_some, Sort.onCells]
  rfl
theorem DR.step {w : World} {Q sb : Nat} {L : List Int} {p : Nat} {e : Int} (h : DR w Q sb L p e) (hp : p < L.length) : DR (w.setCell ⟨Q, 1, none⟩ (.int .i64 ((p + 1 : Nat) : Int))) Q sb L (p + 1) e := by
  obtain ⟨a, cap, h1, h2, h3, h4, h5, h6, h7, h8⟩ := h
  exact ⟨a, cap, IsB.set1of3 h1 _, hp, h3, h4, h5, h6, h7, h8.kept (grown_set w Q 1 _)⟩

set_option maxHeartbeats 1000000 in
set_option maxRecDepth 100000 in
theorem rnext_bad (Q sb : Nat) (L : List Int) (p : Nat) (e : Int) (he : e ≠ 0) (w : World) (h : DR w Q sb L p e) :
    Calls Tryd.prog 72 #[.pointer (some ⟨Q, 0, none⟩)] w fun r w' => r = .returned (.tuple #[.int .u8 0, .bool false]) ∧ w' = w := by
  obtain ⟨a, cap, h1, _⟩ := h
  have a2 : w.cell? ⟨Q, 2, none⟩ = some (.int .i64 e) := h1.cell 2
  have he' : (e != 0) = true := by simp [he]
  clear h1
  go_enter Tryd.func72, Tryd.ntmps72
  go_wp2
  go_ret2
  exact ⟨rfl, rfl⟩

set_option maxHeartbeats 1000000 in
set_option maxRecDepth 100000 in
theorem rnext_end (Q sb : Nat) (L : List Int) (w : World) (h : DR w Q sb L L.length 0) :
    Calls Tryd.prog 72 #[.pointer (some ⟨Q, 0, none⟩)] w fun r w' => r = .returned (.tuple #[.int .u8 0, .bool false]) ∧ DR w' Q sb L L.length 32 ∧ w.grownBy w' (some Q) := by
  have HD := hide h
  obtain ⟨a, cap, h1, h2, h3, _⟩ := h
  have a0 : w.cell? ⟨Q, 0, none⟩ = some (.slice a L.length cap) := h1.cell 0
  have a1 : w.cell? ⟨Q, 1, none⟩ = some (.int .i64 (L.length : Int)) := h1.cell 1
  have a2 : w.cell? ⟨Q, 2, none⟩ = some (.int .i64 0) := h1.cell 2
  have f2 := h1.free 2
  clear h1
  go_enter Tryd.func72, Tryd.ntmps72
  go_wp2
  go_region
  go_wp2
  go_ret2
  exact ⟨rfl, HD.out.drew.setE 32, grown_trans (grown_of_gr ((Gr.refl w).drew) _) (grown_set _ _ _ _)⟩

set_option maxHeartbeats 1000000 in
set_option maxRecDepth 100000 in
theorem rnext_ok (Q sb : Nat) (L : List Int) (p : Nat) (hp : p < L.length) (w : World) (h : DR w Q sb L p 0) :
    Calls Tryd.prog 72 #[.pointer (some ⟨Q, 0, none⟩)] w fun r w' => r = .returned (.tuple #[.int .u8 L[p], .bool true]) ∧ DR w' Q sb L p 0 ∧ w.grownBy w' (some Q) := by
  have HD := hide h
  obtain ⟨a, cap, h1, h2, h3, h4, h5, h6, h7, h8⟩ := h
  rcases h8 with ⟨_, h8, _⟩ | ⟨b, o, rfl, g2, g3, g4⟩
  · rw [h8] at hp; simp at hp
  have hc := g4 p hp
  have a0 : w.cell? ⟨Q, 0, none⟩ = some (.slice (some ⟨b, o, none⟩) L.length cap) := h1.cell 0
  have a1 : w.cell? ⟨Q, 1, none⟩ = some (.int .i64 (p : Int)) := h1.cell 1
  have a2 : w.cell? ⟨Q, 2, none⟩ = some (.int .i64 0) := h1.cell 2
  generalize L[p] = c at hc ⊢
  clear h1 g4 h6 h7
  go_enter Tryd.func72, Tryd.ntmps72
  go_wp2
  go_region
  go_wp2
  go_region
  go_wp2
  go_ret2
  exact ⟨rfl, HD.out, grown_of_gr (((Gr.refl w).drew).drew) _⟩

end Go.Proofs.YtmhcmlegdoapdaaDoor
