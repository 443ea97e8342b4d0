/- Package key, the base: worlds that only grow; the order of keys, by the program's own calls. -/
import Derived.Test.YtmhcmlegdoapdaaDoorRows
import Derived.WalkKit
import Derived.WalkSpells
import Derived.WalkLawsBesides
import Derived.BigQuiet
import Derived.Deep.QuietTactic
import Derived.Deep.RegionHeld3
import Derived.Deep.DrawnRows
import Derived.Shelf.SlSortCmp.QuietGrown
import Derived.Shelf.GgSortFunc.RowK
import Derived.Below
namespace Go.Proofs.YtmhcmlegdoapdaaDoor
open Go.RowKit

theorem hide {p : Prop} (h : p) : Hid p := h

/-- w' is w, some draws on, new blocks behind it. -/
def Gr (w w' : World) : Prop := ∃ q os, w' = Sort.grow (w.drewN q) os
theorem Gr.refl (w : World) : Gr w w := ⟨0, #[], by simp [World.drewN]⟩
theorem Gr.trans {a b c : World} (h : Gr a b) (k : Gr b c) : Gr a c := by
  obtain ⟨q, os, rfl⟩ := h
  obtain ⟨q', os', rfl⟩ := k
  exact ⟨q + q', os ++ os', by show Sort.grow (Sort.grow ((a.drewN q).drewN q') os) os' = _; rw [Sort.grow_grow, World.drewN_drewN]⟩
theorem Gr.alloc {a b : World} (h : Gr a b) (o : Obj) : Gr a (b.alloc o) := h.trans ⟨0, #[o], by rw [Sort.alloc_eq_grow]; rfl⟩
theorem Gr.drew {a b : World} (h : Gr a b) : Gr a b.drew := h.trans ⟨1, #[], by rw [Sort.grow_empty]; rfl⟩
theorem Gr.drewN {a b : World} (h : Gr a b) (n : Nat) : Gr a (b.drewN n) := h.trans ⟨n, #[], by simp⟩
theorem Gr.grow {a b : World} (h : Gr a b) (os : Array Obj) : Gr a (Sort.grow b os) := h.trans ⟨0, os, by simp [World.drewN]⟩
theorem Gr.le {a b : World} (h : Gr a b) : a.heap.size ≤ b.heap.size := by
  obtain ⟨q, os, rfl⟩ := h
  rw [Sort.size_grow]; exact Nat.le_add_right _ _
theorem Gr.heap {a b : World} (h : Gr a b) {k : Nat} (hk : k < a.heap.size) : b.heap[k]? = a.heap[k]? := by
  obtain ⟨q, os, rfl⟩ := h
  rw [Sort.heap_grow_old _ _ (by exact hk)]; rfl
theorem Gr.set {a b : World} (h : Gr a b) (k o : Nat) (v : Value) (hk : a.heap.size ≤ k) : Gr a (b.setCell ⟨k, o, none⟩ v) := by
  obtain ⟨q, os, rfl⟩ := h
  exact ⟨q, _, by rw [Sort.setCell_eq, Sort.mapBlock_grow_new _ _ _ _ (by exact hk)]⟩
theorem Gr.below {a b : World} (h : Gr a b) : Below a.heap.size a b := by
  obtain ⟨q, os, rfl⟩ := h
  exact ⟨rfl, rfl, rfl, by rw [Sort.size_grow]; exact Nat.le_add_right _ _, fun k hk => Sort.heap_grow_old _ _ (by exact hk)⟩
theorem Gr.cell {a b : World} (h : Gr a b) {x : Addr} {v : Value} (hx : x.block < a.heap.size) (hc : a.cell? x = some v) : b.cell? x = some v := by
  obtain ⟨q, os, rfl⟩ := h
  rw [Sort.cell?_grow _ _ _ (by exact hx)]; exact hc

/-- Block b holds just the two values of a key. -/
def Is2 (w : World) (b : Nat) (x y : Value) : Prop := w.heap[b]? = some (.cells #[x, y] 30 (0, 0))
theorem Is2.lt {w : World} {b : Nat} {x y : Value} (h : Is2 w b x y) : b < w.heap.size := by
  rcases Nat.lt_or_ge b w.heap.size with hlt | hge
  · exact hlt
  · unfold Is2 at h; rw [Array.getElem?_eq_none hge] at h; cases h
theorem heap_alloc_new (w : World) (o : Obj) : (w.alloc o).heap[w.heap.size]? = some o := by
  rw [Sort.alloc_eq_grow]; unfold Sort.grow; rw [Array.getElem?_append_right (Nat.le_refl _)]; simp
theorem cell_of_row (w : World) (b o : Nat) (cs : Array Value) (t : TypeId) (f : Nat × Nat) (h : w.heap[b]? = some (.cells cs t f)) : w.cell? ⟨b, o, none⟩ = cs[o]? := by
  simp [World.cell?, h]
theorem frozen_of_row (w : World) (b o : Nat) (cs : Array Value) (t : TypeId) (h : w.heap[b]? = some (.cells cs t (0, 0))) : w.frozen? ⟨b, o, none⟩ = false := by
  simp [World.frozen?, h]
theorem Is2.c {w : World} {b : Nat} {x y : Value} (h : Is2 w b x y) : w.cell? ⟨b, 0, none⟩ = some x ∧ w.cell? ⟨b, 1, none⟩ = some y ∧ w.frozen? ⟨b, 0, none⟩ = false ∧ w.frozen? ⟨b, 1, none⟩ = false :=
  ⟨by rw [cell_of_row w b 0 _ _ _ h]; rfl, by rw [cell_of_row w b 1 _ _ _ h]; rfl, frozen_of_row w b 0 _ _ h, frozen_of_row w b 1 _ _ h⟩
theorem Is2.new (w : World) (x y : Value) : Is2 (w.alloc (.cells #[x, y] 30)) w.heap.size x y := heap_alloc_new w _
theorem Is2.gr {w w' : World} {b : Nat} {x y : Value} (h : Is2 w b x y) (hg : Gr w w') : Is2 w' b x y := (hg.heap h.lt).trans h
theorem Is2.alloc {w : World} {b : Nat} {x y : Value} (h : Is2 w b x y) (o : Obj) : Is2 (w.alloc o) b x y := h.gr ((Gr.refl w).alloc o)

/-- Which of two numbers is ahead: -1, 0, 1. -/
def cmpI (a b : Int) : Int := if a < b then -1 else if b < a then 1 else 0
theorem cmpI_lt {a b : Int} (h : a < b) : cmpI a b = -1 := by unfold cmpI; rw [if_pos h]
theorem cmpI_gt {a b : Int} (h : b < a) : cmpI a b = 1 := by unfold cmpI; rw [if_neg (by omega), if_pos h]
theorem cmpI_eq {a b : Int} (h : a = b) : cmpI a b = 0 := by unfold cmpI; rw [if_neg (by omega), if_neg (by omega)]
theorem cmpI_cases (a b : Int) : cmpI a b = -1 ∧ a < b ∨ cmpI a b = 1 ∧ b < a ∨ cmpI a b = 0 ∧ a = b := by
  rcases Int.lt_trichotomy a b with h | h | h
  · exact Or.inl ⟨cmpI_lt h, h⟩
  · exact Or.inr (Or.inr ⟨cmpI_eq h, h⟩)
  · exact Or.inr (Or.inl ⟨cmpI_gt h, h⟩)
/-- The first that is not 0. -/
def orI (x y : Int) : Int := if x = 0 then y else x
theorem orI_nz {x : Int} (y : Int) (h : ¬ x = 0) : orI x y = x := by unfold orI; rw [if_neg h]
theorem orI_z {x : Int} (y : Int) (h : x = 0) : orI x y = y := by unfold orI; rw [if_pos h]
/-- Which of two keys is ahead: by rank, then by number. -/
def kcmp (a b : Int × Int) : Int := orI (cmpI a.1 b.1) (cmpI a.2 b.2)
def klt (a b : Int × Int) : Bool := decide (kcmp a b < 0)







end Go.Proofs.YtmhcmlegdoapdaaDoor
