/- Package net, the base: blocks, what a call keeps; the smallest functions. -/
import Derived.Test.YtoinjmddmahpkaaRows
import Derived.WalkKit
import Derived.WalkSpells
import Derived.WalkLawsBesides
import Derived.BigQuiet
import Derived.Deep.QuietTactic
import Derived.Deep.RegionHeld3
import Derived.Deep.DrawnRows
import Derived.OwnWalk
import Derived.Laws.OwnMore
import Derived.Deep.AppendLies
import Derived.Maps.OwnSet
import Derived.Maps.OwnOps
import Derived.Maps.Views
import Derived.Below
namespace Go.Proofs.Ytoinjmddmahpkaa
open Go.RowKit

theorem hide {p : Prop} (h : p) : Hid p := h
theorem cell_of_row (w : World) (b o : Nat) (cs : Array Value) (t : TypeId) (f : Nat × Nat) (h : w.heap[b]? = some (.cells cs t f)) : w.cell? ⟨b, o, none⟩ = cs[o]? := by
  simp [World.cell?, h]
theorem frozen_of_row (w : World) (b o : Nat) (cs : Array Value) (t : TypeId) (h : w.heap[b]? = some (.cells cs t (0, 0))) : w.frozen? ⟨b, o, none⟩ = false := by
  simp [World.frozen?, h]
theorem lt_of_cell {w : World} {a : Addr} {v : Value} (h : w.cell? a = some v) : a.block < w.heap.size := World.block_lt_of_cell? w a h
theorem heap_new (w : World) (o : Obj) : (w.alloc o).heap[w.heap.size]? = some o := by
  show (w.heap.push o)[w.heap.size]? = _
  rw [Array.getElem?_push, if_pos rfl]
theorem lt_of_heap {w : World} {k : Nat} {o : Obj} (h : w.heap[k]? = some o) : k < w.heap.size := (Array.getElem?_eq_some_iff.1 h).1

/-- Block b holds just these cells, and may be written. -/
def IsB (w : World) (b : Nat) (cs : Array Value) (t : TypeId) : Prop := w.heap[b]? = some (.cells cs t (0, 0))
theorem IsB.lt {w : World} {b : Nat} {cs : Array Value} {t : TypeId} (h : IsB w b cs t) : b < w.heap.size := lt_of_heap h
theorem IsB.new (w : World) (cs : Array Value) (t : TypeId) : IsB (w.alloc (.cells cs t)) w.heap.size cs t := heap_new w _
theorem IsB.cell {w : World} {b : Nat} {cs : Array Value} {t : TypeId} (h : IsB w b cs t) (j : Nat) : w.cell? ⟨b, j, none⟩ = cs[j]? := cell_of_row w b j _ _ _ h
theorem IsB.free {w : World} {b : Nat} {cs : Array Value} {t : TypeId} (h : IsB w b cs t) (j : Nat) : w.frozen? ⟨b, j, none⟩ = false := frozen_of_row w b j _ _ h
theorem IsB.setOther {w : World} {b : Nat} {cs : Array Value} {t : TypeId} (h : IsB w b cs t) {a : Addr} (ne : b ≠ a.block) (u : Value) : IsB (w.setCell a u) b cs t := (Below.heap_setCell w a u b ne).trans h
theorem IsB.set {w : World} {b : Nat} {cs : Array Value} {t : TypeId} (h : IsB w b cs t) (j : Nat) (u : Value) : IsB (w.setCell ⟨b, j, none⟩ u) b (cs.setIfInBounds j u) t := heap_setCell_same w b j _ _ u h
theorem IsB.below {w w' : World} {b : Nat} {cs : Array Value} {t : TypeId} (h : IsB w b cs t) (hb : Below w.heap.size w w') : IsB w' b cs t := (hb.block b h.lt).trans h

/-- Of the blocks that were there only those of S may have turned. -/
structure Kp (S : List Nat) (w w' : World) : Prop where
  os : w'.os = w.os
  tape : w'.tape = w.tape
  output : w'.output = w.output
  size : w.heap.size ≤ w'.heap.size
  block : ∀ k, k < w.heap.size → k ∉ S → w'.heap[k]? = w.heap[k]?
theorem Kp.refl (S : List Nat) (w : World) : Kp S w w := ⟨rfl, rfl, rfl, Nat.le_refl _, fun _ _ _ => rfl⟩
theorem Kp.trans {S T : List Nat} {a b c : World} (h : Kp S a b) (k : Kp T b c) (hT : ∀ j ∈ T, j ∈ S ∨ a.heap.size ≤ j) : Kp S a c :=
  ⟨k.os.trans h.os, k.tape.trans h.tape, k.output.trans h.output, Nat.le_trans h.size k.size, fun j hj hn =>
    (k.block j (Nat.lt_of_lt_of_le hj h.size) (fun hm => by rcases hT j hm with h1 | h1; exact hn h1; omega)).trans (h.block j hj hn)⟩
theorem Kp.of_below {S : List Nat} {a b : World} (h : Below a.heap.size a b) : Kp S a b := ⟨h.os, h.tape, h.output, h.size, fun k hk _ => h.block k hk⟩
theorem Kp.of_grown {S : List Nat} {a b : World} {row : Option Nat} (h : a.grownBy b row) (hr : ∀ k, row = some k → k ∈ S ∨ a.heap.size ≤ k) : Kp S a b :=
  ⟨h.os, h.tape, h.output, h.size, fun k hk hn => h.block k hk (fun e => by rcases hr k e.symm with h1 | h1; exact hn h1; omega)⟩
theorem Kp.bel {S : List Nat} {a b c : World} (h : Kp S a b) (k : Below b.heap.size b c) : Kp S a c := h.trans (Kp.of_below (S := []) k) (by simp)
theorem Kp.alloc {S : List Nat} {a b : World} (h : Kp S a b) (o : Obj) : Kp S a (b.alloc o) := h.bel ((Below.refl _ _).alloc (Nat.le_refl _) o)
theorem Kp.drew {S : List Nat} {a b : World} (h : Kp S a b) : Kp S a b.drew := h.bel ((Below.refl _ _).drew)
theorem Kp.set {S : List Nat} {a b : World} (h : Kp S a b) (p : Addr) (u : Value) (hp : p.block ∈ S ∨ a.heap.size ≤ p.block) : Kp S a (b.setCell p u) :=
  ⟨h.os, h.tape, h.output, by simpa [World.setCell] using h.size, fun k hk hn => (Below.heap_setCell _ _ _ _ (fun e => by subst e; rcases hp with h1 | h1; exact hn h1; omega)).trans (h.block k hk hn)⟩
theorem Kp.grown {S : List Nat} {a b c : World} {row : Option Nat} (h : Kp S a b) (g : b.grownBy c row) (hr : ∀ k, row = some k → k ∈ S ∨ a.heap.size ≤ k) : Kp S a c :=
  h.trans (T := row.toList) (Kp.of_grown g (fun k hk => Or.inl (by simp [hk]))) (fun j hj => hr j (by simpa using hj))
theorem Kp.to_below {S : List Nat} {B : Nat} {a b : World} (h : Kp S a b) (hB : B ≤ a.heap.size) (hS : ∀ k ∈ S, B ≤ k) : Below B a b :=
  ⟨h.os, h.tape, h.output, h.size, fun k hk => h.block k (by omega) (fun hm => by have := hS k hm; omega)⟩
theorem Kp.mono {S T : List Nat} {a b : World} (h : Kp S a b) (hT : ∀ j ∈ S, j ∈ T ∨ a.heap.size ≤ j) : Kp T a b := (Kp.refl T a).trans h hT
theorem IsB.kp {w w' : World} {S : List Nat} {b : Nat} {cs : Array Value} {t : TypeId} (h : IsB w b cs t) (hk : Kp S w w') (hn : b ∉ S) : IsB w' b cs t := (hk.block b h.lt hn).trans h

/-- Which pointers are no network: nil, and one to a network that nobody made. -/
def NoNet (w : World) (p : Value) : Prop := p = .pointer none ∨ ∃ b, p = .pointer (some ⟨b, 0, none⟩) ∧ IsB w b #[.slice none 0 0, .map none] 58
theorem NoNet.below {w w' : World} {p : Value} (h : NoNet w p) (hb : Below w.heap.size w w') : NoNet w' p := by
  rcases h with h | ⟨b, h, hi⟩
  · exact Or.inl h
  · exact Or.inr ⟨b, h, hi.below hb⟩

theorem map_nil_nil (w : World) : (binOp .neq 56 (.map none) (.map none)).run Try.prog w = .ok (.bool false) w := by kernel_rfl
theorem map_some_nil (m : Nat) (w : World) : (binOp .neq 56 (.map (some m)) (.map none)).run Try.prog w = .ok (.bool true) w := by kernel_rfl
theorem ptr_nil_nil (w : World) : (binOp .neq 23 (.pointer none) (.pointer none)).run Try.prog w = .ok (.bool false) w := by kernel_rfl
theorem ptr_some_nil (a : Addr) (w : World) : (binOp .neq 23 (.pointer (some a)) (.pointer none)).run Try.prog w = .ok (.bool true) w := by kernel_rfl

set_option maxHeartbeats 800000 in
theorem made_no (p : Value) (w : World) (h : NoNet w p) : Calls Try.prog 34 #[p] w fun e w' => e = .returned (.bool false) ∧ w' = w := by
  rcases h with rfl | ⟨b, rfl, hb⟩
  · go_enter Try.func34, Try.ntmps34
    go_wp2
    go_ret
    exact ⟨rfl, rfl⟩
  · have h1 := hb.cell 1
    simp at h1
    have hm := map_nil_nil
    go_enter Try.func34, Try.ntmps34
    go_wp2
    go_ret
    exact ⟨rfl, rfl⟩

set_option maxHeartbeats 800000 in
theorem made_yes (b m : Nat) (v : Value) (w : World) (hb : IsB w b #[v, .map (some m)] 58) : Calls Try.prog 34 #[.pointer (some ⟨b, 0, none⟩)] w fun e w' => e = .returned (.bool true) ∧ w' = w := by
  have h1 := hb.cell 1
  simp at h1
  have hm := map_some_nil
  go_enter Try.func34, Try.ntmps34
  go_wp2
  go_ret
  exact ⟨rfl, rfl⟩

/-- May an address be? -/
def okA (n : Int) : Bool := decide (0 ≤ n ∧ n < 1024)
set_option maxHeartbeats 800000 in
theorem check_any (g : Bool) (n : Int) (w : World) : Calls Try.prog 12 #[.agg #[.bool g, .int .i64 n]] w fun e w' => e = .returned (.int .i64 (if okA n then 0 else 50)) ∧ Below w.heap.size w w' := by
  have fin : Below w.heap.size w (w.alloc (.cells #[.bool g, .int .i64 n] 32)) := (Below.refl _ _).alloc (Nat.le_refl _) _
  by_cases h0 : n < 0
  · have e : okA n = false := by unfold okA; simp; omega
    rw [e]; clear e
    go_enter Try.func12, Try.ntmps12
    go_wp2
    go_ret
    exact ⟨rfl, fin⟩
  · by_cases h1 : 1024 ≤ n
    · have e : okA n = false := by unfold okA; simp; omega
      rw [e]; clear e
      go_enter Try.func12, Try.ntmps12
      go_wp2
      go_ret
      exact ⟨rfl, fin⟩
    · have e : okA n = true := by unfold okA; simp; omega
      rw [e]; clear e
      go_enter Try.func12, Try.ntmps12
      go_wp2
      go_ret
      exact ⟨rfl, fin⟩

end Go.Proofs.Ytoinjmddmahpkaa
