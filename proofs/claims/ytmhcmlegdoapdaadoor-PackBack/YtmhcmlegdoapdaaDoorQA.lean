/- Package pack, the base: blocks, an append in a region that draws its order; the smallest functions. -/
import Derived.Test.YtmhcmlegdoapdaaDoorD
import Derived.OwnWalk
import Derived.Laws.OwnMore
import Derived.Deep.RegionLaw
import Derived.Deep.AppendLies
import Derived.Lib.ItoaMem
namespace Go.Proofs.YtmhcmlegdoapdaaDoor
open Go.RowKit

/-- Block b holds just these cells, and may be written. -/
def IsB (w : World) (b : Nat) (cs : Array Value) (t : TypeId) : Prop := w.heap[b]? = some (.cells cs t (0, 0))
theorem IsB.lt {w : World} {b : Nat} {cs : Array Value} {t : TypeId} (h : IsB w b cs t) : b < w.heap.size := by
  rcases Nat.lt_or_ge b w.heap.size with hlt | hge
  · exact hlt
  · unfold IsB at h; rw [Array.getElem?_eq_none hge] at h; cases h
theorem IsB.new (w : World) (cs : Array Value) (t : TypeId) : IsB (w.alloc (.cells cs t)) w.heap.size cs t := heap_alloc_new w _
theorem IsB.gr {w w' : World} {b : Nat} {cs : Array Value} {t : TypeId} (h : IsB w b cs t) (hg : Gr w w') : IsB w' b cs t := (hg.heap h.lt).trans h
theorem IsB.setB {w w' : World} {b : Nat} {cs : Array Value} {t : TypeId} (h : IsB w b cs t) (hb : RowKit.Below w.heap.size w w') : IsB w' b cs t := (hb.block b h.lt).trans h
theorem IsB.alloc {w : World} {b : Nat} {cs : Array Value} {t : TypeId} (h : IsB w b cs t) (o : Obj) : IsB (w.alloc o) b cs t := h.gr ((Gr.refl w).alloc o)
theorem IsB.grown {w w' : World} {b : Nat} {cs : Array Value} {t : TypeId} {row : Option Nat} (h : IsB w b cs t) (hg : w.grownBy w' row) (hne : some b ≠ row) : IsB w' b cs t := (hg.block b h.lt hne).trans h
theorem IsB.cell {w : World} {b : Nat} {cs : Array Value} {t : TypeId} (h : IsB w b cs t) (j : Nat) : w.cell? ⟨b, j, none⟩ = cs[j]? := cell_of_row w b j _ _ _ h
theorem IsB.free {w : World} {b : Nat} {cs : Array Value} {t : TypeId} (h : IsB w b cs t) (j : Nat) : w.frozen? ⟨b, j, none⟩ = false := frozen_of_row w b j _ _ h
theorem IsB.setOther {w : World} {b : Nat} {cs : Array Value} {t : TypeId} (h : IsB w b cs t) {a : Addr} (ne : b ≠ a.block) (u : Value) : IsB (w.setCell a u) b cs t := (Below.heap_setCell w a u b ne).trans h

theorem grown_trans {a b c : World} {row : Option Nat} (h : a.grownBy b row) (k : b.grownBy c row) : a.grownBy c row :=
  ⟨k.os.trans h.os, k.tape.trans h.tape, k.output.trans h.output, Nat.le_trans h.size k.size, fun j hj hne => (k.block j (Nat.lt_of_lt_of_le hj h.size) hne).trans (h.block j hj hne)⟩
theorem grown_of_gr {a b : World} (h : Gr a b) (row : Option Nat) : a.grownBy b row :=
  ⟨h.below.os, h.below.tape, h.below.output, h.below.size, fun j hj _ => h.below.block j hj⟩
theorem grown_of_below {a b : World} (h : RowKit.Below a.heap.size a b) (row : Option Nat) : a.grownBy b row :=
  ⟨h.os, h.tape, h.output, h.size, fun j hj _ => h.block j hj⟩

/-- An append that fits, at a step of a region that draws its order. -/
theorem step_append_fits {P : Program} {ops : Array Oper} {o : Oper} {a : Act} {w : World} {K : Act → World → Prop} {Q : Exit → Act → World → Prop} {E : Prop}
    (hg : o.guard = none) (s x : Operand) (t : TypeId) (hop : o.op = Op.call { callee := Callee.builtin Builtin.append, args := #[s, x], argTypes := #[t, t] })
    (base : Nat) (e : TypeId) (i : TypeInfo) (size : Nat) (h1 : P.underlying t = some (.slice e)) (h2 : P.info? e = some i) (h4 : i.size = size)
    (g k cap : Nat) (xs : List Value) (hs : a.eval s = .slice (some ⟨g, 0, none⟩) k cap) (hown : w.ownsRow base e size (.slice (some ⟨g, 0, none⟩) k cap) k xs) (ad : Addr) (m c : Nat) (news : List Value) (hx : a.eval x = .slice (some ad) m c) (hn : news.length = m * size)
    (hc : ∀ j u, news[j]? = some u → w.cell? (ad.add j) = some u) (h1c : ∀ u ∈ news, u.oneCell' = true) (b1 : k + m ≤ cap)
    (hK : ∀ w', w'.ownsRow base e size (.slice (some ⟨g, 0, none⟩) (k + m) cap) (k + m) (xs ++ news) → w.grownBy w' (some g) → K (a.put o.dst (.slice (some ⟨g, 0, none⟩) (k + m) cap)) w') :
    if Region.wanted o (yielded ops a.tmps) = true then Oper.wp P o a w K Q else E := by
  have hw : Region.wanted o (yielded ops a.tmps) = true := by simp [Region.wanted, hg]
  rw [if_pos hw]
  obtain ⟨w', hrun, r1, r2⟩ := run_append_fits (P := P) w base t o.type e i size h1 h2 h4 g k cap xs hown ad m c news hn hc h1c b1
  unfold Oper.wp
  simp [execOp, hop, resolve, invoke, builtin, hs, hx, hrun, Result.andThen]
  exact hK w' r1 r2

theorem Tryd.infoU8 : (Tryd.prog.info? 5).map (fun i => (i.zero, i.size, i.bytes)) = some (some (.int .u8 0), 1, 1) := by kernel_rfl
/-- Bytes as cells. -/
def u8s (l : List Int) : List Value := l.map (Value.int .u8)
theorem u8s_app (a b : List Int) : u8s (a ++ b) = u8s a ++ u8s b := by unfold u8s; exact List.map_append

/-- May a vector be? -/
def rt (n b : Int) : Bool := decide (0 ≤ n ∧ n ≤ 32 ∧ b < 2 ^ n.toNat)
theorem right_y (n b : Int) (h : rt n b = true) (hb : 0 ≤ b) : (decide (n < 0) = false) ∧ (decide (32 < n) = false) ∧ (b / 2 ^ n.toNat != 0) = false := by
  have h := of_decide_eq_true h
  refine ⟨by simp; omega, by simp; omega, ?_⟩
  rw [Int.ediv_eq_zero_of_lt hb h.2.2]; rfl

set_option maxHeartbeats 400000 in
theorem vright_yes (n b : Int) (h : rt n b = true) (hb : 0 ≤ b) (w : World) :
    Calls Tryd.prog 52 #[(.agg #[.int .i64 (n), .int .u64 (b)])] w fun e w' => e = .returned (.int .i64 0) ∧ Gr w w' := by
  obtain ⟨g1, g2, g3⟩ := right_y n b h hb
  have g4 : 0 ≤ n := by simpa using g1
  have g5 : n ≤ 32 := by simpa using g2
  clear g1 g2 h
  go_enter Tryd.func52, Tryd.ntmps52
  go_wp2
  go_ret
  exact ⟨rfl, (Gr.refl w).alloc _⟩

set_option maxHeartbeats 400000 in
theorem isKind_yes (k : Int) (h0 : 1 ≤ k) (h1 : k ≤ 7) (w : World) : Calls Tryd.prog 29 #[.int .i64 k] w fun e w' => e = .returned (.bool true) ∧ w' = w := by
  go_enter Tryd.func29, Tryd.ntmps29
  go_wp2
  go_ret
  exact ⟨by simp, rfl⟩

set_option maxHeartbeats 400000 in
theorem rankBytes_any (r : Int) (w : World) : Calls Tryd.prog 50 #[.int .i64 r] w fun e w' => e = .returned (.int .i64 (if r = 2 then 8 else 0)) ∧ w' = w := by
  by_cases h : r = 2
  · subst h
    go_enter Tryd.func50, Tryd.ntmps50
    go_wp2
    go_ret
    exact ⟨rfl, rfl⟩
  · have h' : (r == 2) = false := by simp [h]
    rw [if_neg h]
    go_enter Tryd.func50, Tryd.ntmps50
    go_wp2
    go_ret
    exact ⟨rfl, rfl⟩

set_option maxHeartbeats 400000 in
theorem bitBytes_any (n : Nat) (h : n ≤ 64) (w : World) : Calls Tryd.prog 49 #[.int .i64 (n : Int)] w fun e w' => e = .returned (.int .i64 (((n + 7) / 8 : Nat) : Int)) ∧ w' = w := by
  go_enter Tryd.func49, Tryd.ntmps49
  go_wp2
  go_ret
  exact ⟨by simp, rfl⟩

end Go.Proofs.YtmhcmlegdoapdaaDoor
