/- The walk of statement VecJoins: true at any vectors. -/
import Derived.Test.YtdjlmmgnknfkfaaY
namespace Go.Proofs.Ytdjlmmgnknfkfaa
open Go.RowKit

/-- The law behind its first test, at a slice of which both joins are known. -/
def Joins (sl : Value) (w0 : World) : Prop :=
  ∃ L B E : Int, (∀ w, Below w0.heap.size w0 w → Calls Try.prog 20 #[sl] w fun e w' => e = .returned (.tuple #[(.agg #[.int .i64 (L), .int .u64 (B)]), .int .i64 E]) ∧ Below w.heap.size w w') ∧ (∀ w, Below w0.heap.size w0 w → Calls Try.prog 21 #[sl] w fun e w' => e = .returned (.tuple #[(.agg #[.int .i64 (L), .int .u64 (B)]), .int .i64 E]) ∧ Below w.heap.size w w')

theorem joins_none (a : Option Addr) (cap : Nat) (w0 : World) : Joins (.slice a 0 cap) w0 :=
  ⟨_, _, _, fun w _ => vJoin_nil a cap w, fun w _ => rJoin_nil a cap w⟩
theorem joins_some (g o len cap : Nat) (l : List (Int × Int)) (w0 : World) (hl : l.length = len) (hlen : len ≤ 1000) (hg : g < w0.heap.size) (hrow : VRow w0 g o l) (hpos : ∀ v ∈ l, 0 ≤ v.2) : Joins (.slice (some ⟨g, o, none⟩) len cap) w0 := by
  have hr : ∀ w, Below w0.heap.size w0 w → VRow w g o l := by
    intro w hb j hj
    obtain ⟨h1, h2⟩ := hrow j hj
    exact ⟨(hb.cell (p := ⟨g, o + j * 2, none⟩) hg).trans h1, (hb.cell (p := ⟨g, o + j * 2 + 1, none⟩) hg).trans h2⟩
  exact ⟨_, _, _, fun w hb => vJoin_any g o len cap l w hl hlen (Nat.lt_of_lt_of_le hg hb.size) (hr w hb) hpos, fun w hb => rJoin_any g o len cap l w hl hlen (Nat.lt_of_lt_of_le hg hb.size) (hr w hb) hpos⟩

set_option maxHeartbeats 1000000 in
theorem vecJoins_short (a : Option Addr) (len cap : Nat) (hlen : len ≤ 12) (w : World) (hj : Joins (.slice a len cap) w) :
    Calls Try.prog 4 #[.slice a len cap] w fun e w' => e = .returned (.bool true) ∧ Below w.heap.size w w' := by
  obtain ⟨L, B, E, f1, f2⟩ := hj
  replace f1 := hide f1
  replace f2 := hide f2
  go_enter Try.func4, Try.ntmps4
  go_wp2_with fail
  refine (f1.out _ (Below.refl _ _)).mono ?_; rintro e w1 ⟨rfl, hb1⟩
  go_wp2_with fail
  refine (f2.out _ (hb1.alloc hb1.size _)).mono ?_; rintro e w2 ⟨rfl, hb2⟩
  have I1 := hide ((Is2.new w1 (.int .i64 L) (.int .u64 B)).below hb2)
  have HB := hide (bstep hb1 (bx hb2))
  obtain ⟨a0, a1, -, -⟩ := I1.out.c
  have z1 := I1.out.lt
  clear hb1 hb2
  go_wp2_with fail
  refine (alive_any _).mono ?_; rintro e w3 ⟨rfl, hb3⟩
  go_wp2
  go_ret
  exact ⟨rfl, bstep HB.out (bx hb3)⟩

set_option maxHeartbeats 1000000 in
theorem vecJoins_long (g o len cap : Nat) (hlen : 12 < len) (hcap : len ≤ cap) (hmax : cap ≤ maxLen) (w : World) (hj : Joins (.slice (some ⟨g, o, none⟩) 12 cap) w) :
    Calls Try.prog 4 #[.slice (some ⟨g, o, none⟩) len cap] w fun e w' => e = .returned (.bool true) ∧ Below w.heap.size w w' := by
  obtain ⟨L, B, E, f1, f2⟩ := hj
  replace f1 := hide f1
  replace f2 := hide f2
  unfold maxLen at hmax
  have i1 : (12 : Int) ≤ cap := by omega
  go_enter Try.func4, Try.ntmps4
  go_wp2_with fail
  refine (f1.out _ (Below.refl _ _)).mono ?_; rintro e w1 ⟨rfl, hb1⟩
  go_wp2_with fail
  refine (f2.out _ (hb1.alloc hb1.size _)).mono ?_; rintro e w2 ⟨rfl, hb2⟩
  have I1 := hide ((Is2.new w1 (.int .i64 L) (.int .u64 B)).below hb2)
  have HB := hide (bstep hb1 (bx hb2))
  obtain ⟨a0, a1, -, -⟩ := I1.out.c
  have z1 := I1.out.lt
  clear hb1 hb2
  go_wp2_with fail
  refine (alive_any _).mono ?_; rintro e w3 ⟨rfl, hb3⟩
  go_wp2
  go_ret
  exact ⟨rfl, bstep HB.out (bx hb3)⟩

end Go.Proofs.Ytdjlmmgnknfkfaa
