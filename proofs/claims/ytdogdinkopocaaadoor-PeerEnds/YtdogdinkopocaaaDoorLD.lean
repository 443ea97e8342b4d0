/- Package lock: lose. -/
import Derived.Test.YtdogdinkopocaaaDoorLC
namespace Go.Proofs.YtdogdinkopocaaaDoor
open Go.RowKit Go.Maps

set_option maxHeartbeats 4000000 in
set_option maxRecDepth 100000 in
theorem lose_any (b : Nat) (v : Value) (os : List Ow) (w : World) (h : LS w b v os) (i : Nat) (hi : i < os.length) :
    Calls Tryd.prog 83 #[.pointer (some ⟨b, 0, none⟩), .int .i64 (i : Int)] w fun e w' => e = .returned (.tuple #[]) ∧ ∃ v', Lx w w' b v v' (os.eraseIdx i) := by
  have hb0 := h.blk.cell 0
  simp at hb0
  have hlen := h.len
  obtain ⟨g, cap, rfl, hcap, hmax, -⟩ := h.row.form (by omega)
  have hT := hide (h.tail (i + 1) (by omega))
  have HE : Hid (os.eraseIdx i = os.take i ++ os.drop (i + 1)) := List.eraseIdx_eq_take_drop_succ os i
  obtain ⟨q, hq⟩ : ∃ q : Nat, q = i + 1 := ⟨_, rfl⟩
  rw [← hq] at hT HE
  have hqn : q ≤ os.length := by omega
  have hwr : IntKind.i64.wrap ((i : Int) + 1) = (q : Int) := by
    rw [IntKind.wrap_i64]; omega
  have hc : Hid (∀ x, Sl w x (os.drop q) → Calls Tryd.prog 79 #[.pointer (some ⟨b, 0, none⟩), .int .i64 (i : Int), x] w fun e w' => e = .returned (.tuple #[]) ∧ ∃ v', Lx w w' b (.slice (some ⟨g, 0, none⟩) os.length cap) v' (os.take i ++ os.drop q)) :=
    fun x hs => lay_any b _ os w h i (by omega) _ _ hs (by rw [List.length_drop]; omega)
  replace h := hide h
  replace hq := hide hq
  generalize hn : os.length = n at *
  replace hn := hide hn
  clear hmax
  have hT1 : Hid (cap = q → Sl w (.slice (some ⟨g, 0, none⟩) (n - q) 0) (os.drop q)) := fun e => by have := hT.out; rw [if_pos e, e, Nat.sub_self] at this; exact this
  have hT2 : Hid (¬cap = q → Sl w (.slice (some ⟨g, q * 2, none⟩) (n - q) (cap - q)) (os.drop q)) := fun e => by have := hT.out; rw [if_neg e] at this; exact this
  clear hT
  go_enter Tryd.func83, Tryd.ntmps83
  go_wp2_with fail
  case inl =>
    refine (hc.out _ (hT1.out h)).mono ?_
    rintro e w1 ⟨rfl, v', hL⟩
    replace hL := hide hL
    go_wp2
    refine bodyPost_end (results_none rfl _ _ _) rfl ?_
    exact ⟨rfl, v', by rw [HE.out]; exact hL.out⟩
  case inr =>
    refine (hc.out _ (hT2.out h)).mono ?_
    rintro e w1 ⟨rfl, v', hL⟩
    replace hL := hide hL
    go_wp2
    refine bodyPost_end (results_none rfl _ _ _) rfl ?_
    exact ⟨rfl, v', by rw [HE.out]; exact hL.out⟩

end Go.Proofs.YtdogdinkopocaaaDoor
