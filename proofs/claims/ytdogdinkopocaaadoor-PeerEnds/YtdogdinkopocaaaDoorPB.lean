/- Bytes that can be read, bytes in a block of their own; bytes.Clone (as in stage 5). -/
import Derived.Test.YtdogdinkopocaaaDoorKO
namespace Go.Proofs.YtdogdinkopocaaaDoor
open Go.RowKit Go.Maps

theorem Tryd.infoU8 : (Tryd.prog.info? 5).map (fun i => (i.zero, i.size, i.bytes)) = some (some (.int .u8 0), 1, 1) := by kernel_rfl
/-- Bytes as cells. -/
def u8s (l : List Int) : List Value := l.map (Value.int .u8)
theorem u8s_get {l : List Int} {j : Nat} {u : Value} (h : (u8s l)[j]? = some u) : ∃ hj : j < l.length, u = .int .u8 l[j] := by
  unfold u8s at h
  rw [List.getElem?_map] at h
  obtain ⟨x, hx, rfl⟩ := Option.map_eq_some_iff.1 h
  obtain ⟨hj, rfl⟩ := List.getElem?_eq_some_iff.1 hx
  exact ⟨hj, rfl⟩
theorem u8s_len (l : List Int) : (u8s l).length = l.length := by simp [u8s]
theorem u8s_one (l : List Int) : ∀ u ∈ u8s l, u.oneCell' = true := by intro u hu; simp [u8s] at hu; obtain ⟨_, _, rfl⟩ := hu; rfl

/-- These bytes can be read there. -/
def Rd8 (w : World) (a : Option Addr) (l : List Int) : Prop := (a = none ∧ l = []) ∨ ∃ ad, a = some ad ∧ ∀ j (hj : j < l.length), w.cell? (ad.add j) = some (.int .u8 l[j])
theorem Rd8.below {w w' : World} {a : Option Addr} {l : List Int} (h : Rd8 w a l) (hb : Below w.heap.size w w') : Rd8 w' a l := by
  rcases h with h | ⟨ad, h, hc⟩
  · exact Or.inl h
  · refine Or.inr ⟨ad, h, fun j hj => ?_⟩
    exact (hb.cell (lt_of_cell (hc j hj))).trans (hc j hj)

/-- The slice is a row of these bytes in a block of its own, or nil. -/
def By (w : World) (a : Option Addr) (cap : Nat) (l : List Int) : Prop := Rw w 5 1 (.slice a l.length cap) l.length (u8s l) ∧ l.length ≤ 262144
theorem By.rd {w : World} {a : Option Addr} {cap : Nat} {l : List Int} (h : By w a cap l) : Rd8 w a l := by
  rcases h.1.2 with ⟨h1, h2⟩ | ⟨g, c, cur, h1, hg, _⟩
  · injection h1 with h1 _ _
    exact Or.inl ⟨h1, List.eq_nil_of_length_eq_zero h2⟩
  · have h1' := h1
    injection h1' with h2 _ h3
    subst h2
    refine Or.inr ⟨_, rfl, fun j hj => ?_⟩
    rw [add_none, Nat.zero_add, Rw.cellAt h.1 j (by omega)]
    unfold u8s
    rw [List.getElem?_map, List.getElem?_eq_getElem hj]; rfl
theorem By.blk {w : World} {a : Option Addr} {cap : Nat} {l : List Int} (h : By w a cap l) : a = none ∨ ∃ g cur, a = some ⟨g, 0, none⟩ ∧ w.heap[g]? = some (.cells cur 5 (0, 0)) := by
  rcases h.1.2 with ⟨h1, h2⟩ | ⟨g, c, cur, h1, hg, _⟩
  · injection h1 with h1 _ _
    exact Or.inl h1
  · injection h1 with h2 _ h3
    exact Or.inr ⟨g, cur, h2, hg⟩
/-- Bytes stay where no block of bytes turns. -/
def NoBy (w : World) (S : List Nat) : Prop := ∀ k ∈ S, ∀ cur, w.heap[k]? ≠ some (.cells cur 5 (0, 0))
theorem By.kp {S : List Nat} {w w' : World} {a : Option Addr} {cap : Nat} {l : List Int} (h : By w a cap l) (hk : Kp S w w') (hn : NoBy w S) : By w' a cap l := by
  refine ⟨h.1.kp hk ?_, h.2⟩
  intro k hv hm
  obtain ⟨-, cur, hc⟩ := h.1.lt k hv
  exact hn k hm cur hc
theorem By.below {w w' : World} {a : Option Addr} {cap : Nat} {l : List Int} (h : By w a cap l) (hb : Below w.heap.size w w') : By w' a cap l := ⟨h.1.below hb, h.2⟩

theorem bslice_nil (a : Addr) (len cap : Nat) (w : World) : (binOp .eql 30 (.slice (some a) len cap) (.slice none 0 0)).run Tryd.prog w = .ok (.bool false) w := by kernel_rfl

theorem bslice_nil_nil (w : World) : (binOp .eql 30 (.slice none 0 0) (.slice none 0 0)).run Tryd.prog w = .ok (.bool true) w := by kernel_rfl

set_option maxHeartbeats 1000000 in
set_option maxRecDepth 100000 in
theorem bclone_any (a : Option Addr) (cap : Nat) (l : List Int) (hl : l.length ≤ 262144) (hn : a = none → cap = 0) (w : World) (hr : Rd8 w a l) :
    Calls Tryd.prog 22 #[.slice a l.length cap] w fun e w' => ∃ a' c', e = .returned (.slice a' l.length c') ∧ By w' a' c' l ∧ (∀ ad, a' = some ad → w.heap.size ≤ ad.block) ∧ (a' = none → c' = 0) ∧ Below w.heap.size w w' := by
  rcases hr with ⟨rfl, rfl⟩ | ⟨ad, rfl, hc⟩
  · rw [hn rfl]
    have hsn := bslice_nil_nil
    go_enter Tryd.func22, Tryd.ntmps22
    go_wp2
    go_ret
    exact ⟨none, 0, rfl, ⟨⟨rfl, Or.inl ⟨rfl, rfl⟩⟩, by simp⟩, by simp, fun _ => rfl, Below.refl _ _⟩
  · obtain ⟨i0, hi, hz0, hz1, hz2⟩ := info_parts Tryd.infoU8
    have hown0 : Rw (w.alloc (.cells #[] 5)) 5 1 (.slice (some ⟨w.heap.size, 0, none⟩) 0 0) 0 [] := ⟨rfl, Or.inr ⟨_, 0, #[], rfl, heap_new w _, Nat.le_refl _, by unfold maxLen; omega, by simp, rfl⟩⟩
    have hnews : ∀ j u, (u8s l)[j]? = some u → (w.alloc (.cells #[] 5)).cell? (ad.add j) = some u := by
      intro j u hu
      obtain ⟨hj, rfl⟩ := u8s_get hu
      exact (((Below.refl _ w).alloc (Nat.le_refl _) _).cell (lt_of_cell (hc j hj))).trans (hc j hj)
    obtain ⟨v', w4, hrun, hrw, hgr, hat, hnn⟩ := run_append_rw (P := Tryd.prog) (w.alloc (.cells #[] 5)) 30 30 5 i0 (.int .u8 0) 1 1 Tryd.underlying30 hi hz0 hz1 hz2 rfl _ 0 [] hown0
      (.slice (some ad) l.length cap) l.length (u8s l) (by rw [u8s_len]; omega) (Or.inl ⟨ad, cap, rfl, hnews⟩) (u8s_one l) (by unfold maxLen; omega) (by omega)
    rw [Nat.zero_add, List.nil_append] at hrw
    have HB := hide (((Below.refl _ w).alloc (Nat.le_refl _) (.cells #[] 5)).grown hgr (by simp) (fun k hk => by simp [Value.ownBlock] at hk; omega))
    have HN := hide (hnn (by intro h; cases h))
    have HT := hide hat
    have HW := hide hrw
    clear hgr hat hrw hnn hown0 hnews hc
    have hsn := bslice_nil
    have HR := hide hrun
    clear hrun
    generalize hL : l.length = L at *
    go_enter Tryd.func22, Tryd.ntmps22
    go_wp2_with (at_builtin; refine wpList_append_eq rfl (.tmp 5) (.tmp 6) 30 rfl _ _ v' w4 rfl rfl HR.out ?_)
    go_ret
    rcases HW.out.2 with ⟨h, _⟩ | ⟨g, c, cur, rfl, hg, hrest⟩
    · exact absurd h HN.out
    · refine ⟨some ⟨g, 0, none⟩, c, rfl, ⟨by rw [hL]; exact HW.out, by omega⟩, ?_, by simp, HB.out⟩
      intro ad' h
      injection h with h
      subst h
      rcases HT.out with h | h <;> simp [Value.ownBlock] at h <;> simp <;> omega

end Go.Proofs.YtdogdinkopocaaaDoor
