/- Both locks: what a call makes of the one it makes of the other. -/
import Derived.Test.YtapknlmplhjfeaaLQ
import Derived.Test.YtapknlmplhjfeaaLN
namespace Go.Proofs.Ytapknlmplhjfeaa
open Go.RowKit Go.Maps

/-- Rows that a lock may have: no owner twice, none that may not be. -/
structure Good (os : List Ow) : Prop where
  nd : os.Nodup
  ok : ∀ p ∈ os, okO p.1 p.2 = true

theorem plc_head (p : Ow) (tl : List Ow) : plc p (p :: tl) = 0 := plc_at (j := 0) (by simp) rfl (fun q h => by omega)
theorem plc_none {p : Ow} {os : List Ow} (h : p ∉ os) : plc p os = -1 := by unfold plc; rw [if_neg h]
theorem plc_tail {p h : Ow} {tl : List Ow} (hne : h ≠ p) {P : Nat} (hP : plc p tl = (P : Int)) : plc p (h :: tl) = ((P + 1 : Nat) : Int) := by
  unfold plc at hP ⊢
  by_cases hm : p ∈ tl
  · rw [if_pos hm] at hP
    rw [if_pos (by simp [hm]), List.idxOf_cons]
    have : (h == p) = false := by simpa using hne
    rw [this]
    simp only [cond_false]
    omega
  · rw [if_neg hm] at hP
    omega
theorem Good.nil : Good [] := ⟨List.nodup_nil, by simp⟩
theorem Good.snoc {os : List Ow} {p : Ow} (g : Good os) (hp : okO p.1 p.2 = true) (hn : p ∉ os) : Good (os ++ [p]) := by
  refine ⟨?_, ?_⟩
  · rw [List.nodup_append]
    refine ⟨g.nd, by simp, ?_⟩
    intro a ha b hb
    simp at hb
    subst hb
    intro e
    exact hn (e ▸ ha)
  · intro q hq
    simp at hq
    rcases hq with hq | rfl
    · exact g.ok q hq
    · exact hp
theorem Good.tail {os : List Ow} (g : Good os) : Good os.tail := ⟨g.nd.sublist (List.tail_sublist os), fun p hp => g.ok p (List.mem_of_mem_tail hp)⟩
theorem Good.erase {os : List Ow} (g : Good os) (i : Nat) : Good (os.eraseIdx i) := ⟨g.nd.sublist (List.eraseIdx_sublist os i), fun p hp => g.ok p (List.mem_of_mem_eraseIdx hp)⟩

theorem ask_both {os : List Ow} (g : Good os) (hl : os.length ≤ 65) (a o : Int) : ∃ B E os', Good os' ∧
    (∀ b v w, LS w b v os → Calls Try.prog 17 #[.pointer (some ⟨b, 0, none⟩), .agg #[.int .i64 a, .int .i64 o]] w fun e w' => e = .returned (.tuple #[.bool B, .int .i64 E]) ∧ ∃ v', Lx w w' b v v' os') ∧
    (∀ b v w, RS w b v os → Calls Try.prog 23 #[.pointer (some ⟨b, 0, none⟩), .agg #[.int .i64 a, .int .i64 o]] w fun e w' => e = .returned (.tuple #[.bool B, .int .i64 E]) ∧ ∃ v', Rx w w' b v v' os') := by
  by_cases hok : okO a o = true
  · rcases plc_cases (a, o) os with ⟨P, hP, hPl, -⟩ | ⟨hP, hn⟩
    · refine ⟨decide (P = 0), 0, os, g, fun b v w h => (ask_in b v os w h a o hok P hP hPl).mono ?_, fun b v w h => ?_⟩
      · rintro e w' ⟨he, hb⟩
        exact ⟨he, v, h.lx hb⟩
      · cases os with
        | nil => simp at hPl
        | cons p tl =>
          obtain ⟨x, y⟩ := p
          by_cases hxy : x = a ∧ y = o
          · have h0 : plc (a, o) ((x, y) :: tl) = 0 := by rw [hxy.1, hxy.2]; exact plc_head _ _
            have : P = 0 := by omega
            subst this
            refine (rask_hold b v x y tl w a o h hok hxy).mono ?_
            rintro e w' ⟨he, hb⟩
            exact ⟨he, v, h.rx hb⟩
          · have hne : (x, y) ≠ (a, o) := fun e => hxy (by simpa using e)
            rcases plc_cases (a, o) tl with ⟨Q, hQ, -, -⟩ | ⟨hQ, hm⟩
            · have h1 := plc_tail hne hQ
              have : P ≠ 0 := by omega
              refine (rask_wait b v x y tl w a o h hok (fun h1 h2 => hxy ⟨h1, h2⟩) Q hQ).mono ?_
              rintro e w' ⟨he, hb⟩
              exact ⟨by simpa [this] using he, v, h.rx hb⟩
            · have : (a, o) ∉ (x, y) :: tl := by simp [hm]; exact fun h1 h2 => hxy ⟨h1.symm, h2.symm⟩
              have := plc_none this
              omega
    · by_cases h65 : os.length = 65
      · refine ⟨false, 3, os, g, fun b v w h => (ask_many b v os w h a o hok hP h65).mono ?_, fun b v w h => ?_⟩
        · rintro e w' ⟨he, hb⟩
          exact ⟨he, v, h.lx hb⟩
        · cases os with
          | nil => simp at h65
          | cons p tl =>
            obtain ⟨x, y⟩ := p
            simp at hn
            refine (rask_many b v x y tl w a o h hok (fun h1 h2 => hn.1 h1.symm h2.symm) (plc_none hn.2) (by simp at h65; omega)).mono ?_
            rintro e w' ⟨he, hb⟩
            exact ⟨he, v, h.rx hb⟩
      · refine ⟨decide (os.length = 0), 0, os ++ [(a, o)], g.snoc hok hn, fun b v w h => ask_new b v os w h a o hok hP (by omega), fun b v w h => ?_⟩
        cases os with
        | nil => exact rask_first b v w a o h hok
        | cons p tl =>
          obtain ⟨x, y⟩ := p
          simp at hn
          have := rask_new b v x y tl w a o h hok (fun h1 h2 => hn.1 h1.symm h2.symm) (plc_none hn.2) (by simp at hl h65; omega)
          simpa using this
  · have hok' : okO a o = false := by simpa using hok
    refine ⟨false, 70, os, g, fun b v w h => (ask_bad b v os w h a o hok').mono ?_, fun b v w h => (rask_bad b w a o hok').mono ?_⟩
    · rintro e w' ⟨he, hb⟩
      exact ⟨he, v, h.lx hb⟩
    · rintro e w' ⟨he, hb⟩
      exact ⟨he, v, h.rx hb⟩

theorem free_both {os : List Ow} (g : Good os) (a o : Int) : ∃ X Y B E os', Good os' ∧
    (∀ b v w, LS w b v os → Calls Try.prog 20 #[.pointer (some ⟨b, 0, none⟩), .agg #[.int .i64 a, .int .i64 o]] w fun e w' => e = .returned (.tuple #[.agg #[.int .i64 X, .int .i64 Y], .bool B, .int .i64 E]) ∧ ∃ v', Lx w w' b v v' os') ∧
    (∀ b v w, RS w b v os → Calls Try.prog 24 #[.pointer (some ⟨b, 0, none⟩), .agg #[.int .i64 a, .int .i64 o]] w fun e w' => e = .returned (.tuple #[.agg #[.int .i64 X, .int .i64 Y], .bool B, .int .i64 E]) ∧ ∃ v', Rx w w' b v v' os') := by
  by_cases hok : okO a o = true
  · cases os with
    | nil =>
      refine ⟨0, 0, false, 71, [], g, fun b v w h => (free_not b v [] w h a o hok (-1) (plc_none (by simp)) (by decide)).mono ?_, fun b v w h => (rfree_none b v w a o h hok).mono ?_⟩
      · rintro e w' ⟨he, hb⟩
        exact ⟨he, v, h.lx hb⟩
      · rintro e w' ⟨he, hb⟩
        exact ⟨he, v, h.rx hb⟩
    | cons p tl =>
      obtain ⟨x, y⟩ := p
      by_cases hxy : x = a ∧ y = o
      · have h0 : plc (a, o) ((x, y) :: tl) = 0 := by rw [hxy.1, hxy.2]; exact plc_head _ _
        refine ⟨(hd tl).1, (hd tl).2, decide (0 < tl.length), 0, tl, g.tail, fun b v w h => free_one b v _ w h a o hok h0 (by simp), fun b v w h => ?_⟩
        cases tl with
        | nil => exact rfree_last b v x y w a o h hok hxy
        | cons p2 tl2 =>
          obtain ⟨x2, y2⟩ := p2
          have := rfree_next b v x y x2 y2 tl2 w a o h hok hxy
          simpa [hd] using this
      · have hne : plc (a, o) ((x, y) :: tl) ≠ 0 := by
          have hne : (x, y) ≠ (a, o) := fun e => hxy (by simpa using e)
          rcases plc_cases (a, o) tl with ⟨Q, hQ, -, -⟩ | ⟨hQ, hm⟩
          · have h1 := plc_tail hne hQ
            omega
          · have : (a, o) ∉ (x, y) :: tl := by simp [hm]; exact fun h1 h2 => hxy ⟨h1.symm, h2.symm⟩
            have := plc_none this
            omega
        refine ⟨0, 0, false, 71, _, g, fun b v w h => (free_not b v _ w h a o hok _ rfl hne).mono ?_, fun b v w h => (rfree_other b v x y tl w a o h hok (fun h1 h2 => hxy ⟨h1, h2⟩)).mono ?_⟩
        · rintro e w' ⟨he, hb⟩
          exact ⟨he, v, h.lx hb⟩
        · rintro e w' ⟨he, hb⟩
          exact ⟨he, v, h.rx hb⟩
  · have hok' : okO a o = false := by simpa using hok
    refine ⟨0, 0, false, 70, os, g, fun b v w h => (free_bad b v os w h a o hok').mono ?_, fun b v w h => (rfree_bad b w a o hok').mono ?_⟩
    · rintro e w' ⟨he, hb⟩
      exact ⟨he, v, h.lx hb⟩
    · rintro e w' ⟨he, hb⟩
      exact ⟨he, v, h.rx hb⟩

theorem leave_both {os : List Ow} (g : Good os) (a o : Int) : ∃ B E os', Good os' ∧
    (∀ b v w, LS w b v os → Calls Try.prog 21 #[.pointer (some ⟨b, 0, none⟩), .agg #[.int .i64 a, .int .i64 o]] w fun e w' => e = .returned (.tuple #[.bool B, .int .i64 E]) ∧ ∃ v', Lx w w' b v v' os') ∧
    (∀ b v w, RS w b v os → Calls Try.prog 25 #[.pointer (some ⟨b, 0, none⟩), .agg #[.int .i64 a, .int .i64 o]] w fun e w' => e = .returned (.tuple #[.bool B, .int .i64 E]) ∧ ∃ v', Rx w w' b v v' os') := by
  by_cases hok : okO a o = true
  · by_cases hm : (a, o) ∈ os.tail
    · cases os with
      | nil => simp at hm
      | cons p tl =>
        obtain ⟨x, y⟩ := p
        simp only [List.tail_cons] at hm
        have hne : (x, y) ≠ (a, o) := fun e => (List.nodup_cons.1 g.nd).1 (e ▸ hm)
        rcases plc_cases (a, o) tl with ⟨Q, hQ, hQl, -⟩ | ⟨-, hm'⟩
        · refine ⟨true, 0, (x, y) :: tl.eraseIdx Q, g.erase (Q + 1), fun b v w h => leave_one b v _ w h a o hok (Q + 1) (plc_tail hne hQ) (by simp; omega) (by omega), fun b v w h => rleave_one b v x y tl w a o h hok Q hQ hQl⟩
        · exact absurd hm hm'
    · have hlt : plc (a, o) os < 1 := by
        cases os with
        | nil => rw [plc_none (by simp)]; decide
        | cons p tl =>
          simp only [List.tail_cons] at hm
          by_cases he : p = (a, o)
          · rw [he, plc_head]; decide
          · rw [plc_none (by simp only [List.mem_cons, not_or]; exact ⟨fun e => he e.symm, hm⟩)]; decide
      refine ⟨false, 0, os, g, fun b v w h => (leave_none b v os w h a o hok _ rfl hlt).mono ?_, fun b v w h => (rleave_none b v os w a o h hok (plc_none hm)).mono ?_⟩
      · rintro e w' ⟨he, hb⟩
        exact ⟨he, v, h.lx hb⟩
      · rintro e w' ⟨he, hb⟩
        exact ⟨he, v, h.rx hb⟩
  · have hok' : okO a o = false := by simpa using hok
    refine ⟨false, 70, os, g, fun b v w h => (leave_bad b v os w h a o hok').mono ?_, fun b v w h => (rleave_bad b w a o hok').mono ?_⟩
    · rintro e w' ⟨he, hb⟩
      exact ⟨he, v, h.lx hb⟩
    · rintro e w' ⟨he, hb⟩
      exact ⟨he, v, h.rx hb⟩

/-- Both locks, side by side. -/
structure Two (w : World) (b rb : Nat) (v rv : Value) (os : List Ow) : Prop where
  ls : LS w b v os
  rs : RS w rb rv os
  good : Good os
theorem Two.ne {w : World} {b rb : Nat} {v rv : Value} {os : List Ow} (h : Two w b rb v rv os) : b ≠ rb := by
  intro e
  have h1 := h.ls.blk
  have h2 := h.rs.blk
  unfold IsB at h1 h2
  rw [e, h2] at h1
  injection h1 with h1
  injection h1 with _ h1
  cases h1
theorem Two.below {w w' : World} {b rb : Nat} {v rv : Value} {os : List Ow} (h : Two w b rb v rv os) (hb : Below w.heap.size w w') : Two w' b rb v rv os := ⟨h.ls.below hb, h.rs.below hb, h.good⟩
theorem LS.off {w : World} {b rb : Nat} {v rv : Value} {os os2 : List Ow} (h : LS w b v os) (r : RS w rb rv os2) : ∀ k, v.ownBlock = some k → k ≠ rb := by
  intro k hk e
  obtain ⟨-, cur, hc⟩ := h.row.lt k hk
  have h1 := r.blk
  unfold IsB at h1
  rw [e, h1] at hc
  injection hc with hc
  injection hc with _ hc
  cases hc
theorem RS.off {w : World} {b rb : Nat} {v rv : Value} {os os2 : List Ow} (h : LS w b v os) (r : RS w rb rv os2) : ∀ k, rv.ownBlock = some k → k ≠ b := by
  intro k hk e
  obtain ⟨-, cur, hc⟩ := r.row.lt k hk
  have h1 := h.blk
  unfold IsB at h1
  rw [e, h1] at hc
  injection hc with hc
  injection hc with _ hc
  cases hc
/-- A call on the one leaves the other. -/
theorem Two.left {w w1 : World} {b rb : Nat} {v rv v' : Value} {os os' : List Ow} (h : Two w b rb v rv os) (hx : Lx w w1 b v v' os') : RS w1 rb rv os :=
  ⟨h.rs.blk.kp hx.kp (by simp; exact Ne.symm h.ne), h.rs.row.kp hx.kp (fun q hq => by simp; exact RS.off h.ls h.rs q hq), h.rs.len⟩
theorem LS.right {w w1 : World} {b rb : Nat} {v rv rv' : Value} {os os2 os' : List Ow} (h : LS w b v os) (r : RS w rb rv os2) (hne : b ≠ rb) (hx : Rx w w1 rb rv rv' os') : LS w1 b v os :=
  ⟨h.blk.kp hx.kp (by simp; exact hne), h.row.kp hx.kp (fun q hq => by simp; exact LS.off h r q hq), h.len⟩

end Go.Proofs.Ytapknlmplhjfeaa
