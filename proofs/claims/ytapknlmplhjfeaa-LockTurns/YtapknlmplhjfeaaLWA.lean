/- LockTurns: what each act makes of the lock, as the law tells it. -/
import Derived.Test.YtapknlmplhjfeaaLR
namespace Go.Proofs.Ytapknlmplhjfeaa
open Go.RowKit Go.Maps

/-- A lock, and a row of the same owners beside it. -/
structure TS (B : Nat) (w : World) (b : Nat) (v rv : Value) (os : List Ow) : Prop where
  ls : LS w b v os
  rr : Rw w 27 2 rv os.length (ows os)
  good : Good os
  ap : ∀ k, rv.ownBlock = some k → v.ownBlock ≠ some k
  up : ∀ k, rv.ownBlock = some k → B ≤ k
theorem TS.below {B : Nat} {w w' : World} {b : Nat} {v rv : Value} {os : List Ow} (h : TS B w b v rv os) (hb : Below w.heap.size w w') : TS B w' b v rv os := ⟨h.ls.below hb, h.rr.below hb, h.good, h.ap, h.up⟩
/-- A call on the lock leaves the row. -/
theorem TS.call {B : Nat} {w w' : World} {b : Nat} {v rv v' : Value} {os os' : List Ow} (h : TS B w b v rv os) (hx : Lx w w' b v v' os') : Rw w' 27 2 rv os.length (ows os) ∧ (∀ k, rv.ownBlock = some k → v'.ownBlock ≠ some k) := by
  have hne : ∀ k, rv.ownBlock = some k → k ≠ b := fun k hk e => by
    obtain ⟨-, cur, hc⟩ := h.rr.lt k hk
    have h1 := h.ls.blk
    unfold IsB at h1
    rw [e, h1] at hc
    injection hc with hc
    injection hc with _ hc
    cases hc
  refine ⟨h.rr.kp hx.kp (fun k hk => by simp; exact hne k hk), fun k hk e => ?_⟩
  rcases hx.at_ k e with h1 | h1
  · exact h.ap k hk h1
  · have := (h.rr.lt k hk).1
    omega

/-- Where the owner was seen last. -/
def Seen (p : Ow) (os : List Ow) (t : Nat) (z : Int) : Prop := (z = -1 ∧ ∀ q (_ : q < t) (hq : q < os.length), os[q] ≠ p) ∨ ∃ q : Nat, q < t ∧ z = (q : Int) ∧ ∃ hq : q < os.length, os[q] = p
theorem Seen.end_ {p : Ow} {os : List Ow} {z : Int} (g : Good os) (h : Seen p os os.length z) : z = plc p os := by
  rcases h with ⟨rfl, h⟩ | ⟨q, hq, rfl, hq2, he⟩
  · exact (plc_no fun q hq => h q hq hq).symm
  · refine (plc_at hq2 he fun q' h1 h2 e => ?_).symm
    have := List.pairwise_iff_getElem.1 g.nd q' q h2 hq2 h1
    exact this (e.trans he.symm)
theorem Seen.yes {p : Ow} {os : List Ow} {t : Nat} (ht : t < os.length) (he : os[t] = p) : Seen p os (t + 1) (t : Int) := Or.inr ⟨t, by omega, rfl, ht, he⟩
theorem Seen.no {p : Ow} {os : List Ow} {t : Nat} {z : Int} (h : Seen p os t z) (ht : t < os.length) (he : os[t] ≠ p) : Seen p os (t + 1) z := by
  rcases h with ⟨h1, h⟩ | ⟨q, hq, h1, h2, h3⟩
  · refine Or.inl ⟨h1, fun q hq hq2 => ?_⟩
    by_cases e : q = t
    · subst e; exact he
    · exact h q (by omega) hq2
  · exact Or.inr ⟨q, by omega, h1, h2, h3⟩

/-- More owners upon a row; nothing but the row's own block has turned. -/
theorem run_more2 {W : World} {u : Value} {l : List Ow} (hu : Rw W 27 2 u l.length (ows l)) (hl : l.length ≤ 1000) {x : Value} {m : List Ow} (hx : Sl W x m) (hm : m.length ≤ 1000) (ty : TypeId) :
    ∃ va vc W1, (Builtin.append_ #[28, 28] ty #[u, x]).run Try.prog W = .ok (.slice va (l ++ m).length vc) W1 ∧ Rw W1 27 2 (.slice va (l ++ m).length vc) (l ++ m).length (ows (l ++ m)) ∧ (∀ k, (Value.slice va (l ++ m).length vc).ownBlock = some k → u.ownBlock = some k ∨ W.heap.size ≤ k) ∧ W.grownBy W1 u.ownBlock := by
  obtain ⟨i0, hi, hz0, hz1, hz2⟩ := info_parts Try.infoO
  obtain ⟨v', W1, hrun, hrw, hgr, hat, -⟩ := run_append_rw (P := Try.prog) W 28 ty 27 i0 _ 2 16 Try.underlying28 hi hz0 hz1 hz2 rfl u l.length (ows l) hu x m.length (ows m) (ows_len m) hx.src (ows_one m) (by unfold maxLen; omega) (by omega)
  rw [← ows_app, ← List.length_append] at hrw
  obtain ⟨va, vc, rfl, -, -⟩ := hrw.shape
  refine ⟨va, vc, W1, hrun, hrw, fun k hk => ?_, hgr⟩
  rcases hat with h | h
  · exact Or.inl (h ▸ hk)
  · rw [h] at hk; simp at hk; exact Or.inr (by omega)
/-- The row is one longer. -/
theorem TS.more {B : Nat} {W : World} {b : Nat} {v u : Value} {l os' : List Ow} (hls : LS W b v os') (g : Good os') (hu : Rw W 27 2 u l.length (ows l)) (ap : ∀ k, u.ownBlock = some k → v.ownBlock ≠ some k) (up : ∀ k, u.ownBlock = some k → B ≤ k) (hB : B ≤ W.heap.size) (hl : l.length ≤ 1000) {p : Ow} {x : Value} (hx : Sl W x [p]) (he : l ++ [p] = os') (ty : TypeId) :
    ∃ va vc W1, (Builtin.append_ #[28, 28] ty #[u, x]).run Try.prog W = .ok (.slice va os'.length vc) W1 ∧ TS B W1 b v (.slice va os'.length vc) os' ∧ Below B W W1 := by
  obtain ⟨va, vc, W1, h1, h2, h3, h4⟩ := run_more2 hu hl hx (by simp) ty
  rw [he] at h1 h2 h3
  have hub : ∀ k, u.ownBlock = some k → k ≠ b := fun k hk e => by
    obtain ⟨-, cur, hc⟩ := hu.lt k hk
    have h1 := hls.blk
    unfold IsB at h1
    rw [e, h1] at hc
    injection hc with hc
    injection hc with _ hc
    cases hc
  refine ⟨va, vc, W1, h1, ⟨⟨hls.blk.grown h4 (fun e => hub b e.symm rfl), hls.row.kept fun k hk => h4.block k (hls.row.lt k hk).1 (fun e => ap k e.symm hk), hls.len⟩, h2, g, fun k hk e => ?_, fun k hk => ?_⟩, (Below.refl B W).grown h4 hB up⟩
  · rcases h3 k hk with h | h
    · exact ap k h e
    · have := (hls.row.lt k e).1
      omega
  · rcases h3 k hk with h | h
    · exact up k h
    · omega
/-- The row is laid anew. -/
theorem TS.anew {B : Nat} {W W1 : World} {b : Nat} {v u : Value} {os' : List Ow} (hls : LS W b v os') (g : Good os') (hu : Rw W1 27 2 u os'.length (ows os')) (hb : Below W.heap.size W W1) (hat : ∀ k, u.ownBlock = some k → W.heap.size ≤ k) (hB : B ≤ W.heap.size) : TS B W1 b v u os' :=
  ⟨hls.below hb, hu, g, fun k hk e => by have := hat k hk; have := (hls.row.lt k e).1; omega, fun k hk => Nat.le_trans hB (hat k hk)⟩

theorem ask_turn {os : List Ow} (g : Good os) (hl : os.length ≤ 65) (a o : Int) : ∃ B E os', Good os' ∧
    (∀ b v w, LS w b v os → Calls Try.prog 17 #[.pointer (some ⟨b, 0, none⟩), .agg #[.int .i64 a, .int .i64 o]] w fun e w' => e = .returned (.tuple #[.bool B, .int .i64 E]) ∧ ∃ v', Lx w w' b v v' os') ∧
    ((E = 0 ∧ plc (a, o) os = -1 ∧ os ++ [(a, o)] = os') ∨ (E ≠ 0 ∧ os' = os) ∨ (E = 0 ∧ 0 ≤ plc (a, o) os ∧ os' = os)) := by
  by_cases hok : okO a o = true
  · rcases plc_cases (a, o) os with ⟨P, hP, hPl, -⟩ | ⟨hP, hn⟩
    · refine ⟨decide (P = 0), 0, os, g, fun b v w h => (ask_in b v os w h a o hok P hP hPl).mono ?_, Or.inr (Or.inr ⟨rfl, by omega, rfl⟩)⟩
      rintro e w' ⟨he, hb⟩
      exact ⟨he, v, h.lx hb⟩
    · by_cases h65 : os.length = 65
      · refine ⟨false, 3, os, g, fun b v w h => (ask_many b v os w h a o hok hP h65).mono ?_, Or.inr (Or.inl ⟨by decide, rfl⟩)⟩
        rintro e w' ⟨he, hb⟩
        exact ⟨he, v, h.lx hb⟩
      · exact ⟨decide (os.length = 0), 0, os ++ [(a, o)], g.snoc hok hn, fun b v w h => ask_new b v os w h a o hok hP (by omega), Or.inl ⟨rfl, hP, rfl⟩⟩
  · have hok' : okO a o = false := by simpa using hok
    refine ⟨false, 70, os, g, fun b v w h => (ask_bad b v os w h a o hok').mono ?_, Or.inr (Or.inl ⟨by decide, rfl⟩)⟩
    rintro e w' ⟨he, hb⟩
    exact ⟨he, v, h.lx hb⟩
theorem plc_bad {os : List Ow} (g : Good os) {a o : Int} (h : okO a o = false) : plc (a, o) os = -1 := plc_none fun hm => by
  have := g.ok _ hm
  simp [h] at this
theorem free_turn {os : List Ow} (g : Good os) (a o : Int) : ∃ X Y B E os', Good os' ∧
    (∀ b v w, LS w b v os → Calls Try.prog 20 #[.pointer (some ⟨b, 0, none⟩), .agg #[.int .i64 a, .int .i64 o]] w fun e w' => e = .returned (.tuple #[.agg #[.int .i64 X, .int .i64 Y], .bool B, .int .i64 E]) ∧ ∃ v', Lx w w' b v v' os') ∧
    ((E = 0 ∧ plc (a, o) os = 0 ∧ os' = os.tail ∧ 0 < os.length) ∨ (E ≠ 0 ∧ plc (a, o) os ≠ 0 ∧ os' = os)) := by
  by_cases hok : okO a o = true
  · by_cases h0 : plc (a, o) os = 0
    · have hl : 0 < os.length := by
        rcases plc_cases (a, o) os with ⟨P, hP, hPl, -⟩ | ⟨hP, -⟩ <;> omega
      exact ⟨_, _, _, 0, os.tail, g.tail, fun b v w h => free_one b v os w h a o hok h0 hl, Or.inl ⟨rfl, h0, rfl, hl⟩⟩
    · refine ⟨0, 0, false, 71, os, g, fun b v w h => (free_not b v os w h a o hok _ rfl h0).mono ?_, Or.inr ⟨by decide, h0, rfl⟩⟩
      rintro e w' ⟨he, hb⟩
      exact ⟨he, v, h.lx hb⟩
  · have hok' : okO a o = false := by simpa using hok
    refine ⟨0, 0, false, 70, os, g, fun b v w h => (free_bad b v os w h a o hok').mono ?_, Or.inr ⟨by decide, by rw [plc_bad g hok']; decide, rfl⟩⟩
    rintro e w' ⟨he, hb⟩
    exact ⟨he, v, h.lx hb⟩
theorem leave_turn {os : List Ow} (g : Good os) (a o : Int) : ∃ B E os', Good os' ∧
    (∀ b v w, LS w b v os → Calls Try.prog 21 #[.pointer (some ⟨b, 0, none⟩), .agg #[.int .i64 a, .int .i64 o]] w fun e w' => e = .returned (.tuple #[.bool B, .int .i64 E]) ∧ ∃ v', Lx w w' b v v' os') ∧
    ((B = true ∧ ∃ P : Nat, plc (a, o) os = (P : Int) ∧ 1 ≤ P ∧ P < os.length ∧ os' = os.eraseIdx P) ∨ (B = false ∧ plc (a, o) os < 1 ∧ os' = os)) := by
  by_cases hok : okO a o = true
  · by_cases h1 : plc (a, o) os < 1
    · refine ⟨false, 0, os, g, fun b v w h => (leave_none b v os w h a o hok _ rfl h1).mono ?_, Or.inr ⟨rfl, h1, rfl⟩⟩
      rintro e w' ⟨he, hb⟩
      exact ⟨he, v, h.lx hb⟩
    · rcases plc_cases (a, o) os with ⟨P, hP, hPl, -⟩ | ⟨hP, -⟩
      · exact ⟨true, 0, os.eraseIdx P, g.erase P, fun b v w h => leave_one b v os w h a o hok P hP hPl (by omega), Or.inl ⟨rfl, P, hP, by omega, hPl, rfl⟩⟩
      · omega
  · have hok' : okO a o = false := by simpa using hok
    refine ⟨false, 70, os, g, fun b v w h => (leave_bad b v os w h a o hok').mono ?_, Or.inr ⟨rfl, by rw [plc_bad g hok']; decide, rfl⟩⟩
    rintro e w' ⟨he, hb⟩
    exact ⟨he, v, h.lx hb⟩

end Go.Proofs.Ytapknlmplhjfeaa
