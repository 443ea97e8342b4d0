/- Both removals in one memory; the document's calls, whatever it is at. -/
import Derived.Test.YtokehogcenjefaaGreatDoorBE
import Derived.Test.YtokehogcenjefaaGreatDoorAE
import Derived.Test.YtokehogcenjefaaGreatDoorSW
namespace Go.Proofs.YtokehogcenjefaaGreatDoor
open Go.RowKit Go.Maps Go.ChangeMaps

/-- The document's stands as the program's. -/
structure Sim (D S : Us) : Prop where
 eq : D = { S with bh := D.bh }
 b8 : S.pl = 8 → D.bh = S.bh
 b9 : S.pl ≠ 8 → S.pl ≠ 10 → S.bh = 9
 e0 : S.bh = 9 → S.pl ≠ 10 → S.e = 0
 ok : S.plok
theorem Sim.new (wl wb : Int) (me : Rf) (oa oo : Int) : Sim (newD wl wb me oa oo) (unewS wl wb me oa oo) :=
 ⟨rfl, fun h => absurd (show (1 : Int) = 8 from h) (by decide), fun _ _ => rfl, fun _ _ => rfl, show (1 : Int) ≤ 1 by decide, show (1 : Int) ≤ 10 by decide, Or.inl rfl⟩
theorem Sim.step {D S : Us} (h : Sim D S) : D.step = S.step := by rw [h.eq]; rfl
theorem Sim.pl {D S : Us} (h : Sim D S) : D.pl = S.pl := by rw [h.eq]
theorem Sim.wake {D S : Us} (h : Sim D S) : Sim D.dwake S.wake := by
 unfold Us.dwake Us.wake
 rw [h.pl]
 by_cases hp : S.pl = 9
 · rw [if_pos hp, if_pos hp]
   have b9 := h.b9 (by omega) (by omega)
   have e0 := h.e0 b9 (by omega)
   exact ⟨by rw [h.eq], fun c => absurd (show (1 : Int) = 8 from c) (by decide), fun _ _ => b9, fun _ _ => e0, show (1 : Int) ≤ 1 by decide, show (1 : Int) ≤ 10 by decide, Or.inl b9⟩
 · rw [if_neg hp, if_neg hp]; exact h
/-- A place that is neither 8 nor the end. -/
theorem Sim.to {D S D' S' : Us} (h : Sim D S) (h8 : S.pl ≠ 8) (h10 : S.pl ≠ 10) (e : D' = { S' with bh := D'.bh }) (hb : S'.bh = S.bh) (he : S'.e = S.e) (n8 : S'.pl ≠ 8) (n1 : 1 ≤ S'.pl) (n10 : S'.pl ≤ 10) : Sim D' S' := by
 have b9 := h.b9 h8 h10
 have e0 := h.e0 b9 h10
 exact ⟨e, fun c => absurd c n8, fun _ _ => by rw [hb, b9], fun _ _ => by rw [he, e0], n1, n10, Or.inl (by rw [hb, b9])⟩
/-- The end. -/
theorem Sim.over {D' S' : Us} (e : D' = { S' with bh := D'.bh }) (hp : S'.pl = 10) (hb : S'.bh = 9 ∨ S'.bh = 10) : Sim D' S' :=
 ⟨e, fun c => by omega, fun _ c => absurd hp c, fun _ c => absurd hp c, by unfold Us.plok; rw [hp]; exact ⟨by decide, by decide, hb⟩⟩
/-- The left one is freed, then it waits. -/
theorem Sim.free9 {D' S' : Us} (e : D' = { S' with bh := D'.bh }) (hp : S'.pl = 8) (hb : S'.bh = 9) (hd : D'.bh = 9) (he : S'.e = 0) : Sim D' S' :=
 ⟨e, fun _ => by rw [hb, hd], fun c => absurd hp c, fun _ _ => he, by unfold Us.plok; rw [hp]; exact ⟨by decide, by decide, Or.inl hb⟩⟩
/-- The left one is freed, then it is over. -/
theorem Sim.free10 {D' S' : Us} (e : D' = { S' with bh := D'.bh }) (hp : S'.pl = 8) (hb : S'.bh = 10) (hd : D'.bh = 10) : Sim D' S' :=
 ⟨e, fun _ => by rw [hb, hd], fun c => absurd hp c, fun c => by omega, by unfold Us.plok; rw [hp]; exact ⟨by decide, by decide, Or.inr hb⟩⟩
theorem endE_1 {k : Int} (h : k ≠ 3) : endE k = 0 := if_neg h
theorem Sim.tell {D S : Us} (h : Sim D S) (a : An) : Sim (D.dtell a) (S.tell a) := by
 have hD := h.eq
 unfold Us.dtell Us.tell
 rw [h.pl]
 by_cases h1 : S.pl = 1
 · rw [if_pos h1, if_pos h1]
   have b9 := h.b9 (by omega) (by omega)
   have e0 := h.e0 b9 (by omega)
   have hme : D.me = S.me := by rw [hD]
   unfold Us.dread Us.hRead
   rw [hme]
   by_cases c1 : a.k = 1 ∧ klt (a.l.rk, a.l.kn) (S.me.rk, S.me.kn) = true
   · rw [if_pos c1, if_pos c1]
     exact h.to (by omega) (by omega) (by rw [hD]) rfl rfl (show (2 : Int) ≠ 8 by decide) (show (1 : Int) ≤ 2 by decide) (show (2 : Int) ≤ 10 by decide)
   rw [if_neg c1, if_neg c1]
   by_cases c2 : a.k = 2
   · rw [if_pos c2, if_pos (by rw [c2]; rfl), c2]
     exact Sim.over (by rw [hD]; simp [endE, e0]) rfl (Or.inl b9)
   rw [if_neg c2]
   by_cases c3 : a.k = 3
   · rw [if_pos c3, if_pos (by rw [c3]; rfl), c3]
     exact Sim.over (by rw [hD]; simp [endE]) rfl (Or.inl b9)
   rw [if_neg c3, if_neg (by unfold awB; simp [c2, c3])]
   exact h.to (by omega) (by omega) (by rw [hD]) rfl rfl (show (9 : Int) ≠ 8 by decide) (show (1 : Int) ≤ 9 by decide) (show (9 : Int) ≤ 10 by decide)
 rw [if_neg h1, if_neg h1]
 by_cases h2 : S.pl = 2
 · rw [if_pos h2, if_pos h2]
   have b9 := h.b9 (by omega) (by omega)
   have e0 := h.e0 b9 (by omega)
   have hme : D.me = S.me := by rw [hD]
   unfold Us.hLeft Us.dback
   rw [hme]
   by_cases c1 : a.k = 1
   · by_cases c2 : a.r = S.me
     · rw [if_pos ⟨c1, c2⟩, if_pos c1, if_pos c2]
       exact h.to (by omega) (by omega) (by rw [hD]) rfl rfl (show (3 : Int) ≠ 8 by decide) (show (1 : Int) ≤ 3 by decide) (show (3 : Int) ≤ 10 by decide)
     · rw [if_neg fun c => c2 c.2, if_pos c1, if_pos c1, if_neg c2]
       exact Sim.free9 (by rw [hD]; simp [e0]) rfl b9 rfl e0
   · rw [if_neg fun c => c1 c.1, if_neg c1, if_neg c1]
     exact h.to (by omega) (by omega) (by rw [hD]) rfl rfl (show (9 : Int) ≠ 8 by decide) (show (1 : Int) ≤ 9 by decide) (show (9 : Int) ≤ 10 by decide)
 rw [if_neg h2, if_neg h2]
 by_cases h3 : S.pl = 3
 · rw [if_pos h3, if_pos h3]
   have b9 := h.b9 (by omega) (by omega)
   have e0 := h.e0 b9 (by omega)
   have hme : D.me = S.me := by rw [hD]
   unfold Us.dlocked Us.hMe Us.dback
   rw [hme]
   by_cases c1 : a.k = 1
   · by_cases c2 : klt (S.me.rk, S.me.kn) (a.r.rk, a.r.kn) = true
     · rw [if_pos ⟨c1, c2⟩, if_pos c1, if_pos c2]
       exact h.to (by omega) (by omega) (by rw [hD]) rfl rfl (show (4 : Int) ≠ 8 by decide) (show (1 : Int) ≤ 4 by decide) (show (4 : Int) ≤ 10 by decide)
     · rw [if_neg fun c => c2 c.2, if_pos c1, if_pos c1, if_neg c2]
       exact h.to (by omega) (by omega) (by rw [hD]) rfl rfl (show (7 : Int) ≠ 8 by decide) (show (1 : Int) ≤ 7 by decide) (show (7 : Int) ≤ 10 by decide)
   · rw [if_neg fun c => c1 c.1, if_neg c1, if_neg c1]
     by_cases c2 : a.k = 2
     · rw [if_pos c2, if_pos (by rw [c2]; rfl), c2]
       exact Sim.free10 (by rw [hD]; simp [endE]) rfl rfl rfl
     · rw [if_neg c2]
       by_cases c3 : a.k = 3
       · rw [if_pos c3, if_pos (by rw [c3]; rfl), c3]
         exact Sim.free10 (by rw [hD]; simp [endE]) rfl rfl rfl
       · rw [if_neg c3, if_neg (by unfold awB; simp [c2, c3])]
         exact Sim.free9 (by rw [hD]; simp [e0]) rfl b9 rfl e0
 rw [if_neg h3, if_neg h3]
 by_cases h4 : S.pl = 4
 · rw [if_pos h4, if_pos h4]
   have hrg : D.rg = S.rg := by rw [hD]
   unfold Us.hRt
   rw [hrg]
   by_cases c1 : a.k = 1 ∨ a.k = 3 ∧ a.r = S.rg
   · rw [if_pos c1, if_pos c1]
     exact h.to (by omega) (by omega) (by rw [hD]) rfl rfl (show (5 : Int) ≠ 8 by decide) (show (1 : Int) ≤ 5 by decide) (show (5 : Int) ≤ 10 by decide)
   · rw [if_neg c1, if_neg c1]
     exact h.to (by omega) (by omega) (by rw [hD]) rfl rfl (show (7 : Int) ≠ 8 by decide) (show (1 : Int) ≤ 7 by decide) (show (7 : Int) ≤ 10 by decide)
 rw [if_neg h4, if_neg h4]
 by_cases h5 : S.pl = 5
 · rw [if_pos h5, if_pos h5]
   exact h.to (by omega) (by omega) (by rw [hD]) rfl rfl (show (6 : Int) ≠ 8 by decide) (show (1 : Int) ≤ 6 by decide) (show (6 : Int) ≤ 10 by decide)
 rw [if_neg h5, if_neg h5]
 by_cases h6 : S.pl = 6
 · rw [if_pos h6, if_pos h6]
   unfold Us.dback endE
   exact Sim.free10 (by rw [hD]) rfl rfl rfl
 rw [if_neg h6, if_neg h6]
 by_cases h7 : S.pl = 7
 · rw [if_pos h7, if_pos h7]
   have b9 := h.b9 (by omega) (by omega)
   have e0 := h.e0 b9 (by omega)
   unfold Us.dback
   exact Sim.free9 (by rw [hD]; simp [e0]) rfl b9 rfl e0
 rw [if_neg h7, if_neg h7]
 by_cases h8 : S.pl = 8
 · rw [if_pos h8, if_pos h8]
   have hb := h.b8 h8
   have ok := h.ok.2.2
   have e0 := h.e0
   rw [hb]
   rcases ok with k | k
   · rw [k]
     exact ⟨by rw [hD], fun c => absurd (show (9 : Int) = 8 from c) (by decide), fun _ _ => rfl, fun _ _ => e0 k (by omega), show (1 : Int) ≤ 9 by decide, show (9 : Int) ≤ 10 by decide, Or.inl rfl⟩
   · rw [k]
     exact Sim.over (by rw [hD]) rfl (Or.inr rfl)
 rw [if_neg h8, if_neg h8]
 exact h

/-- What the document's calls keep: all but its own blocks behind base. -/
structure Fd (base : Nat) (w w' : World) : Prop where
 os : w'.os = w.os
 tape : w'.tape = w.tape
 output : w'.output = w.output
 size : w.heap.size ≤ w'.heap.size
 blk : ∀ k, k < w.heap.size → (k < base ∨ ∀ cs, ¬IsB w k cs 105 ∧ ¬IsB w k cs 179 ∧ ¬IsB w k cs 58 ∧ ¬IsB w k cs 102) → w'.heap[k]? = w.heap[k]?
theorem Fd.tr {base : Nat} {a b c : World} (h : Fd base a b) (k : Fd base b c) : Fd base a c :=
 ⟨k.os.trans h.os, k.tape.trans h.tape, k.output.trans h.output, Nat.le_trans h.size k.size, fun j hj hx => by
   have e := h.blk j hj hx
   refine (k.blk j (Nat.lt_of_lt_of_le hj h.size) ?_).trans e
   rcases hx with hx | hx
   · exact Or.inl hx
   · refine Or.inr fun cs => ?_
     unfold IsB
     rw [e]
     exact hx cs⟩
theorem Fd.of_kd {base : Nat} {a b : World} (h : Kd base a b) : Fd base a b := ⟨h.os, h.tape, h.output, h.size, fun j hj hx => h.blk j hj (hx.imp id fun hx cs => ⟨(hx cs).1, (hx cs).2.1⟩)⟩
theorem Fd.of_below {base : Nat} {a b : World} (h : Below a.heap.size a b) : Fd base a b := ⟨h.os, h.tape, h.output, h.size, fun j hj _ => h.block j hj⟩
theorem Fd.of_kp {base : Nat} {a b : World} {T : List Nat} (h : Kp T a b) (hT : ∀ k ∈ T, base ≤ k ∧ ((∃ cs, IsB a k cs 58) ∨ ∃ cs, IsB a k cs 102)) : Fd base a b :=
 ⟨h.os, h.tape, h.output, h.size, fun j hj hx => h.block j hj fun hm => by
   obtain ⟨h1, h2⟩ := hT j hm
   rcases hx with hx | hx
   · omega
   · rcases h2 with ⟨cs, h2⟩ | ⟨cs, h2⟩
     · exact (hx cs).2.2.1 h2
     · exact (hx cs).2.2.2 h2⟩
theorem Fd.below {base : Nat} {a b : World} (h : Fd base a b) (hb : base ≤ a.heap.size) : Below base a b := ⟨h.os, h.tape, h.output, h.size, fun j hj => h.blk j (by omega) (Or.inl hj)⟩
theorem IsB.fd {base : Nat} {w w' : World} {b : Nat} {cs : Array Value} {t : TypeId} (h : IsB w b cs t) (k : Fd base w w') (h1 : t ≠ 105) (h2 : t ≠ 179) (h3 : t ≠ 58) (h4 : t ≠ 102) : IsB w' b cs t :=
 (k.blk b h.lt (Or.inr fun _ => ⟨fun J => IsB.ne_t h J h1 rfl, fun J => IsB.ne_t h J h2 rfl, fun J => IsB.ne_t h J h3 rfl, fun J => IsB.ne_t h J h4 rfl⟩)).trans h
theorem RvAt.fd {base bs : Nat} {w w' : World} {b : Nat} {T : Rv} (h : RvAt base w b T) (k : Fd bs w w') : RvAt base w' b T := by
 obtain ⟨s, m, u, I, X, hu, h1⟩ := h
 exact ⟨s, m, u, I.fd k (by decide) (by decide) (by decide) (by decide), ⟨X.blk.fd k (by decide) (by decide) (by decide) (by decide), X.map.kept (k.blk m X.map.lt (Or.inr fun cs => ⟨fun J => X.map.off J rfl, fun J => X.map.off J rfl, fun J => X.map.off J rfl, fun J => X.map.off J rfl⟩))⟩, fun c => ⟨IsB.fd (hu c).1 k (by decide) (by decide) (by decide) (by decide), (hu c).2⟩, h1⟩
theorem RvAt.nd {base : Nat} {w : World} {b : Nat} {T : Rv} (h : RvAt base w b T) : (T.ws.map (·.1)).Nodup := by
 obtain ⟨s, m, u, I, X, -⟩ := h
 exact X.map.nodup
/-- The document's removal beside the program's. -/
def dOf (h : Int) (st : Rf) (K : Int) (R : Rm) : Dm := ⟨h, st, K, R.oa, R.oo, R.x, decide (R.pl = 2), R.md, decide (R.pl = 4), R.e⟩
def DvAt (base : Nat) (w : World) (d : Nat) (h : Int) (st : Rf) (K : Int) (T : Rv) (n : Nat) : Prop := ∃ q uv u U L, IsB w d (dmL (dOf h st K T.R) (.pointer (some ⟨q, 0, none⟩)) uv).toArray 58 ∧ base ≤ d ∧ Dk w q base T.S st L ∧ T.ws = L.map Wl.pr ∧ (∃ hh, T.S.hd = ⟨0, 1, 0, hh, 0⟩) ∧ L.length ≤ n ∧ Zr T.S ∧ (T.R.pl ≤ 2 → uv = .pointer none) ∧ (T.R.pl = 3 → uv = .pointer (some ⟨u, 0, none⟩) ∧ DsAt w u U ∧ base ≤ u ∧ Sim U T.U)
theorem DvAt.below {base : Nat} {w w' : World} {d : Nat} {h : Int} {st : Rf} {K : Int} {T : Rv} {n : Nat} (hd : DvAt base w d h st K T n) (hb : Below w.heap.size w w') : DvAt base w' d h st K T n := by
 obtain ⟨q, uv, u, U, L, I, g1, X, g2, g3, g4, g5, g6, g7⟩ := hd
 exact ⟨q, uv, u, U, L, I.below hb, g1, X.below hb, g2, g3, g4, g5, g6, fun c => ⟨(g7 c).1, DsAt.bel (g7 c).2.1 hb, (g7 c).2.2⟩⟩
theorem Dk.fr {base b2 : Nat} {w w' : World} {d : Nat} {S : Sk} {s : Rf} {L : List Wl} (h : Dk w d base S s L) (k : Fr b2 w w') : Dk w' d base S s L := by
 obtain ⟨to, v, hto, X⟩ := h
 obtain ⟨M, hk, hM⟩ := k
 refine ⟨to, v, hto, X.le, Fr.blk ⟨M, hk, hM⟩ X.blk (by decide) (by decide) (by decide), X.row.kp hk ?_, X.new⟩
 intro j hj hm
 obtain ⟨-, cur, hc⟩ := X.row.lt j hj
 rcases (hM j hm).2 cur _ (show IsB w j cur 179 from hc) with e | e | e <;> exact absurd e (by decide)
theorem DvAt.fr {base b2 : Nat} {w w' : World} {d : Nat} {h : Int} {st : Rf} {K : Int} {T : Rv} {n : Nat} (hd : DvAt base w d h st K T n) (hb : Fr b2 w w') : DvAt base w' d h st K T n := by
 obtain ⟨q, uv, u, U, L, I, g1, X, g2, g3, g4, g5, g6, g7⟩ := hd
 exact ⟨q, uv, u, U, L, hb.blk I (by decide) (by decide) (by decide), g1, X.fr hb, g2, g3, g4, g5, g6, fun c => ⟨(g7 c).1, hb.blk (g7 c).2.1 (by decide) (by decide) (by decide), (g7 c).2.2⟩⟩
theorem DvAt.sz {base : Nat} {w : World} {d : Nat} {h : Int} {st : Rf} {K : Int} {T : Rv} {n : Nat} (hd : DvAt base w d h st K T n) : base ≤ w.heap.size ∧ d < w.heap.size := by
 obtain ⟨q, uv, u, U, L, I, g1, -⟩ := hd
 have := I.lt
 exact ⟨by omega, this⟩
theorem dOf_sought (h : Int) (st : Rf) (K : Int) (R : Rm) (hp : R.pl = 1) (e : Int) (r : Rf) (f : Bool) : (dOf h st K R).sought e r f = dOf h st K (R.sought e r f) := by
 unfold Dm.sought Rm.sought dOf
 split
 · simp [hp]
 · split
   · simp [hp]
   · simp [hp]
theorem sought_pl (R : Rm) (e : Int) (r : Rf) (f : Bool) : (R.sought e r f).pl = 2 ∨ (R.sought e r f).pl = 4 := by
 unfold Rm.sought
 split
 · exact Or.inr rfl
 · split
   · exact Or.inr rfl
   · exact Or.inl rfl
theorem dOf_leave (h : Int) (st : Rf) (K : Int) (R : Rm) (D : Dm) (x y : Int) (h3 : D = dOf h st K { R with pl := 3 }) : D.leave x y = dOf h st K (R.leave x y) := by
 subst h3
 unfold Dm.leave Rm.leave dOf
 by_cases c : umayC x y R.x R.oa R.oo = true
 · rw [if_pos c, if_pos c]
 · rw [if_neg c, if_neg c]
   simp
theorem leave_pl (R : Rm) (x y : Int) : ((R.leave x y).pl = 3 ∧ umayC x y R.x R.oa R.oo = true) ∨ (R.leave x y).pl = 4 := by
 unfold Rm.leave
 split
 · rename_i c; exact Or.inl ⟨rfl, c⟩
 · exact Or.inr rfl

set_option maxHeartbeats 2000000 in
set_option maxRecDepth 100000 in
theorem dv_next (base d : Nat) (h : Int) (st : Rf) (n : Nat) {K : Int} {T : Rv} {mk last : Int} (ti : TI K T mk last) (w : World) (X : DvAt base w d h st K T n) : Calls Tryz.prog 10 #[.pointer (some ⟨d, 0, none⟩)] w fun e' w' => e' = .returned (.agg T.step.toArray) ∧ Below w.heap.size w w' := by
 obtain ⟨q, uv, u, U, L, I, a1, X, a2, a3, a4, a5, a6, a7⟩ := X
 unfold Rv.step
 have g1 := ti.p1
 have g4 := ti.p4
 by_cases h1 : T.R.pl = 1
 · rw [if_pos h1]
   have e := a6 (by omega)
   subst e
   exact dmn_search d _ q base T.S st L (by simp [dOf, h1]) (by simp [dOf, h1]) w I X
 rw [if_neg h1]
 by_cases h2 : T.R.pl = 2
 · rw [if_pos h2]
   exact dmn_ask d (dOf h st K T.R) _ _ (by simp [dOf, h2]) (by simp [dOf, h2]) w I
 rw [if_neg h2]
 by_cases h3 : T.R.pl = 3
 · rw [if_pos h3]
   obtain ⟨e, XU, -, sm⟩ := a7 h3
   subst e
   rw [← sm.step]
   have hl := sm.ok.1
   have hr := sm.ok.2.1
   rw [← sm.pl] at hl hr
   exact dmn_lists d _ _ u U (by simp [dOf, h3]) (by simp [dOf, h3]) hl hr w I XU
 · rw [if_neg h3]
   exact dmn_over d (dOf h st K T.R) _ _ (by simp [dOf]; omega) w I

set_option maxHeartbeats 2000000 in
set_option maxRecDepth 100000 in
theorem dv_wake (base d : Nat) (h : Int) (st : Rf) (n : Nat) {K : Int} {T : Rv} {mk last : Int} (ti : TI K T mk last) (w : World) (X : DvAt base w d h st K T n) : Calls Tryz.prog 15 #[.pointer (some ⟨d, 0, none⟩)] w fun e' w' => e' = .returned (.tuple #[]) ∧ DvAt base w' d h st K (T.wake) n ∧ Fd base w w' := by
 obtain ⟨q, uv, u, U, L, I, a1, X, a2, a3, a4, a5, a6, a7⟩ := X
 have g1 := ti.p1
 have g4 := ti.p4
 unfold Rv.wake
 have same : ∀ {w1 : World}, w1 = w → DvAt base w1 d h st K T n ∧ Fd base w w1 := fun {w1} e => by
   subst e
   exact ⟨⟨q, uv, u, U, L, I, a1, X, a2, a3, a4, a5, a6, a7⟩, Fd.of_below (Below.refl _ _)⟩
 by_cases h3 : T.R.pl = 3
 · rw [if_pos h3]
   obtain ⟨e, XU, hbu, sm⟩ := a7 h3
   subst e
   refine (dmw_lists d _ _ u U (by simp [dOf, h3]) (by simp [dOf, h3]) w I XU).mono ?_
   rintro e1 w1 ⟨rfl, I1, X1, k1⟩
   refine ⟨rfl, ⟨q, _, u, U.dwake, L, I1, a1, X.kpb k1 XU, a2, a3, a4, a5, a6, fun _ => ⟨rfl, X1, hbu, sm.wake⟩⟩, Fd.of_kp k1 (fun k hk => ?_)⟩
   simp only [List.mem_singleton] at hk
   subst hk
   exact ⟨hbu, Or.inr ⟨_, XU⟩⟩
 rw [if_neg h3]
 by_cases h1 : T.R.pl = 1
 · have e := a6 (by omega)
   have I1 := I
   rw [e] at I1
   refine (dmw_none d _ _ (by simp [dOf, h1]) (by simp [dOf, h1]) w I1).mono ?_
   rintro e1 w1 ⟨rfl, hw⟩
   exact ⟨rfl, same hw⟩
 by_cases h2 : T.R.pl = 2
 · refine (dmw_ask d (dOf h st K T.R) _ _ (by simp [dOf, h2]) (by simp [dOf, h2]) w I).mono ?_
   rintro e1 w1 ⟨rfl, hw⟩
   exact ⟨rfl, same hw⟩
 · refine (dmw_over d (dOf h st K T.R) _ _ (by simp [dOf]; omega) w I).mono ?_
   rintro e1 w1 ⟨rfl, hw⟩
   exact ⟨rfl, same hw⟩

theorem Dk.kpb2 {w w' : World} {d base b u : Nat} {S : Sk} {s : Rf} {L : List Wl} {cs ds : Array Value} (h : Dk w d base S s L) (k : Kp [b, u] w w') (I : IsB w b cs 58) (J : IsB w u ds 102) : Dk w' d base S s L := by
 obtain ⟨to, v, hto, X⟩ := h
 refine ⟨to, v, hto, X.le, X.blk.kp k ?_, X.row.kp k ?_, X.new⟩
 · simp only [List.mem_cons, List.not_mem_nil, or_false, not_or]
   exact ⟨IsB.ne_t X.blk I (by decide), IsB.ne_t X.blk J (by decide)⟩
 · intro j hj hm
   simp only [List.mem_cons, List.not_mem_nil, or_false] at hm
   obtain ⟨-, cur, hc⟩ := X.row.lt j hj
   have Q : IsB w j cur 179 := hc
   rcases hm with e | e
   · exact IsB.ne_t Q I (by decide) e
   · exact IsB.ne_t Q J (by decide) e

set_option maxHeartbeats 2000000 in
set_option maxRecDepth 100000 in
theorem dv_tell1 (base d : Nat) (h : Int) (st : Rf) (n : Nat) {K : Int} {T : Rv} {mk last : Int} (ti : TI K T mk last) (a : An) (hnd : (T.ws.map (·.1)).Nodup) (hn : n ≤ 1000000) (h1 : T.R.pl = 1) (w : World) (X : DvAt base w d h st K T n) : Calls Tryz.prog 13 #[.pointer (some ⟨d, 0, none⟩), .agg (anL a).toArray] w fun e' w' => e' = .returned (.tuple #[]) ∧ DvAt base w' d h st K (T.tell a) (n + 1) ∧ Fd base w w' := by
 obtain ⟨q, uv, u, U, L, I, a1, X, a2, a3, a4, a5, a6, a7⟩ := X
 have e := a6 (by omega)
 subst e
 have P : Pre T.S L := ⟨a3, ti.so.wr, ti.so.w0, ti.so.n0, ti.so.n1, Nat.le_trans a4 hn, a5⟩
 have nd : (L.map fun x => x.pr.1).Nodup := by
   rw [a2, List.map_map] at hnd
   exact hnd
 have ht : T.tell a = ⟨T.R.went (T.S.tell T.ws a).1, (T.S.tell T.ws a).1, (T.S.tell T.ws a).2, T.U⟩ := if_pos h1
 rw [ht, a2]
 obtain ⟨z1, z2⟩ := tell_kz a5 (L.map Wl.pr) a
 have hlen : (T.S.tellL L a).length ≤ n + 1 := by have := tellL_len T.S L a; omega
 cases hov : (T.S.tell (L.map Wl.pr) a).1.ov
 · refine (dmt_search_on d q base _ T.S st L a (by simp [dOf, h1]) (by simp [dOf, h1]) P hov w I X).mono ?_
   rintro e1 w1 ⟨rfl, I1, X1, k1⟩
   have hw : T.R.went (T.S.tell (L.map Wl.pr) a).1 = T.R := if_neg (by rw [hov]; decide)
   exact ⟨rfl, ⟨q, _, u, U, T.S.tellL L a, by rw [hw]; exact I1, a1, X1, tell_wills nd, by rw [z1]; exact a3, hlen, z2, fun _ => rfl, fun c => by
     have c2 : T.R.pl = 3 := by rw [hw] at c; exact c
     omega⟩, Fd.of_kd k1⟩
 · refine (dmt_search_over d q base _ T.S st L a (by simp [dOf, h1]) (by simp [dOf, h1]) P hov w I X).mono ?_
   rintro e1 w1 ⟨rfl, I1, X1, w2, k1, k2⟩
   have hw : T.R.went (T.S.tell (L.map Wl.pr) a).1 = T.R.sought (T.S.tell (L.map Wl.pr) a).1.e (T.S.tell (L.map Wl.pr) a).1.rr (T.S.tell (L.map Wl.pr) a).1.fd := if_pos hov
   refine ⟨rfl, ⟨q, _, u, U, T.S.tellL L a, by rw [hw, ← dOf_sought h st K T.R h1]; exact I1, a1, X1, tell_wills nd, by rw [z1]; exact a3, hlen, z2, fun _ => rfl, fun c => by
     have c3 : (T.R.sought (T.S.tell (L.map Wl.pr) a).1.e (T.S.tell (L.map Wl.pr) a).1.rr (T.S.tell (L.map Wl.pr) a).1.fd).pl = 3 := by rw [hw] at c; exact c
     rcases sought_pl T.R (T.S.tell (L.map Wl.pr) a).1.e (T.S.tell (L.map Wl.pr) a).1.rr (T.S.tell (L.map Wl.pr) a).1.fd with c2 | c2 <;> omega⟩, (Fd.of_kd k1).tr (Fd.of_kp k2 (fun k hk => ?_))⟩
   simp only [List.mem_singleton] at hk
   subst hk
   exact ⟨a1, Or.inl ⟨_, I.kd k1 (by decide) (by decide)⟩⟩

set_option maxHeartbeats 2000000 in
set_option maxRecDepth 100000 in
theorem dv_tell2 (base d : Nat) (h : Int) (st : Rf) (n : Nat) {K : Int} {T : Rv} {mk last : Int} (ti : TI K T mk last) (a : An) (h2 : T.R.pl = 2) (w : World) (hbw : base ≤ w.heap.size) (X : DvAt base w d h st K T n) : Calls Tryz.prog 13 #[.pointer (some ⟨d, 0, none⟩), .agg (anL a).toArray] w fun e' w' => e' = .returned (.tuple #[]) ∧ DvAt base w' d h st K (T.tell a) n ∧ Fd base w w' := by
 obtain ⟨q, uv, u, U, L, I, a1, X, a2, a3, a4, a5, a6, a7⟩ := X
 have e := a6 (by omega)
 subst e
 have ht : T.tell a = ⟨T.R.hear a.k, T.S, T.ws, unewS T.R.x.ln T.R.x.bt T.R.x T.R.oa T.R.oo⟩ := by unfold Rv.tell; rw [if_neg (by omega), if_pos h2]
 rw [ht]
 unfold Rm.hear
 by_cases k1 : a.k = 1
 · rw [if_pos k1]
   refine (dmt_yes d (dOf h st K T.R) _ _ a (by simp [dOf, h2]) (by simp [dOf, h2]) k1 ti.xb w I).mono ?_
   rintro e1 w1 ⟨uv, p, rfl, I1, X1, hp, kk⟩
   rw [dOf_leave h st K { T.R with md := true } _ _ _ (by simp [dOf, h2])] at I1
   have X2 := X.kpb kk I
   rcases leave_pl { T.R with md := true } T.R.x.ln T.R.x.bt with ⟨c1, c2⟩ | c1
   · obtain ⟨e1, e2⟩ := X1 c2
     subst e1
     refine ⟨rfl, ⟨q, _, p, _, L, I1, a1, X2, a2, a3, a4, a5, fun c => absurd (show _ ≤ (2 : Int) from c) (by show ¬Rm.pl _ ≤ 2; rw [c1]; decide), fun _ => ⟨rfl, e2, Nat.le_trans hbw hp, Sim.new _ _ _ _ _⟩⟩, Fd.of_kp kk (fun k hk => ?_)⟩
     simp only [List.mem_singleton] at hk
     subst hk
     exact ⟨a1, Or.inl ⟨_, I⟩⟩
   · refine ⟨rfl, ⟨q, uv, p, U, L, I1, a1, X2, a2, a3, a4, a5, fun c => absurd (show _ ≤ (2 : Int) from c) (by show ¬Rm.pl _ ≤ 2; rw [c1]; decide), fun c => absurd (show _ = (3 : Int) from c) (by show ¬Rm.pl _ = 3; rw [c1]; decide)⟩, Fd.of_kp kk (fun k hk => ?_)⟩
     simp only [List.mem_singleton] at hk
     subst hk
     exact ⟨a1, Or.inl ⟨_, I⟩⟩
 rw [if_neg k1]
 by_cases k3 : a.k = 3
 · rw [if_pos k3]
   refine (dmt_dead d (dOf h st K T.R) _ _ a (by simp [dOf, h2]) (by simp [dOf, h2]) k3 w I).mono ?_
   rintro e1 w1 ⟨rfl, I1, kk⟩
   refine ⟨rfl, ⟨q, _, u, U, L, by simpa [dOf, h2] using I1, a1, X.kpb kk I, a2, a3, a4, a5, fun c => absurd (show (4 : Int) ≤ 2 from c) (by decide), fun c => absurd (show (4 : Int) = 3 from c) (by decide)⟩, Fd.of_kp kk (fun k hk => ?_)⟩
   simp only [List.mem_singleton] at hk
   subst hk
   exact ⟨a1, Or.inl ⟨_, I⟩⟩
 · rw [if_neg k3]
   refine (dmt_else d (dOf h st K T.R) _ _ a (by simp [dOf, h2]) (by simp [dOf, h2]) k1 k3 w I).mono ?_
   rintro e1 w1 ⟨rfl, I1, kk⟩
   refine ⟨rfl, ⟨q, _, u, U, L, by simpa [dOf, h2] using I1, a1, X.kpb kk I, a2, a3, a4, a5, fun c => absurd (show (4 : Int) ≤ 2 from c) (by decide), fun c => absurd (show (4 : Int) = 3 from c) (by decide)⟩, Fd.of_kp kk (fun k hk => ?_)⟩
   simp only [List.mem_singleton] at hk
   subst hk
   exact ⟨a1, Or.inl ⟨_, I⟩⟩

set_option maxHeartbeats 2000000 in
set_option maxRecDepth 100000 in
theorem dv_tell3 (base d : Nat) (h : Int) (st : Rf) (n : Nat) {K : Int} {T : Rv} {mk last : Int} (ti : TI K T mk last) (a : An) (h3 : T.R.pl = 3) (w : World) (hbw : base ≤ w.heap.size) (X : DvAt base w d h st K T n) : Calls Tryz.prog 13 #[.pointer (some ⟨d, 0, none⟩), .agg (anL a).toArray] w fun e' w' => e' = .returned (.tuple #[]) ∧ DvAt base w' d h st K (T.tell a) n ∧ Fd base w w' := by
 obtain ⟨q, uv, u, U, L, I, a1, X, a2, a3, a4, a5, a6, a7⟩ := X
 obtain ⟨e, XU, hbu, sm⟩ := a7 h3
 subst e
 have ht : T.tell a = ⟨T.R.wentU (T.U.tell a), T.S, T.ws, T.R.nextU (T.U.tell a)⟩ := by unfold Rv.tell; rw [if_neg (by omega), if_neg (by omega), if_pos h3]
 rw [ht]
 have hl := sm.ok.1
 have hr := sm.ok.2.1
 rw [← sm.pl] at hl hr
 have st2 := sm.tell a
 have iv := (ti.u h3).tell a
 have e1 : (U.dtell a).wl = T.R.ll := by rw [st2.eq]; exact iv.w1
 have e2 : (U.dtell a).wb = T.R.lb := by rw [st2.eq]; exact iv.w2
 have e3 : (U.dtell a).e = (T.U.tell a).e := by rw [st2.eq]
 have kpx : ∀ {w1 : World}, Kp [d, u] w w1 → Dk w1 q base T.S st L := fun {w1} kk => X.kpb2 kk I XU
 by_cases h10 : (T.U.tell a).pl = 10
 · have hw : T.R.wentU (T.U.tell a) = T.R.left (T.U.tell a).e := if_pos h10
   have hx : T.R.nextU (T.U.tell a) = _ := if_pos h10
   rw [hw, hx]
   refine (dmt_lists_end d u (dOf h st K T.R) _ U a (by simp [dOf, h3]) (by simp [dOf, h3]) hl hr (by rw [st2.pl]; exact h10) ti.xb (by rw [e1, e2]; exact (ti.rl h3).1) (by rw [e2]; exact (ti.rl h3).2) w I XU).mono ?_
   rintro e4 w1 ⟨uv, p, rfl, I1, X1, hp, kk⟩
   rw [e1, e2, e3] at X1
   unfold Dm.left at I1
   rw [e1, e2, e3] at I1
   unfold Rm.left
   by_cases c : (T.U.tell a).e ≠ 0 ∨ T.R.ll = 0
   · rw [if_pos c] at I1 ⊢
     refine ⟨rfl, ⟨q, uv, p, U, L, by simpa [dOf, h3] using I1, a1, kpx kk, a2, a3, a4, a5, fun c => absurd (show (4 : Int) ≤ 2 from c) (by decide), fun c => absurd (show (4 : Int) = 3 from c) (by decide)⟩, Fd.of_kp kk (fun k hk => ?_)⟩
     simp only [List.mem_cons, List.not_mem_nil, or_false] at hk
     rcases hk with rfl | rfl
     · exact ⟨a1, Or.inl ⟨_, I⟩⟩
     · exact ⟨hbu, Or.inr ⟨_, XU⟩⟩
   · rw [if_neg c] at I1 ⊢
     rw [dOf_leave h st K T.R _ _ _ (by rw [← h3])] at I1
     rcases leave_pl T.R (T.R.ll - 1) ((pre T.R.ll.toNat T.R.lb.toNat (T.R.ll - 1).toNat : Nat) : Int) with ⟨c1, c2⟩ | c1
     · obtain ⟨e5, e6⟩ := X1 (by omega) (by omega) c2
       subst e5
       refine ⟨rfl, ⟨q, _, p, _, L, I1, a1, kpx kk, a2, a3, a4, a5, fun c => absurd (show _ ≤ (2 : Int) from c) (by show ¬Rm.pl _ ≤ 2; rw [c1]; decide), fun _ => ⟨rfl, e6, Nat.le_trans hbw hp, Sim.new _ _ _ _ _⟩⟩, Fd.of_kp kk (fun k hk => ?_)⟩
       simp only [List.mem_cons, List.not_mem_nil, or_false] at hk
       rcases hk with rfl | rfl
       · exact ⟨a1, Or.inl ⟨_, I⟩⟩
       · exact ⟨hbu, Or.inr ⟨_, XU⟩⟩
     · refine ⟨rfl, ⟨q, uv, p, U, L, I1, a1, kpx kk, a2, a3, a4, a5, fun c => absurd (show _ ≤ (2 : Int) from c) (by show ¬Rm.pl _ ≤ 2; rw [c1]; decide), fun c => absurd (show _ = (3 : Int) from c) (by show ¬Rm.pl _ = 3; rw [c1]; decide)⟩, Fd.of_kp kk (fun k hk => ?_)⟩
       simp only [List.mem_cons, List.not_mem_nil, or_false] at hk
       rcases hk with rfl | rfl
       · exact ⟨a1, Or.inl ⟨_, I⟩⟩
       · exact ⟨hbu, Or.inr ⟨_, XU⟩⟩
 · have hw : T.R.wentU (T.U.tell a) = T.R := if_neg h10
   have hx : T.R.nextU (T.U.tell a) = T.U.tell a := if_neg h10
   rw [hw, hx]
   refine (dmt_lists_on d u (dOf h st K T.R) _ U a (by simp [dOf, h3]) (by simp [dOf, h3]) hl hr (by rw [st2.pl]; exact h10) w I XU).mono ?_
   rintro e4 w1 ⟨rfl, I1, X1, kk⟩
   refine ⟨rfl, ⟨q, _, u, _, L, I1, a1, kpx kk, a2, a3, a4, a5, a6, fun _ => ⟨rfl, X1, hbu, st2⟩⟩, Fd.of_kp kk (fun k hk => ?_)⟩
   simp only [List.mem_cons, List.not_mem_nil, or_false] at hk
   rcases hk with rfl | rfl
   · exact ⟨a1, Or.inl ⟨_, I⟩⟩
   · exact ⟨hbu, Or.inr ⟨_, XU⟩⟩

set_option maxHeartbeats 2000000 in
set_option maxRecDepth 100000 in
theorem dv_tell (base d : Nat) (h : Int) (st : Rf) (n : Nat) {K : Int} {T : Rv} {mk last : Int} (ti : TI K T mk last) (a : An) (hnd : (T.ws.map (·.1)).Nodup) (hn : n ≤ 1000000) (w : World) (hbw : base ≤ w.heap.size) (X : DvAt base w d h st K T n) : Calls Tryz.prog 13 #[.pointer (some ⟨d, 0, none⟩), .agg (anL a).toArray] w fun e' w' => e' = .returned (.tuple #[]) ∧ DvAt base w' d h st K (T.tell a) (n + 1) ∧ Fd base w w' := by
 have g1 := ti.p1
 have g4 := ti.p4
 have up : ∀ {w1 : World}, DvAt base w1 d h st K (T.tell a) n → DvAt base w1 d h st K (T.tell a) (n + 1) := fun {w1} hd => by
   obtain ⟨q, uv, u, U, L, b0, b1, b2, b3, b4, b5, b6⟩ := hd
   exact ⟨q, uv, u, U, L, b0, b1, b2, b3, b4, by omega, b6⟩
 by_cases h1 : T.R.pl = 1
 · exact dv_tell1 base d h st n ti a hnd hn h1 w X
 by_cases h2 : T.R.pl = 2
 · exact (dv_tell2 base d h st n ti a h2 w hbw X).mono (fun e w1 hq => ⟨hq.1, up hq.2.1, hq.2.2⟩)
 by_cases h3 : T.R.pl = 3
 · exact (dv_tell3 base d h st n ti a h3 w hbw X).mono (fun e w1 hq => ⟨hq.1, up hq.2.1, hq.2.2⟩)
 have ht : T.tell a = T := by unfold Rv.tell; rw [if_neg h1, if_neg h2, if_neg h3]
 have X0 := X
 obtain ⟨q, uv, u, U, L, I, a1, -⟩ := X
 refine (dmt_over d (dOf h st K T.R) _ _ a (by simp [dOf]; omega) w I).mono ?_
 rintro e1 w1 ⟨rfl, hb⟩
 exact ⟨rfl, up (by rw [ht]; exact X0.below hb), Fd.of_below hb⟩

theorem TI.wake {K : Int} {T : Rv} {mk last : Int} (h : TI K T mk last) : TI K T.wake mk last := by
 unfold Rv.wake
 split
 · rename_i hp
   refine ⟨h.p1, h.p4, h.so, h.sk, h.ov, h.xb, h.k2, h.m0, h.l9, h.md, fun _ => (h.u hp).wake, fun _ => ?_, h.lt, h.rl⟩
   show T.U.wake.pl ≠ 10
   unfold Us.wake
   split
   · show (1 : Int) ≠ 10; decide
   · exact h.n10 hp
 · exact h
theorem TI.tell {K : Int} {T : Rv} {mk last : Int} (h : TI K T mk last) (a : An) (ha : AOk a) (hb : ABt a) : ∃ mk2 last2, TI K (T.tell a) mk2 last2 := by
 by_cases h3 : T.R.pl = 3
 · exact ⟨mk, T.R.ll, (h.tellU h3 a T.R.ll (Int.le_refl _) ⟨(h.u h3).tell a, rfl⟩).1⟩
 · have hw : T.wake = T := if_neg h3
   obtain ⟨k, r, q, x, y, tl, -, -, -, tn⟩ := turn h
   cases tn with
   | idle k r q x hk hh hw2 ht => rw [hw] at ht; exact ⟨_, _, (ht a ha hb).1⟩
   | read r x ht => exact ⟨_, _, (ht a ha hb).1⟩
   | mark r x h0 h2 hK ht => exact ⟨_, _, (ht a ha hb).1⟩
   | lock r x hm ht => exact ⟨_, _, (ht a ha hb).1⟩
   | put r q x hq hm ht => exact ⟨_, _, (ht a ha hb).1⟩
   | out r x hm hx ht => exact ⟨_, _, (ht a ha hb).1⟩
   | free r x ht => exact ⟨_, _, (ht a ha hb).1⟩
theorem step_gs {K : Int} {T : Rv} {mk last : Int} (h : TI K T mk last) : ∃ k r q x y r1 r2 oa oo e l r3 f, T.step = gsL k r q x y r1 r2 oa oo e l r3 f := by
 unfold Rv.step
 split
 · unfold Sk.step
   split
   · exact ⟨_, _, _, _, _, _, _, _, _, _, _, _, _, sp_gs _ _ _ _ _ _ _ _ _⟩
   · exact ⟨_, _, _, _, _, _, _, _, _, _, _, _, _, sp_gs _ _ _ _ _ _ _ _ _⟩
 · split
   · exact ⟨_, _, _, _, _, _, _, _, _, _, _, _, _, sp_gs _ _ _ _ _ _ _ _ _⟩
   · split
     · rename_i hp
       obtain ⟨k, r, q, x, y, r1, r2, oa, oo, e, l, r3, hs, -⟩ := T.U.step_is (h.u hp).ok.1 (h.u hp).ok.2.1
       exact ⟨k, r, q, x, y, r1, r2, oa, oo, e, l, r3, false, hs⟩
     · exact ⟨_, _, _, _, _, _, _, _, _, _, _, _, _, sp_gs _ _ _ _ _ _ _ _ _⟩

set_option maxHeartbeats 2000000 in
set_option maxRecDepth 100000 in
theorem dv_mark (base d : Nat) (h : Int) (st : Rf) (n : Nat) (K : Int) (T : Rv) (w : World) (X : DvAt base w d h st K T n) : w.cell? ⟨d, 16, none⟩ = some (.bool T.R.md) := by
 obtain ⟨q, uv, u, U, L, I, -⟩ := X
 exact mc_md I

end Go.Proofs.YtokehogcenjefaaGreatDoor

/- RemoveRuns walked. -/
namespace Go.Proofs.YtokehogcenjefaaGreatDoor
open Go.RowKit Go.Maps Go.ChangeMaps

theorem rn_s (w : World) : (binOp .eql 36 (.pointer none) (.pointer none)).run Tryz.prog w = .ok (.bool true) w := by kernel_rfl
theorem rn_e (a : Addr) (w : World) : (binOp .eql 36 (.pointer (some a)) (.pointer none)).run Tryz.prog w = .ok (.bool false) w := by kernel_rfl
theorem dn_s (w : World) : (binOp .eql 40 (.pointer none) (.pointer none)).run Tryz.prog w = .ok (.bool true) w := by kernel_rfl
theorem dn_e (a : Addr) (w : World) : (binOp .eql 40 (.pointer (some a)) (.pointer none)).run Tryz.prog w = .ok (.bool false) w := by kernel_rfl
theorem dn_n (w : World) : (binOp .neq 40 (.pointer none) (.pointer none)).run Tryz.prog w = .ok (.bool false) w := by kernel_rfl
theorem dn_m (a : Addr) (w : World) : (binOp .neq 40 (.pointer (some a)) (.pointer none)).run Tryz.prog w = .ok (.bool true) w := by kernel_rfl
theorem ld_rconf {w : World} {b : Nat} {h : Int} {st : Rf} {k oa oo : Int} (I : IsB w b (rcL h st k oa oo).toArray 33) : (Instr.loadAt 33 (.pointer (some ⟨b, 0, none⟩))).run Tryz.prog w = .ok (.agg (rcL h st k oa oo).toArray) w := load_mid I 0 _ (rcL h st k oa oo) _ rfl Tryz.underlying33 rfl (by kernel_rfl)
theorem sameStep_T {K : Int} {T : Rv} {mk last : Int} (h : TI K T mk last) (w : World) : Calls Tryz.prog 8 #[.agg T.step.toArray, .agg T.step.toArray] w fun e' w' => e' = .returned (.bool true) ∧ Below w.heap.size w w' := by
 obtain ⟨k, r, q, x, y, r1, r2, oa, oo, e, l, r3, f, hs⟩ := step_gs h
 rw [hs]
 exact sameStep_g k r q x y r1 r2 oa oo e l r3 f w

set_option maxHeartbeats 2000000 in
set_option maxRecDepth 100000 in
theorem rruns_bad (h : Int) (st : Rf) (k oa oo : Int) (v : Value) (l : List An) (u : Int) (hb0 : 0 ≤ st.bt) (hm : mayC h st 2 k = false) (w : World) (hR : Ranks w) (hO : AnSl w v l) : Calls Tryz.prog 3 #[.agg (rcL h st k oa oo).toArray, v, .int .u64 u] w fun e w' => e = .returned (.bool true) ∧ Below w.heap.size w w' := by
 obtain ⟨va, vc, rfl, -, -⟩ := hO.shape
 have mixed : Tryz.prog.follows .mixedOrders = true := by kernel_rfl
 clear hO
 generalize hn : l.length = n at *
 clear hn
 have b1 := gb1 w (.cells (rcL h st k oa oo).toArray 33)
 have CB := hide (IsB.new w (rcL h st k oa oo).toArray 33)
 have HR := hide (hR.below b1)
 have B := hide b1
 clear b1 hR
 go_enter Tryz.func3, Tryz.ntmps3
 go_wp2_with fail
 refine (rawake_any _ HR.out).mono ?_
 rintro e w0 ⟨rfl, hb⟩
 replace CB := hide (CB.out.below hb)
 replace HR := hide (HR.out.below hb)
 replace B := hide (B.out.trans (hb.mono B.out.size))
 clear hb
 have L0 := hide (ld_rconf CB.out)
 have NB := hide (rnew_bad h st k oa oo hb0 hm w0 HR.out)
 go_wp2_with (first | (focus ((with_reducible refine wpList_load_w ?_ 33 (.tmp 3) ?_ ?_ L0.out ?_); rotate_left; rfl; rfl; rotate_left; rfl)))
 refine NB.out.mono ?_
 rintro e w2 ⟨rfl, hb⟩
 replace CB := hide (CB.out.below hb)
 replace B := hide (B.out.trans (hb.mono B.out.size))
 clear hb NB L0 HR
 have L0 := hide (ld_rconf CB.out)
 have RB := hide (dmnew_bad h st k oa oo hm w2)
 clear hm
 go_wp2_with (first | (focus ((with_reducible refine wpList_load_w ?_ 33 (.tmp 3) ?_ ?_ L0.out ?_); rotate_left; rfl; rfl; rotate_left; rfl)))
 refine RB.out.mono ?_
 rintro e w3 ⟨rfl, hb⟩
 replace B := hide (B.out.trans (hb.mono B.out.size))
 clear hb RB L0 CB
 have n1 := rn_s w3
 have n2 := dn_s w3
 go_wp2_with fail
 clear n1 n2
 go_loopw [11] (fun v11 wr => v11 = .int .i64 0 ∧ Hid (Below w.heap.size w wr)) (fun _ _ => 0)
 case atStart => exact ⟨rfl, B⟩
 case round =>
   clear B
   obtain ⟨rfl, B⟩ := hrel
   have n2 := dn_s wr
   have n3 := dn_n wr
   have m2 := dn_s wr.drew
   by_cases h0 : 0 < n
   · have i1 : (0 : Int) < n := by omega
     have d1 : decide ((0 : Int) < n) = true := decide_eq_true i1
     have d2 : decide (0 < n) = true := decide_eq_true h0
     go_wp2_with fail
     have B2 := hide B.out.drew
     refine regionL 19 (fun _ => True) mixed trivial (fun hHeld => ?_)
     generalize wr.drew = WD at *
     refine pkA (v := ?_) 0 (some 86) rfl rfl ?_ (by assumption) ?_
     rotate_left
     · intro w'
       go_simp
       try with_reducible rfl
     try simp only [Act.put, zqa, zqb, zqc]
     refine pkA (v := .bool true) 1 (some 87) rfl rfl ?_ (by assumption) ?_
     · intro w'
       go_simp
       try rfl
     try simp only [Act.put, zqa, zqb, zqc]
     refine pkA (v := ?_) 2 (some 88) rfl rfl ?_ (by assumption) ?_
     rotate_left
     · intro w'
       go_simp
       try with_reducible rfl
     try simp only [Act.put, zqa, zqb, zqc]
     refine pickN 3 (some 89) rfl rfl (by kernel_rfl) (by kernel_rfl) (by kernel_rfl) (by decide) (fun _ _ _ h => h) (by rfl) (by assumption) ?_
     try simp only [Act.put, zqa, zqb, zqc]
     refine pickN 4 (some 90) rfl rfl (by kernel_rfl) (by kernel_rfl) (by kernel_rfl) (by decide) (fun _ _ _ h => h) (by rfl) (by assumption) ?_
     try simp only [Act.put, zqa, zqb, zqc]
     refine pickN 5 (some 91) rfl rfl (by kernel_rfl) (by kernel_rfl) (by kernel_rfl) (by decide) (fun _ _ _ h => h) (by rfl) (by assumption) ?_
     try simp only [Act.put, zqa, zqb, zqc]
     refine pickN 6 (some 92) rfl rfl (by kernel_rfl) (by kernel_rfl) (by kernel_rfl) (by decide) (fun _ _ _ h => h) (by rfl) (by assumption) ?_
     try simp only [Act.put, zqa, zqb, zqc]
     refine pickN 7 (some 93) rfl rfl (by kernel_rfl) (by kernel_rfl) (by kernel_rfl) (by decide) (fun _ _ _ h => h) (by rfl) (by assumption) ?_
     try simp only [Act.put, zqa, zqb, zqc]
     refine pickN 8 (some 94) rfl rfl (by kernel_rfl) (by kernel_rfl) (by kernel_rfl) (by decide) (fun _ _ _ h => h) (by rfl) (by assumption) ?_
     try simp only [Act.put, zqa, zqb, zqc]
     refine pickN 9 (some 95) rfl rfl (by kernel_rfl) (by kernel_rfl) (by kernel_rfl) (by decide) (fun _ _ _ h => h) (by rfl) (by assumption) ?_
     try simp only [Act.put, zqa, zqb, zqc]
     refine pickN 10 (some 96) rfl rfl (by kernel_rfl) (by kernel_rfl) (by kernel_rfl) (by decide) (fun _ _ _ h => h) (by rfl) (by assumption) ?_
     try simp only [Act.put, zqa, zqb, zqc]
     refine pickN 11 (some 97) rfl rfl (by kernel_rfl) (by kernel_rfl) (by kernel_rfl) (by decide) (fun _ _ _ h => h) (by rfl) (by assumption) ?_
     try simp only [Act.put, zqa, zqb, zqc]
     refine pickN 12 (some 98) rfl rfl (by kernel_rfl) (by kernel_rfl) (by kernel_rfl) (by decide) (fun _ _ _ h => h) (by rfl) (by assumption) ?_
     try simp only [Act.put, zqa, zqb, zqc]
     refine pickN 13 (some 99) rfl rfl (by kernel_rfl) (by kernel_rfl) (by kernel_rfl) (by decide) (fun _ _ _ h => h) (by rfl) (by assumption) ?_
     try simp only [Act.put, zqa, zqb, zqc]
     refine pickN 14 (some 100) rfl rfl (by kernel_rfl) (by kernel_rfl) (by kernel_rfl) (by decide) (fun _ _ _ h => h) (by rfl) (by assumption) ?_
     try simp only [Act.put, zqa, zqb, zqc]
     refine pickN 15 (some 101) rfl rfl (by kernel_rfl) (by kernel_rfl) (by kernel_rfl) (by decide) (fun _ _ _ h => h) (by rfl) (by assumption) ?_
     try simp only [Act.put, zqa, zqb, zqc]
     refine pickN 16 (some 102) rfl rfl (by kernel_rfl) (by kernel_rfl) (by kernel_rfl) (by decide) (fun _ _ _ h => h) (by rfl) (by assumption) ?_
     try simp only [Act.put, zqa, zqb, zqc]
     refine pkA (v := ?_) 17 (some 103) rfl rfl ?_ (by assumption) ?_
     rotate_left
     · intro w'
       go_simp
       try with_reducible rfl
     try simp only [Act.put, zqa, zqb, zqc]
     refine pkA (v := ?_) 18 (some 6) rfl rfl ?_ (by assumption) ?_
     rotate_left
     · intro w'
       go_simp
       try with_reducible rfl
     try simp only [Act.put, zqa, zqb, zqc]
     refine doneL (by kernel_rfl) ?_ _
     clear hHeld
     go_wp2
     go_ret
     exact ⟨rfl, B2.out⟩
   · obtain rfl : n = 0 := by omega
     go_wp2_with fail
     have B2 := hide B.out.drew
     refine regionL 19 (fun _ => True) mixed trivial (fun hHeld => ?_)
     generalize wr.drew = WD at *
     refine pkA (v := ?_) 0 (some 86) rfl rfl ?_ (by assumption) ?_
     rotate_left
     · intro w'
       go_simp
       try with_reducible rfl
     try simp only [Act.put, zqa, zqb, zqc]
     refine pkA (v := .bool true) 1 (some 87) rfl rfl ?_ (by assumption) ?_
     · intro w'
       go_simp
       try rfl
     try simp only [Act.put, zqa, zqb, zqc]
     refine pkA (v := ?_) 2 (some 88) rfl rfl ?_ (by assumption) ?_
     rotate_left
     · intro w'
       go_simp
       try with_reducible rfl
     try simp only [Act.put, zqa, zqb, zqc]
     refine pickN 3 (some 89) rfl rfl (by kernel_rfl) (by kernel_rfl) (by kernel_rfl) (by decide) (fun _ _ _ h => h) (by rfl) (by assumption) ?_
     try simp only [Act.put, zqa, zqb, zqc]
     refine pickN 4 (some 90) rfl rfl (by kernel_rfl) (by kernel_rfl) (by kernel_rfl) (by decide) (fun _ _ _ h => h) (by rfl) (by assumption) ?_
     try simp only [Act.put, zqa, zqb, zqc]
     refine pickN 5 (some 91) rfl rfl (by kernel_rfl) (by kernel_rfl) (by kernel_rfl) (by decide) (fun _ _ _ h => h) (by rfl) (by assumption) ?_
     try simp only [Act.put, zqa, zqb, zqc]
     refine pickN 6 (some 92) rfl rfl (by kernel_rfl) (by kernel_rfl) (by kernel_rfl) (by decide) (fun _ _ _ h => h) (by rfl) (by assumption) ?_
     try simp only [Act.put, zqa, zqb, zqc]
     refine pickN 7 (some 93) rfl rfl (by kernel_rfl) (by kernel_rfl) (by kernel_rfl) (by decide) (fun _ _ _ h => h) (by rfl) (by assumption) ?_
     try simp only [Act.put, zqa, zqb, zqc]
     refine pickN 8 (some 94) rfl rfl (by kernel_rfl) (by kernel_rfl) (by kernel_rfl) (by decide) (fun _ _ _ h => h) (by rfl) (by assumption) ?_
     try simp only [Act.put, zqa, zqb, zqc]
     refine pickN 9 (some 95) rfl rfl (by kernel_rfl) (by kernel_rfl) (by kernel_rfl) (by decide) (fun _ _ _ h => h) (by rfl) (by assumption) ?_
     try simp only [Act.put, zqa, zqb, zqc]
     refine pickN 10 (some 96) rfl rfl (by kernel_rfl) (by kernel_rfl) (by kernel_rfl) (by decide) (fun _ _ _ h => h) (by rfl) (by assumption) ?_
     try simp only [Act.put, zqa, zqb, zqc]
     refine pickN 11 (some 97) rfl rfl (by kernel_rfl) (by kernel_rfl) (by kernel_rfl) (by decide) (fun _ _ _ h => h) (by rfl) (by assumption) ?_
     try simp only [Act.put, zqa, zqb, zqc]
     refine pickN 12 (some 98) rfl rfl (by kernel_rfl) (by kernel_rfl) (by kernel_rfl) (by decide) (fun _ _ _ h => h) (by rfl) (by assumption) ?_
     try simp only [Act.put, zqa, zqb, zqc]
     refine pickN 13 (some 99) rfl rfl (by kernel_rfl) (by kernel_rfl) (by kernel_rfl) (by decide) (fun _ _ _ h => h) (by rfl) (by assumption) ?_
     try simp only [Act.put, zqa, zqb, zqc]
     refine pickN 14 (some 100) rfl rfl (by kernel_rfl) (by kernel_rfl) (by kernel_rfl) (by decide) (fun _ _ _ h => h) (by rfl) (by assumption) ?_
     try simp only [Act.put, zqa, zqb, zqc]
     refine pickN 15 (some 101) rfl rfl (by kernel_rfl) (by kernel_rfl) (by kernel_rfl) (by decide) (fun _ _ _ h => h) (by rfl) (by assumption) ?_
     try simp only [Act.put, zqa, zqb, zqc]
     refine pickN 16 (some 102) rfl rfl (by kernel_rfl) (by kernel_rfl) (by kernel_rfl) (by decide) (fun _ _ _ h => h) (by rfl) (by assumption) ?_
     try simp only [Act.put, zqa, zqb, zqc]
     refine pkA (v := ?_) 17 (some 103) rfl rfl ?_ (by assumption) ?_
     rotate_left
     · intro w'
       go_simp
       try with_reducible rfl
     try simp only [Act.put, zqa, zqb, zqc]
     refine pkA (v := ?_) 18 (some 6) rfl rfl ?_ (by assumption) ?_
     rotate_left
     · intro w'
       go_simp
       try with_reducible rfl
     try simp only [Act.put, zqa, zqb, zqc]
     refine doneL (by kernel_rfl) ?_ _
     clear hHeld
     go_wp2
     go_ret
     exact ⟨rfl, B2.out⟩

set_option maxHeartbeats 2000000 in
set_option maxRecDepth 100000 in
theorem rruns_own (h : Int) (st : Rf) (k oa oo : Int) (v : Value) (l : List An) (u : Int) (hb0 : 0 ≤ st.bt) (hm : mayC h st 2 k = true) (ho : okO oa oo = false) (w : World) (hR : Ranks w) (hO : AnSl w v l) : Calls Tryz.prog 3 #[.agg (rcL h st k oa oo).toArray, v, .int .u64 u] w fun e w' => e = .returned (.bool true) ∧ Below w.heap.size w w' := by
 obtain ⟨va, vc, rfl, -, -⟩ := hO.shape
 have mixed : Tryz.prog.follows .mixedOrders = true := by kernel_rfl
 clear hO
 generalize hn : l.length = n at *
 clear hn
 have b1 := gb1 w (.cells (rcL h st k oa oo).toArray 33)
 have CB := hide (IsB.new w (rcL h st k oa oo).toArray 33)
 have HR := hide (hR.below b1)
 have B := hide b1
 clear b1 hR
 go_enter Tryz.func3, Tryz.ntmps3
 go_wp2_with fail
 refine (rawake_any _ HR.out).mono ?_
 rintro e w0 ⟨rfl, hb⟩
 replace CB := hide (CB.out.below hb)
 replace HR := hide (HR.out.below hb)
 replace B := hide (B.out.trans (hb.mono B.out.size))
 clear hb
 have L0 := hide (ld_rconf CB.out)
 have NB := hide (rnew_own h st k oa oo hb0 hm ho w0 HR.out)
 go_wp2_with (first | (focus ((with_reducible refine wpList_load_w ?_ 33 (.tmp 3) ?_ ?_ L0.out ?_); rotate_left; rfl; rfl; rotate_left; rfl)))
 refine NB.out.mono ?_
 rintro e w2 ⟨rfl, hb⟩
 replace CB := hide (CB.out.below hb)
 replace B := hide (B.out.trans (hb.mono B.out.size))
 clear hb NB L0 HR
 have L0 := hide (ld_rconf CB.out)
 have RB := hide (dmnew_own h st k oa oo hm ho w2)
 clear hm
 go_wp2_with (first | (focus ((with_reducible refine wpList_load_w ?_ 33 (.tmp 3) ?_ ?_ L0.out ?_); rotate_left; rfl; rfl; rotate_left; rfl)))
 refine RB.out.mono ?_
 rintro e w3 ⟨rfl, hb⟩
 replace B := hide (B.out.trans (hb.mono B.out.size))
 clear hb RB L0 CB
 have n1 := rn_s w3
 have n2 := dn_s w3
 go_wp2_with fail
 clear n1 n2
 go_loopw [11] (fun v11 wr => v11 = .int .i64 0 ∧ Hid (Below w.heap.size w wr)) (fun _ _ => 0)
 case atStart => exact ⟨rfl, B⟩
 case round =>
   clear B
   obtain ⟨rfl, B⟩ := hrel
   have n2 := dn_s wr
   have n3 := dn_n wr
   have m2 := dn_s wr.drew
   by_cases h0 : 0 < n
   · have i1 : (0 : Int) < n := by omega
     have d1 : decide ((0 : Int) < n) = true := decide_eq_true i1
     have d2 : decide (0 < n) = true := decide_eq_true h0
     go_wp2_with fail
     have B2 := hide B.out.drew
     refine regionL 19 (fun _ => True) mixed trivial (fun hHeld => ?_)
     generalize wr.drew = WD at *
     refine pkA (v := ?_) 0 (some 86) rfl rfl ?_ (by assumption) ?_
     rotate_left
     · intro w'
       go_simp
       try with_reducible rfl
     try simp only [Act.put, zqa, zqb, zqc]
     refine pkA (v := .bool true) 1 (some 87) rfl rfl ?_ (by assumption) ?_
     · intro w'
       go_simp
       try rfl
     try simp only [Act.put, zqa, zqb, zqc]
     refine pkA (v := ?_) 2 (some 88) rfl rfl ?_ (by assumption) ?_
     rotate_left
     · intro w'
       go_simp
       try with_reducible rfl
     try simp only [Act.put, zqa, zqb, zqc]
     refine pickN 3 (some 89) rfl rfl (by kernel_rfl) (by kernel_rfl) (by kernel_rfl) (by decide) (fun _ _ _ h => h) (by rfl) (by assumption) ?_
     try simp only [Act.put, zqa, zqb, zqc]
     refine pickN 4 (some 90) rfl rfl (by kernel_rfl) (by kernel_rfl) (by kernel_rfl) (by decide) (fun _ _ _ h => h) (by rfl) (by assumption) ?_
     try simp only [Act.put, zqa, zqb, zqc]
     refine pickN 5 (some 91) rfl rfl (by kernel_rfl) (by kernel_rfl) (by kernel_rfl) (by decide) (fun _ _ _ h => h) (by rfl) (by assumption) ?_
     try simp only [Act.put, zqa, zqb, zqc]
     refine pickN 6 (some 92) rfl rfl (by kernel_rfl) (by kernel_rfl) (by kernel_rfl) (by decide) (fun _ _ _ h => h) (by rfl) (by assumption) ?_
     try simp only [Act.put, zqa, zqb, zqc]
     refine pickN 7 (some 93) rfl rfl (by kernel_rfl) (by kernel_rfl) (by kernel_rfl) (by decide) (fun _ _ _ h => h) (by rfl) (by assumption) ?_
     try simp only [Act.put, zqa, zqb, zqc]
     refine pickN 8 (some 94) rfl rfl (by kernel_rfl) (by kernel_rfl) (by kernel_rfl) (by decide) (fun _ _ _ h => h) (by rfl) (by assumption) ?_
     try simp only [Act.put, zqa, zqb, zqc]
     refine pickN 9 (some 95) rfl rfl (by kernel_rfl) (by kernel_rfl) (by kernel_rfl) (by decide) (fun _ _ _ h => h) (by rfl) (by assumption) ?_
     try simp only [Act.put, zqa, zqb, zqc]
     refine pickN 10 (some 96) rfl rfl (by kernel_rfl) (by kernel_rfl) (by kernel_rfl) (by decide) (fun _ _ _ h => h) (by rfl) (by assumption) ?_
     try simp only [Act.put, zqa, zqb, zqc]
     refine pickN 11 (some 97) rfl rfl (by kernel_rfl) (by kernel_rfl) (by kernel_rfl) (by decide) (fun _ _ _ h => h) (by rfl) (by assumption) ?_
     try simp only [Act.put, zqa, zqb, zqc]
     refine pickN 12 (some 98) rfl rfl (by kernel_rfl) (by kernel_rfl) (by kernel_rfl) (by decide) (fun _ _ _ h => h) (by rfl) (by assumption) ?_
     try simp only [Act.put, zqa, zqb, zqc]
     refine pickN 13 (some 99) rfl rfl (by kernel_rfl) (by kernel_rfl) (by kernel_rfl) (by decide) (fun _ _ _ h => h) (by rfl) (by assumption) ?_
     try simp only [Act.put, zqa, zqb, zqc]
     refine pickN 14 (some 100) rfl rfl (by kernel_rfl) (by kernel_rfl) (by kernel_rfl) (by decide) (fun _ _ _ h => h) (by rfl) (by assumption) ?_
     try simp only [Act.put, zqa, zqb, zqc]
     refine pickN 15 (some 101) rfl rfl (by kernel_rfl) (by kernel_rfl) (by kernel_rfl) (by decide) (fun _ _ _ h => h) (by rfl) (by assumption) ?_
     try simp only [Act.put, zqa, zqb, zqc]
     refine pickN 16 (some 102) rfl rfl (by kernel_rfl) (by kernel_rfl) (by kernel_rfl) (by decide) (fun _ _ _ h => h) (by rfl) (by assumption) ?_
     try simp only [Act.put, zqa, zqb, zqc]
     refine pkA (v := ?_) 17 (some 103) rfl rfl ?_ (by assumption) ?_
     rotate_left
     · intro w'
       go_simp
       try with_reducible rfl
     try simp only [Act.put, zqa, zqb, zqc]
     refine pkA (v := ?_) 18 (some 6) rfl rfl ?_ (by assumption) ?_
     rotate_left
     · intro w'
       go_simp
       try with_reducible rfl
     try simp only [Act.put, zqa, zqb, zqc]
     refine doneL (by kernel_rfl) ?_ _
     clear hHeld
     go_wp2
     go_ret
     exact ⟨rfl, B2.out⟩
   · obtain rfl : n = 0 := by omega
     go_wp2_with fail
     have B2 := hide B.out.drew
     refine regionL 19 (fun _ => True) mixed trivial (fun hHeld => ?_)
     generalize wr.drew = WD at *
     refine pkA (v := ?_) 0 (some 86) rfl rfl ?_ (by assumption) ?_
     rotate_left
     · intro w'
       go_simp
       try with_reducible rfl
     try simp only [Act.put, zqa, zqb, zqc]
     refine pkA (v := .bool true) 1 (some 87) rfl rfl ?_ (by assumption) ?_
     · intro w'
       go_simp
       try rfl
     try simp only [Act.put, zqa, zqb, zqc]
     refine pkA (v := ?_) 2 (some 88) rfl rfl ?_ (by assumption) ?_
     rotate_left
     · intro w'
       go_simp
       try with_reducible rfl
     try simp only [Act.put, zqa, zqb, zqc]
     refine pickN 3 (some 89) rfl rfl (by kernel_rfl) (by kernel_rfl) (by kernel_rfl) (by decide) (fun _ _ _ h => h) (by rfl) (by assumption) ?_
     try simp only [Act.put, zqa, zqb, zqc]
     refine pickN 4 (some 90) rfl rfl (by kernel_rfl) (by kernel_rfl) (by kernel_rfl) (by decide) (fun _ _ _ h => h) (by rfl) (by assumption) ?_
     try simp only [Act.put, zqa, zqb, zqc]
     refine pickN 5 (some 91) rfl rfl (by kernel_rfl) (by kernel_rfl) (by kernel_rfl) (by decide) (fun _ _ _ h => h) (by rfl) (by assumption) ?_
     try simp only [Act.put, zqa, zqb, zqc]
     refine pickN 6 (some 92) rfl rfl (by kernel_rfl) (by kernel_rfl) (by kernel_rfl) (by decide) (fun _ _ _ h => h) (by rfl) (by assumption) ?_
     try simp only [Act.put, zqa, zqb, zqc]
     refine pickN 7 (some 93) rfl rfl (by kernel_rfl) (by kernel_rfl) (by kernel_rfl) (by decide) (fun _ _ _ h => h) (by rfl) (by assumption) ?_
     try simp only [Act.put, zqa, zqb, zqc]
     refine pickN 8 (some 94) rfl rfl (by kernel_rfl) (by kernel_rfl) (by kernel_rfl) (by decide) (fun _ _ _ h => h) (by rfl) (by assumption) ?_
     try simp only [Act.put, zqa, zqb, zqc]
     refine pickN 9 (some 95) rfl rfl (by kernel_rfl) (by kernel_rfl) (by kernel_rfl) (by decide) (fun _ _ _ h => h) (by rfl) (by assumption) ?_
     try simp only [Act.put, zqa, zqb, zqc]
     refine pickN 10 (some 96) rfl rfl (by kernel_rfl) (by kernel_rfl) (by kernel_rfl) (by decide) (fun _ _ _ h => h) (by rfl) (by assumption) ?_
     try simp only [Act.put, zqa, zqb, zqc]
     refine pickN 11 (some 97) rfl rfl (by kernel_rfl) (by kernel_rfl) (by kernel_rfl) (by decide) (fun _ _ _ h => h) (by rfl) (by assumption) ?_
     try simp only [Act.put, zqa, zqb, zqc]
     refine pickN 12 (some 98) rfl rfl (by kernel_rfl) (by kernel_rfl) (by kernel_rfl) (by decide) (fun _ _ _ h => h) (by rfl) (by assumption) ?_
     try simp only [Act.put, zqa, zqb, zqc]
     refine pickN 13 (some 99) rfl rfl (by kernel_rfl) (by kernel_rfl) (by kernel_rfl) (by decide) (fun _ _ _ h => h) (by rfl) (by assumption) ?_
     try simp only [Act.put, zqa, zqb, zqc]
     refine pickN 14 (some 100) rfl rfl (by kernel_rfl) (by kernel_rfl) (by kernel_rfl) (by decide) (fun _ _ _ h => h) (by rfl) (by assumption) ?_
     try simp only [Act.put, zqa, zqb, zqc]
     refine pickN 15 (some 101) rfl rfl (by kernel_rfl) (by kernel_rfl) (by kernel_rfl) (by decide) (fun _ _ _ h => h) (by rfl) (by assumption) ?_
     try simp only [Act.put, zqa, zqb, zqc]
     refine pickN 16 (some 102) rfl rfl (by kernel_rfl) (by kernel_rfl) (by kernel_rfl) (by decide) (fun _ _ _ h => h) (by rfl) (by assumption) ?_
     try simp only [Act.put, zqa, zqb, zqc]
     refine pkA (v := ?_) 17 (some 103) rfl rfl ?_ (by assumption) ?_
     rotate_left
     · intro w'
       go_simp
       try with_reducible rfl
     try simp only [Act.put, zqa, zqb, zqc]
     refine pkA (v := ?_) 18 (some 6) rfl rfl ?_ (by assumption) ?_
     rotate_left
     · intro w'
       go_simp
       try with_reducible rfl
     try simp only [Act.put, zqa, zqb, zqc]
     refine doneL (by kernel_rfl) ?_ _
     clear hHeld
     go_wp2
     go_ret
     exact ⟨rfl, B2.out⟩

set_option maxHeartbeats 2000000 in
set_option maxRecDepth 100000 in
theorem rruns_good (h : Int) (st : Rf) (k oa oo : Int) (v : Value) (l : List An) (u : Int) (hb0 : 0 ≤ st.bt) (hi : (Lit.int .i64 st.id).wf = true) (hl : ∀ q ∈ l, AOk q ∧ ABt q) (hm : mayC h st 2 k = true) (ho : okO oa oo = true) (w : World) (hg0 : (0 : Nat) < w.heap.size) (hR : Ranks w) (hO : AnSl w v l) : Calls Tryz.prog 3 #[.agg (rcL h st k oa oo).toArray, v, .int .u64 u] w fun e w' => e = .returned (.bool true) ∧ Below w.heap.size w w' := by
 obtain ⟨va, vc, rfl, -, -⟩ := hO.shape
 have mixed : Tryz.prog.follows .mixedOrders = true := by kernel_rfl
 have OP := hide hO
 have hgw := hide hg0
 clear hO hg0
 have b1 := gb1 w (.cells (rcL h st k oa oo).toArray 33)
 have CB := hide (IsB.new w (rcL h st k oa oo).toArray 33)
 have HR := hide (hR.below b1)
 have B := hide b1
 clear b1 hR
 go_enter Tryz.func3, Tryz.ntmps3
 go_wp2_with fail
 refine (rawake_any _ HR.out).mono ?_
 rintro e w0 ⟨rfl, hb⟩
 replace CB := hide (CB.out.below hb)
 replace HR := hide (HR.out.below hb)
 replace B := hide (B.out.trans (hb.mono B.out.size))
 clear hb
 have L0 := hide (ld_rconf CB.out)
 have NB := hide (rv_new h st k oa oo hb0 hm ho w0 HR.out)
 have hti := hide (TI.new h st k oa oo (unewS 0 0 zr 0 0) hm hb0 hi)
 have NB2 := hide (dmnew_ok h st k oa oo hm ho)
 generalize hn : l.length = n at *
 replace hn := hide hn
 replace hl := hide hl
 clear hm ho hi
 go_wp2_with (first | (focus ((with_reducible refine wpList_load_w ?_ 33 (.tmp 3) ?_ ?_ L0.out ?_); rotate_left; rfl; rfl; rotate_left; rfl)))
 refine NB.out.mono ?_
 rintro e w2 ⟨b, rfl, X0, hb⟩
 obtain ⟨base, hbase⟩ : ∃ base, w0.heap.size = base := ⟨_, rfl⟩
 rw [hbase] at X0
 have hwb : Hid (w.heap.size ≤ base) := hbase ▸ B.out.size
 have hg : Hid ((0 : Nat) < base) := Nat.lt_of_lt_of_le hgw.out hwb.out
 replace CB := hide (CB.out.below hb)
 replace HR := hide (HR.out.below hb)
 replace B := hide (B.out.trans (hb.mono B.out.size))
 have X := hide X0
 have hbs := X.out.sz.1
 clear hb NB L0 X0 hbase
 have L0 := hide (ld_rconf CB.out)
 go_wp2_with (first | (focus ((with_reducible refine wpList_load_w ?_ 33 (.tmp 3) ?_ ?_ L0.out ?_); rotate_left; rfl; rfl; rotate_left; rfl)))
 refine (NB2.out w2).mono ?_
 rintro e w3 ⟨d, q, rfl, I3, D3, hd3, hb⟩
 have V : Hid (DvAt base w3 d h st k ⟨newR oa oo, newS h st 2 k, [], unewS 0 0 zr 0 0⟩ 0) := ⟨q, .pointer none, 0, unewS 0 0 zr 0 0, [], I3, Nat.le_trans hbs hd3, D3.base_to hbs, rfl, ⟨h, rfl⟩, Nat.le_refl _, fun _ => ⟨rfl, rfl, rfl, rfl⟩, fun _ => rfl, fun c => absurd (show (1 : Int) = 3 from c) (by decide)⟩
 replace X := hide (X.out.below hb)
 replace HR := hide (HR.out.below hb)
 replace B := hide (B.out.trans (hb.mono B.out.size))
 clear hb NB2 L0 CB I3 D3 hd3 hbs
 have n1 := rn_e ⟨b, 0, none⟩ w3
 have n2 := dn_e ⟨d, 0, none⟩ w3
 go_wp2
 clear n1 n2
 go_loopw [11] (fun v11 wr => ∃ (j : Nat) (T : Rv) (mk last : Int), j ≤ n ∧ j ≤ 300 ∧ v11 = .int .i64 (j : Int) ∧ Hid (TI k T mk last) ∧ Hid (RvAt base wr b T) ∧ Hid (DvAt base wr d h st k T j) ∧ Hid (Ranks wr) ∧ Hid (Below w.heap.size w wr)) (fun v11 _ => n - (intOf v11).toNat)
 case atStart => exact ⟨0, ⟨newR oa oo, newS h st 2 k, [], unewS 0 0 zr 0 0⟩, 0, 99, by omega, by omega, rfl, hti, X, V, HR, B⟩
 case round =>
   clear X V HR B hti
   obtain ⟨j, T, mk, last, hj, hj3, rfl, ti, X, V, HR, B⟩ := hrel
   have n2 := dn_e ⟨d, 0, none⟩ wr.drew
   have n3 := dn_m ⟨d, 0, none⟩ wr
   by_cases hlt0 : j < n ∧ j < 300
   rotate_left
   · by_cases h300 : j < n
     rotate_left
     · have d1 : decide ((j : Int) < n) = false := by simp; omega
       go_wp2_with fail
       have dr := (Below.refl wr.heap.size wr).drew
       replace X := hide (X.out.below dr)
       replace V := hide (V.out.below dr)
       replace HR := hide (HR.out.below dr)
       replace B := hide (B.out.trans (dr.mono B.out.size))
       clear dr
       refine regionL 19 (fun w' => w'.cell? ⟨d, 16, none⟩ = some (.bool T.R.md)) mixed (dv_mark _ _ _ _ _ _ _ _ V.out) (fun hHeld => ?_)
       generalize wr.drew = WD at *
       refine pkA (v := ?_) 0 (some 86) rfl rfl ?_ (by assumption) ?_
       rotate_left
       · intro w'
         go_simp
         try with_reducible rfl
       try simp only [Act.put, zqa, zqb, zqc]
       refine pkA (v := ?_) 1 (some 87) rfl rfl ?_ (by assumption) ?_
       rotate_left
       · intro w'
         go_simp
         try with_reducible rfl
       try simp only [Act.put, zqa, zqb, zqc]
       refine pkA (v := ?_) 2 (some 88) rfl rfl ?_ (by assumption) ?_
       rotate_left
       · intro w'
         go_simp
         try with_reducible rfl
       try simp only [Act.put, zqa, zqb, zqc]
       refine pkA (v := ?_) 3 (some 89) rfl rfl ?_ (by assumption) ?_
       rotate_left
       · intro w'
         go_simp
         try with_reducible rfl
       try simp only [Act.put, zqa, zqb, zqc]
       refine pkA (v := ?_) 5 (some 91) rfl rfl ?_ (by assumption) ?_
       rotate_left
       · intro w'
         go_simp
         try with_reducible rfl
       try simp only [Act.put, zqa, zqb, zqc]
       refine oneL (i := 4) (by kernel_rfl) rfl (fun K hK => ?_)
       go_simp
       refine (rv_next base b ti.out WD X.out).mono ?_
       rintro e wA ⟨rfl, hb⟩
       replace X := hide (X.out.below hb)
       replace V := hide (V.out.below hb)
       replace HR := hide (HR.out.below hb)
       replace B := hide (B.out.trans (hb.mono B.out.size))
       clear hb
       refine hK.out _ _ ?_ ?_
       · exact dv_mark _ _ _ _ _ _ _ _ V.out
       clear hK K
       try simp only [Act.put, zqa, zqb, zqc]
       clear hHeld
       have hHeld : (fun w' => w'.cell? ⟨d, 16, none⟩ = some (.bool T.R.md)) wA := dv_mark _ _ _ _ _ _ _ _ V.out
       refine oneL (i := 6) (by kernel_rfl) rfl (fun K hK => ?_)
       go_simp
       refine (dv_next base d h st j ti.out wA V.out).mono ?_
       rintro e wB ⟨rfl, hb⟩
       replace X := hide (X.out.below hb)
       replace V := hide (V.out.below hb)
       replace HR := hide (HR.out.below hb)
       replace B := hide (B.out.trans (hb.mono B.out.size))
       clear hb
       refine hK.out _ _ ?_ ?_
       · exact dv_mark _ _ _ _ _ _ _ _ V.out
       clear hK K
       try simp only [Act.put, zqa, zqb, zqc]
       clear hHeld
       have hHeld : (fun w' => w'.cell? ⟨d, 16, none⟩ = some (.bool T.R.md)) wB := dv_mark _ _ _ _ _ _ _ _ V.out
       refine oneL (i := 7) (by kernel_rfl) rfl (fun K hK => ?_)
       go_simp
       refine (sameStep_T ti.out wB).mono ?_
       rintro e wC ⟨rfl, hb⟩
       replace X := hide (X.out.below hb)
       replace V := hide (V.out.below hb)
       replace HR := hide (HR.out.below hb)
       replace B := hide (B.out.trans (hb.mono B.out.size))
       clear hb
       refine hK.out _ _ ?_ ?_
       · exact dv_mark _ _ _ _ _ _ _ _ V.out
       clear hK K
       try simp only [Act.put, zqa, zqb, zqc]
       clear hHeld
       have hHeld : (fun w' => w'.cell? ⟨d, 16, none⟩ = some (.bool T.R.md)) wC := dv_mark _ _ _ _ _ _ _ _ V.out
       refine pkA (v := ?_) 8 (some 94) rfl rfl ?_ (by assumption) ?_
       rotate_left
       · intro w'
         go_simp
         try with_reducible rfl
       try simp only [Act.put, zqa, zqb, zqc]
       refine pkA (v := ?_) 9 (some 95) rfl rfl ?_ (by assumption) ?_
       rotate_left
       · intro w'
         go_simp
         try with_reducible rfl
       try simp only [Act.put, zqa, zqb, zqc]
       refine pkA (v := ?_) 11 (some 97) rfl rfl ?_ (by assumption) ?_
       rotate_left
       · intro w'
         go_simp
         try with_reducible rfl
       try simp only [Act.put, zqa, zqb, zqc]
       refine pkA (v := ?_) 12 (some 98) rfl rfl ?_ (by assumption) ?_
       rotate_left
       · intro w'
         go_simp
         try with_reducible rfl
       try simp only [Act.put, zqa, zqb, zqc]
       refine pkA (v := ?_) 13 (some 99) rfl rfl ?_ (by assumption) ?_
       rotate_left
       · intro w'
         go_simp
         try with_reducible rfl
       try simp only [Act.put, zqa, zqb, zqc]
       refine pkT (v := .bool T.R.md) 14 (some 100) rfl rfl ?_ (by assumption) ?_
       · intro w' hSw
         have q0 := hSw
         have yy : w'.cell? ⟨d, 16, none⟩ = some (.bool T.R.md) := q0
         go_simp
       try simp only [Act.put, zqa, zqb, zqc]
       refine oneL (i := 10) (by kernel_rfl) rfl (fun K hK => ?_)
       go_simp
       refine (rv_marked base b T wC X.out).mono ?_
       rintro e wE ⟨rfl, hw⟩
       rw [hw]
       clear hw
       refine hK.out _ _ ?_ ?_
       · exact dv_mark _ _ _ _ _ _ _ _ V.out
       clear hK K
       try simp only [Act.put, zqa, zqb, zqc]
       clear hHeld
       have hHeld : (fun w' => w'.cell? ⟨d, 16, none⟩ = some (.bool T.R.md)) wC := dv_mark _ _ _ _ _ _ _ _ V.out
       refine pkA (v := .bool true) 15 (some 101) rfl rfl ?_ (by assumption) ?_
       · intro w'
         go_simp
         try simp
       try simp only [Act.put, zqa, zqb, zqc]
       refine pkA (v := ?_) 16 (some 102) rfl rfl ?_ (by assumption) ?_
       rotate_left
       · intro w'
         go_simp
         try with_reducible rfl
       try simp only [Act.put, zqa, zqb, zqc]
       refine pkA (v := ?_) 17 (some 103) rfl rfl ?_ (by assumption) ?_
       rotate_left
       · intro w'
         go_simp
         try with_reducible rfl
       try simp only [Act.put, zqa, zqb, zqc]
       refine pkA (v := ?_) 18 (some 6) rfl rfl ?_ (by assumption) ?_
       rotate_left
       · intro w'
         go_simp
         try with_reducible rfl
       try simp only [Act.put, zqa, zqb, zqc]
       refine doneL (by kernel_rfl) ?_ _
       clear hHeld
       go_wp2
       go_ret
       exact ⟨rfl, B.out⟩
     · obtain rfl : j = 300 := by omega
       have i1 : ((300 : Nat) : Int) < n := by omega
       have i2 : decide (((300 : Nat) : Int) < n) = true := decide_eq_true i1
       go_wp2_with fail
       have dr := (Below.refl wr.heap.size wr).drew
       replace X := hide (X.out.below dr)
       replace V := hide (V.out.below dr)
       replace HR := hide (HR.out.below dr)
       replace B := hide (B.out.trans (dr.mono B.out.size))
       clear dr
       refine regionL 19 (fun w' => w'.cell? ⟨d, 16, none⟩ = some (.bool T.R.md)) mixed (dv_mark _ _ _ _ _ _ _ _ V.out) (fun hHeld => ?_)
       generalize wr.drew = WD at *
       refine pkA (v := ?_) 0 (some 86) rfl rfl ?_ (by assumption) ?_
       rotate_left
       · intro w'
         go_simp
         try with_reducible rfl
       try simp only [Act.put, zqa, zqb, zqc]
       refine pkA (v := ?_) 1 (some 87) rfl rfl ?_ (by assumption) ?_
       rotate_left
       · intro w'
         go_simp
         try with_reducible rfl
       try simp only [Act.put, zqa, zqb, zqc]
       refine pkA (v := ?_) 2 (some 88) rfl rfl ?_ (by assumption) ?_
       rotate_left
       · intro w'
         go_simp
         try with_reducible rfl
       try simp only [Act.put, zqa, zqb, zqc]
       refine pkA (v := ?_) 3 (some 89) rfl rfl ?_ (by assumption) ?_
       rotate_left
       · intro w'
         go_simp
         try with_reducible rfl
       try simp only [Act.put, zqa, zqb, zqc]
       refine pkA (v := ?_) 5 (some 91) rfl rfl ?_ (by assumption) ?_
       rotate_left
       · intro w'
         go_simp
         try with_reducible rfl
       try simp only [Act.put, zqa, zqb, zqc]
       refine oneL (i := 4) (by kernel_rfl) rfl (fun K hK => ?_)
       go_simp
       refine (rv_next base b ti.out WD X.out).mono ?_
       rintro e wA ⟨rfl, hb⟩
       replace X := hide (X.out.below hb)
       replace V := hide (V.out.below hb)
       replace HR := hide (HR.out.below hb)
       replace B := hide (B.out.trans (hb.mono B.out.size))
       clear hb
       refine hK.out _ _ ?_ ?_
       · exact dv_mark _ _ _ _ _ _ _ _ V.out
       clear hK K
       try simp only [Act.put, zqa, zqb, zqc]
       clear hHeld
       have hHeld : (fun w' => w'.cell? ⟨d, 16, none⟩ = some (.bool T.R.md)) wA := dv_mark _ _ _ _ _ _ _ _ V.out
       refine oneL (i := 6) (by kernel_rfl) rfl (fun K hK => ?_)
       go_simp
       refine (dv_next base d h st 300 ti.out wA V.out).mono ?_
       rintro e wB ⟨rfl, hb⟩
       replace X := hide (X.out.below hb)
       replace V := hide (V.out.below hb)
       replace HR := hide (HR.out.below hb)
       replace B := hide (B.out.trans (hb.mono B.out.size))
       clear hb
       refine hK.out _ _ ?_ ?_
       · exact dv_mark _ _ _ _ _ _ _ _ V.out
       clear hK K
       try simp only [Act.put, zqa, zqb, zqc]
       clear hHeld
       have hHeld : (fun w' => w'.cell? ⟨d, 16, none⟩ = some (.bool T.R.md)) wB := dv_mark _ _ _ _ _ _ _ _ V.out
       refine oneL (i := 7) (by kernel_rfl) rfl (fun K hK => ?_)
       go_simp
       refine (sameStep_T ti.out wB).mono ?_
       rintro e wC ⟨rfl, hb⟩
       replace X := hide (X.out.below hb)
       replace V := hide (V.out.below hb)
       replace HR := hide (HR.out.below hb)
       replace B := hide (B.out.trans (hb.mono B.out.size))
       clear hb
       refine hK.out _ _ ?_ ?_
       · exact dv_mark _ _ _ _ _ _ _ _ V.out
       clear hK K
       try simp only [Act.put, zqa, zqb, zqc]
       clear hHeld
       have hHeld : (fun w' => w'.cell? ⟨d, 16, none⟩ = some (.bool T.R.md)) wC := dv_mark _ _ _ _ _ _ _ _ V.out
       refine pkA (v := ?_) 8 (some 94) rfl rfl ?_ (by assumption) ?_
       rotate_left
       · intro w'
         go_simp
         try with_reducible rfl
       try simp only [Act.put, zqa, zqb, zqc]
       refine pkA (v := ?_) 9 (some 95) rfl rfl ?_ (by assumption) ?_
       rotate_left
       · intro w'
         go_simp
         try with_reducible rfl
       try simp only [Act.put, zqa, zqb, zqc]
       refine pkA (v := ?_) 11 (some 97) rfl rfl ?_ (by assumption) ?_
       rotate_left
       · intro w'
         go_simp
         try with_reducible rfl
       try simp only [Act.put, zqa, zqb, zqc]
       refine pkA (v := ?_) 12 (some 98) rfl rfl ?_ (by assumption) ?_
       rotate_left
       · intro w'
         go_simp
         try with_reducible rfl
       try simp only [Act.put, zqa, zqb, zqc]
       refine pkA (v := ?_) 13 (some 99) rfl rfl ?_ (by assumption) ?_
       rotate_left
       · intro w'
         go_simp
         try with_reducible rfl
       try simp only [Act.put, zqa, zqb, zqc]
       refine pkT (v := .bool T.R.md) 14 (some 100) rfl rfl ?_ (by assumption) ?_
       · intro w' hSw
         have q0 := hSw
         have yy : w'.cell? ⟨d, 16, none⟩ = some (.bool T.R.md) := q0
         go_simp
       try simp only [Act.put, zqa, zqb, zqc]
       refine oneL (i := 10) (by kernel_rfl) rfl (fun K hK => ?_)
       go_simp
       refine (rv_marked base b T wC X.out).mono ?_
       rintro e wE ⟨rfl, hw⟩
       rw [hw]
       clear hw
       refine hK.out _ _ ?_ ?_
       · exact dv_mark _ _ _ _ _ _ _ _ V.out
       clear hK K
       try simp only [Act.put, zqa, zqb, zqc]
       clear hHeld
       have hHeld : (fun w' => w'.cell? ⟨d, 16, none⟩ = some (.bool T.R.md)) wC := dv_mark _ _ _ _ _ _ _ _ V.out
       refine pkA (v := .bool true) 15 (some 101) rfl rfl ?_ (by assumption) ?_
       · intro w'
         go_simp
         try simp
       try simp only [Act.put, zqa, zqb, zqc]
       refine pkA (v := ?_) 16 (some 102) rfl rfl ?_ (by assumption) ?_
       rotate_left
       · intro w'
         go_simp
         try with_reducible rfl
       try simp only [Act.put, zqa, zqb, zqc]
       refine pkA (v := ?_) 17 (some 103) rfl rfl ?_ (by assumption) ?_
       rotate_left
       · intro w'
         go_simp
         try with_reducible rfl
       try simp only [Act.put, zqa, zqb, zqc]
       refine pkA (v := ?_) 18 (some 6) rfl rfl ?_ (by assumption) ?_
       rotate_left
       · intro w'
         go_simp
         try with_reducible rfl
       try simp only [Act.put, zqa, zqb, zqc]
       refine doneL (by kernel_rfl) ?_ _
       clear hHeld
       go_wp2
       go_ret
       exact ⟨rfl, B.out⟩
   obtain ⟨i1, i2⟩ := hlt0
   have i3 : (j : Int) < n := by omega
   have i4 : decide ((j : Int) < 300) = true := decide_eq_true (by omega)
   have hjl : j < l.length := by rw [hn.out]; exact i1
   have haj := hide (hl.out l[j] (List.getElem_mem hjl))
   obtain ⟨g, o, c, ev, OA0⟩ := OP.out.at2 j hjl
   injection ev with ev el ec
   clear el
   subst ev ec
   have OA := hide OA0
   clear OA0
   generalize l[j] = aj at *
   clear hjl
   go_wp2_with fail
   have dr := (Below.refl wr.heap.size wr).drew
   replace X := hide (X.out.below dr)
   replace V := hide (V.out.below dr)
   replace HR := hide (HR.out.below dr)
   replace B := hide (B.out.trans (dr.mono B.out.size))
   clear dr
   refine regionL 15 (fun w' => w'.cell? ⟨d, 16, none⟩ = some (.bool T.R.md)) mixed (dv_mark _ _ _ _ _ _ _ _ V.out) (fun hHeld => ?_)
   generalize wr.drew = WD at *
   refine pkA (v := ?_) 0 (some 48) rfl rfl ?_ (by assumption) ?_
   rotate_left
   · intro w'
     go_simp
     try with_reducible rfl
   try simp only [Act.put, zqa, zqb, zqc]
   refine pkA (v := ?_) 2 (some 50) rfl rfl ?_ (by assumption) ?_
   rotate_left
   · intro w'
     go_simp
     try with_reducible rfl
   try simp only [Act.put, zqa, zqb, zqc]
   refine oneL (i := 1) (by kernel_rfl) rfl (fun K hK => ?_)
   go_simp
   refine (rv_next base b ti.out WD X.out).mono ?_
   rintro e wA ⟨rfl, hb⟩
   replace X := hide (X.out.below hb)
   replace V := hide (V.out.below hb)
   replace HR := hide (HR.out.below hb)
   replace B := hide (B.out.trans (hb.mono B.out.size))
   clear hb
   refine hK.out _ _ ?_ ?_
   · exact dv_mark _ _ _ _ _ _ _ _ V.out
   clear hK K
   try simp only [Act.put, zqa, zqb, zqc]
   clear hHeld
   have hHeld : (fun w' => w'.cell? ⟨d, 16, none⟩ = some (.bool T.R.md)) wA := dv_mark _ _ _ _ _ _ _ _ V.out
   refine oneL (i := 3) (by kernel_rfl) rfl (fun K hK => ?_)
   go_simp
   refine (dv_next base d h st j ti.out wA V.out).mono ?_
   rintro e wB ⟨rfl, hb⟩
   replace X := hide (X.out.below hb)
   replace V := hide (V.out.below hb)
   replace HR := hide (HR.out.below hb)
   replace B := hide (B.out.trans (hb.mono B.out.size))
   clear hb
   refine hK.out _ _ ?_ ?_
   · exact dv_mark _ _ _ _ _ _ _ _ V.out
   clear hK K
   try simp only [Act.put, zqa, zqb, zqc]
   clear hHeld
   have hHeld : (fun w' => w'.cell? ⟨d, 16, none⟩ = some (.bool T.R.md)) wB := dv_mark _ _ _ _ _ _ _ _ V.out
   refine oneL (i := 4) (by kernel_rfl) rfl (fun K hK => ?_)
   go_simp
   refine (sameStep_T ti.out wB).mono ?_
   rintro e wC ⟨rfl, hb⟩
   replace X := hide (X.out.below hb)
   replace V := hide (V.out.below hb)
   replace HR := hide (HR.out.below hb)
   replace B := hide (B.out.trans (hb.mono B.out.size))
   clear hb
   refine hK.out _ _ ?_ ?_
   · exact dv_mark _ _ _ _ _ _ _ _ V.out
   clear hK K
   try simp only [Act.put, zqa, zqb, zqc]
   clear hHeld
   have hHeld : (fun w' => w'.cell? ⟨d, 16, none⟩ = some (.bool T.R.md)) wC := dv_mark _ _ _ _ _ _ _ _ V.out
   refine pkA (v := ?_) 5 (some 53) rfl rfl ?_ (by assumption) ?_
   rotate_left
   · intro w'
     go_simp
     try with_reducible rfl
   try simp only [Act.put, zqa, zqb, zqc]
   refine pkA (v := ?_) 6 (some 54) rfl rfl ?_ (by assumption) ?_
   rotate_left
   · intro w'
     go_simp
     try with_reducible rfl
   try simp only [Act.put, zqa, zqb, zqc]
   refine pkA (v := ?_) 7 (some 55) rfl rfl ?_ (by assumption) ?_
   rotate_left
   · intro w'
     go_simp
     try with_reducible rfl
   try simp only [Act.put, zqa, zqb, zqc]
   refine pkA (v := ?_) 9 (some 57) rfl rfl ?_ (by assumption) ?_
   rotate_left
   · intro w'
     go_simp
     try with_reducible rfl
   try simp only [Act.put, zqa, zqb, zqc]
   refine pkA (v := ?_) 10 (some 58) rfl rfl ?_ (by assumption) ?_
   rotate_left
   · intro w'
     go_simp
     try with_reducible rfl
   try simp only [Act.put, zqa, zqb, zqc]
   refine pkA (v := ?_) 11 (some 59) rfl rfl ?_ (by assumption) ?_
   rotate_left
   · intro w'
     go_simp
     try with_reducible rfl
   try simp only [Act.put, zqa, zqb, zqc]
   refine pkT (v := .bool T.R.md) 12 (some 60) rfl rfl ?_ (by assumption) ?_
   · intro w' hSw
     have q0 := hSw
     have yy : w'.cell? ⟨d, 16, none⟩ = some (.bool T.R.md) := q0
     go_simp
   try simp only [Act.put, zqa, zqb, zqc]
   refine oneL (i := 8) (by kernel_rfl) rfl (fun K hK => ?_)
   go_simp
   refine (rv_marked base b T wC X.out).mono ?_
   rintro e wE ⟨rfl, hw⟩
   rw [hw]
   clear hw
   refine hK.out _ _ ?_ ?_
   · exact dv_mark _ _ _ _ _ _ _ _ V.out
   clear hK K
   try simp only [Act.put, zqa, zqb, zqc]
   clear hHeld
   have hHeld : (fun w' => w'.cell? ⟨d, 16, none⟩ = some (.bool T.R.md)) wC := dv_mark _ _ _ _ _ _ _ _ V.out
   refine pkA (v := .bool false) 13 (some 61) rfl rfl ?_ (by assumption) ?_
   · intro w'
     go_simp
     try simp
   try simp only [Act.put, zqa, zqb, zqc]
   refine pkA (v := ?_) 14 (some 62) rfl rfl ?_ (by assumption) ?_
   rotate_left
   · intro w'
     go_simp
     try with_reducible rfl
   try simp only [Act.put, zqa, zqb, zqc]
   refine doneL (by kernel_rfl) ?_ _
   clear hHeld
   have LA := hide (OA.out _ B.out)
   go_wp2_with (first | (focus ((with_reducible refine wpList_load_w ?_ 62 (.tmp 66) ?_ ?_ LA.out ?_); rotate_left; rfl; rfl; rotate_left; rfl)))
   clear LA
   refine (rv_tell base b ti.out aj haj.out.1 _ HR.out X.out.sz.1 X.out).mono ?_
   rintro e w4 ⟨rfl, X4, F4⟩
   have sz := X.out.sz.1
   have BB := F4.below sz
   replace B := hide (B.out.trans (BB.mono hwb.out))
   replace HR := hide (Ranks.base HR.out hg.out BB)
   replace V := hide (V.out.fr F4)
   clear BB sz
   have hnd := hide X.out.nd
   replace X := hide X4
   clear X4 F4
   have LA := hide (OA.out _ B.out)
   go_wp2_with (first | (focus ((with_reducible refine wpList_load_w ?_ 62 (.tmp 72) ?_ ?_ LA.out ?_); rotate_left; rfl; rfl; rotate_left; rfl)))
   clear LA
   refine (dv_tell base d h st j ti.out aj hnd.out (by omega) _ V.out.sz.1 V.out).mono ?_
   rintro e w5 ⟨rfl, V5, F5⟩
   have sz := X.out.sz.1
   have BB := F5.below sz
   replace B := hide (B.out.trans (BB.mono hwb.out))
   replace HR := hide (Ranks.base HR.out hg.out BB)
   replace X := hide (X.out.fd F5)
   clear BB sz
   replace V := hide V5
   clear V5 F5 hnd
   obtain ⟨mk2, last2, ti2⟩ := ti.out.tell aj haj.out.1 haj.out.2
   replace ti := hide ti2
   clear ti2
   go_wp2_with fail
   · refine (rv_wake base b (T.tell aj) _ X.out).mono ?_
     rintro e w6 ⟨rfl, X6, F6⟩
     have sz := X.out.sz.1
     have BB := F6.below sz
     replace B := hide (B.out.trans (BB.mono hwb.out))
     replace HR := hide (Ranks.base HR.out hg.out BB)
     replace V := hide (V.out.fr F6)
     clear BB sz
     replace X := hide X6
     clear X6 F6
     go_wp2_with fail
     refine (dv_wake base d h st (j + 1) ti.out _ V.out).mono ?_
     rintro e w7 ⟨rfl, V7, F7⟩
     have sz := X.out.sz.1
     have BB := F7.below sz
     replace B := hide (B.out.trans (BB.mono hwb.out))
     replace HR := hide (Ranks.base HR.out hg.out BB)
     replace X := hide (X.out.fd F7)
     clear BB sz
     replace V := hide V7
     clear V7 F7
     go_wp2
     exact ⟨⟨j + 1, (T.tell aj).wake, mk2, last2, by omega, by omega, by simp, hide ti.out.wake, X, V, HR, B⟩, by simp [intOf]; omega⟩
   · try go_wp2
     exact ⟨⟨j + 1, T.tell aj, mk2, last2, by omega, by omega, by simp, ti, X, V, HR, B⟩, by simp [intOf]; omega⟩

theorem rruns_any (h : Int) (st : Rf) (k oa oo : Int) (v : Value) (l : List An) (u : Int) (hb0 : 0 ≤ st.bt) (hi : (Lit.int .i64 st.id).wf = true) (hl : ∀ q ∈ l, AOk q ∧ ABt q) (w : World) (hR : Ranks w) (hO : AnSl w v l) : Calls Tryz.prog 3 #[.agg (rcL h st k oa oo).toArray, v, .int .u64 u] w fun e w' => e = .returned (.bool true) ∧ Below w.heap.size w w' := by
 cases hm : mayC h st 2 k with
 | false => exact rruns_bad h st k oa oo v l u hb0 hm w hR hO
 | true =>
   cases ho : okO oa oo with
   | false => exact rruns_own h st k oa oo v l u hb0 hm ho w hR hO
   | true => exact rruns_good h st k oa oo v l u hb0 hi hl hm ho w (lt_of_cell hR.1) hR hO

end Go.Proofs.YtokehogcenjefaaGreatDoor
