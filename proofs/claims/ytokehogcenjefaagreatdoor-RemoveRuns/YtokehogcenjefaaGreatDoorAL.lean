/- A removal: what stays true, whatever is answered. -/
import Derived.Test.YtokehogcenjefaaGreatDoorAI
import Derived.Test.YtokehogcenjefaaGreatDoorSR
namespace Go.Proofs.YtokehogcenjefaaGreatDoor
open Go.RowKit Go.Maps Go.ChangeMaps

/-- Who is held. -/
def Us.held (S : Us) : List Rf := if S.pl = 3 ∨ S.pl = 8 then [S.lf] else if 4 ≤ S.pl ∧ S.pl ≤ 7 then [S.lf, S.me] else []
/-- What stays true of a machine. -/
structure Inv (wl wb : Int) (S : Us) : Prop where
 ok : S.plok
 w1 : S.wl = wl
 w2 : S.wb = wb
 lt : 2 ≤ S.pl → S.pl ≤ 8 → klt (S.lf.rk, S.lf.kn) (S.me.rk, S.me.kn) = true
theorem klt_ne {x y : Rf} (h : klt (x.rk, x.kn) (y.rk, y.kn) = true) : x ≠ y := by
 rintro rfl
 unfold klt at h
 rw [kcmp_eq] at h
 simp at h
theorem Inv.new (wl wb : Int) (me : Rf) (oa oo : Int) : Inv wl wb (unewS wl wb me oa oo) :=
 ⟨⟨show (1 : Int) ≤ 1 by decide, show (1 : Int) ≤ 10 by decide, Or.inl rfl⟩, rfl, rfl, fun h => absurd (show (2 : Int) ≤ 1 from h) (by decide)⟩
theorem held_1 {S : Us} (h : S.pl = 1 ∨ S.pl = 2 ∨ S.pl = 9 ∨ S.pl = 10) : S.held = [] := by unfold Us.held; rw [if_neg (by omega), if_neg (by omega)]
theorem held_3 {S : Us} (h : S.pl = 3 ∨ S.pl = 8) : S.held = [S.lf] := by unfold Us.held; rw [if_pos h]
theorem held_4 {S : Us} (h : 4 ≤ S.pl) (h7 : S.pl ≤ 7) : S.held = [S.lf, S.me] := by unfold Us.held; rw [if_neg (by omega), if_pos ⟨h, h7⟩]
theorem Inv.wake {wl wb : Int} {S : Us} (h : Inv wl wb S) : Inv wl wb S.wake := by
 unfold Us.wake
 by_cases hp : S.pl = 9
 · rw [if_pos hp]
   exact ⟨⟨show (1 : Int) ≤ 1 by decide, show (1 : Int) ≤ 10 by decide, h.ok.2.2⟩, h.w1, h.w2, fun c => absurd (show (2 : Int) ≤ 1 from c) (by decide)⟩
 · rw [if_neg hp]; exact h
theorem held_wake {S : Us} (h : S.pl = 9 ∨ S.pl = 10) : S.wake.held = [] := by
 unfold Us.wake
 rcases h with h | h
 · rw [if_pos h]; exact held_1 (Or.inl rfl)
 · rw [if_neg (by omega)]; exact held_1 (Or.inr (Or.inr (Or.inr h)))

theorem tl_1 {wl wb : Int} {S : Us} (h : Inv wl wb S) (a : An) (hp : S.pl = 1) : Inv wl wb (S.tell a) ∧ (S.tell a).held = [] := by
 unfold Us.tell
 rw [if_pos hp]
 unfold Us.hRead
 by_cases c1 : a.k = 1 ∧ klt (a.l.rk, a.l.kn) (S.me.rk, S.me.kn) = true
 · rw [if_pos c1]; exact ⟨⟨⟨show (1 : Int) ≤ 2 by decide, show (2 : Int) ≤ 10 by decide, h.ok.2.2⟩, h.w1, h.w2, fun _ _ => c1.2⟩, held_1 (Or.inr (Or.inl rfl))⟩
 rw [if_neg c1]
 by_cases c2 : awB a.k = true
 · rw [if_pos c2]; exact ⟨⟨⟨show (1 : Int) ≤ 10 by decide, show (10 : Int) ≤ 10 by decide, h.ok.2.2⟩, h.w1, h.w2, fun _ c => absurd (show (10 : Int) ≤ 8 from c) (by decide)⟩, held_1 (Or.inr (Or.inr (Or.inr rfl)))⟩
 · rw [if_neg c2]; exact ⟨⟨⟨show (1 : Int) ≤ 9 by decide, show (9 : Int) ≤ 10 by decide, h.ok.2.2⟩, h.w1, h.w2, fun _ c => absurd (show (9 : Int) ≤ 8 from c) (by decide)⟩, held_1 (Or.inr (Or.inr (Or.inl rfl)))⟩
theorem tl_2y {wl wb : Int} {S : Us} (h : Inv wl wb S) (a : An) (hp : S.pl = 2) (hk : a.k = 1) : Inv wl wb (S.tell a) ∧ (S.tell a).held = [S.lf] := by
 unfold Us.tell
 rw [if_neg (by omega : ¬S.pl = 1), if_pos hp]
 unfold Us.hLeft
 rw [if_pos hk]
 by_cases c1 : a.r = S.me
 · rw [if_pos c1]; exact ⟨⟨⟨show (1 : Int) ≤ 3 by decide, show (3 : Int) ≤ 10 by decide, h.ok.2.2⟩, h.w1, h.w2, fun _ _ => h.lt (by omega) (by omega)⟩, held_3 (Or.inl rfl)⟩
 · rw [if_neg c1]; exact ⟨⟨⟨show (1 : Int) ≤ 8 by decide, show (8 : Int) ≤ 10 by decide, h.ok.2.2⟩, h.w1, h.w2, fun _ _ => h.lt (by omega) (by omega)⟩, held_3 (Or.inr rfl)⟩
theorem tl_2n {wl wb : Int} {S : Us} (h : Inv wl wb S) (a : An) (hp : S.pl = 2) (hk : ¬a.k = 1) : Inv wl wb (S.tell a) ∧ (S.tell a).held = [] := by
 unfold Us.tell
 rw [if_neg (by omega : ¬S.pl = 1), if_pos hp]
 unfold Us.hLeft
 rw [if_neg hk]
 exact ⟨⟨⟨show (1 : Int) ≤ 9 by decide, show (9 : Int) ≤ 10 by decide, h.ok.2.2⟩, h.w1, h.w2, fun _ c => absurd (show (9 : Int) ≤ 8 from c) (by decide)⟩, held_1 (Or.inr (Or.inr (Or.inl rfl)))⟩
theorem tl_3y {wl wb : Int} {S : Us} (h : Inv wl wb S) (a : An) (hp : S.pl = 3) (hk : a.k = 1) : Inv wl wb (S.tell a) ∧ (S.tell a).held = [S.lf, S.me] := by
 unfold Us.tell
 rw [if_neg (by omega : ¬S.pl = 1), if_neg (by omega : ¬S.pl = 2), if_pos hp]
 unfold Us.hMe
 rw [if_pos hk]
 by_cases c1 : klt (S.me.rk, S.me.kn) (a.r.rk, a.r.kn) = true
 · rw [if_pos c1]; exact ⟨⟨⟨show (1 : Int) ≤ 4 by decide, show (4 : Int) ≤ 10 by decide, h.ok.2.2⟩, h.w1, h.w2, fun _ _ => h.lt (by omega) (by omega)⟩, held_4 (show (4 : Int) ≤ 4 by decide) (show (4 : Int) ≤ 7 by decide)⟩
 · rw [if_neg c1]; exact ⟨⟨⟨show (1 : Int) ≤ 7 by decide, show (7 : Int) ≤ 10 by decide, h.ok.2.2⟩, h.w1, h.w2, fun _ _ => h.lt (by omega) (by omega)⟩, held_4 (show (4 : Int) ≤ 7 by decide) (show (7 : Int) ≤ 7 by decide)⟩
theorem tl_3n {wl wb : Int} {S : Us} (h : Inv wl wb S) (a : An) (hp : S.pl = 3) (hk : ¬a.k = 1) : Inv wl wb (S.tell a) ∧ (S.tell a).held = [S.lf] := by
 unfold Us.tell
 rw [if_neg (by omega : ¬S.pl = 1), if_neg (by omega : ¬S.pl = 2), if_pos hp]
 unfold Us.hMe
 rw [if_neg hk]
 by_cases c1 : awB a.k = true
 · rw [if_pos c1]; exact ⟨⟨⟨show (1 : Int) ≤ 8 by decide, show (8 : Int) ≤ 10 by decide, Or.inr rfl⟩, h.w1, h.w2, fun _ _ => h.lt (by omega) (by omega)⟩, held_3 (Or.inr rfl)⟩
 · rw [if_neg c1]; exact ⟨⟨⟨show (1 : Int) ≤ 8 by decide, show (8 : Int) ≤ 10 by decide, h.ok.2.2⟩, h.w1, h.w2, fun _ _ => h.lt (by omega) (by omega)⟩, held_3 (Or.inr rfl)⟩
theorem tl_4 {wl wb : Int} {S : Us} (h : Inv wl wb S) (a : An) (hp : S.pl = 4) : Inv wl wb (S.tell a) ∧ (S.tell a).held = [S.lf, S.me] := by
 unfold Us.tell
 rw [if_neg (by omega : ¬S.pl = 1), if_neg (by omega : ¬S.pl = 2), if_neg (by omega : ¬S.pl = 3), if_pos hp]
 unfold Us.hRt
 by_cases c1 : a.k = 1 ∨ a.k = 3 ∧ a.r = S.rg
 · rw [if_pos c1]; exact ⟨⟨⟨show (1 : Int) ≤ 5 by decide, show (5 : Int) ≤ 10 by decide, h.ok.2.2⟩, h.w1, h.w2, fun _ _ => h.lt (by omega) (by omega)⟩, held_4 (show (4 : Int) ≤ 5 by decide) (show (5 : Int) ≤ 7 by decide)⟩
 · rw [if_neg c1]; exact ⟨⟨⟨show (1 : Int) ≤ 7 by decide, show (7 : Int) ≤ 10 by decide, h.ok.2.2⟩, h.w1, h.w2, fun _ _ => h.lt (by omega) (by omega)⟩, held_4 (show (4 : Int) ≤ 7 by decide) (show (7 : Int) ≤ 7 by decide)⟩
theorem tl_5 {wl wb : Int} {S : Us} (h : Inv wl wb S) (a : An) (hp : S.pl = 5) : Inv wl wb (S.tell a) ∧ (S.tell a).held = [S.lf, S.me] := by
 unfold Us.tell
 rw [if_neg (by omega : ¬S.pl = 1), if_neg (by omega : ¬S.pl = 2), if_neg (by omega : ¬S.pl = 3), if_neg (by omega : ¬S.pl = 4), if_pos hp]
 exact ⟨⟨⟨show (1 : Int) ≤ 6 by decide, show (6 : Int) ≤ 10 by decide, h.ok.2.2⟩, h.w1, h.w2, fun _ _ => h.lt (by omega) (by omega)⟩, held_4 (show (4 : Int) ≤ 6 by decide) (show (6 : Int) ≤ 7 by decide)⟩
theorem tl_6 {wl wb : Int} {S : Us} (h : Inv wl wb S) (a : An) (hp : S.pl = 6) : Inv wl wb (S.tell a) ∧ (S.tell a).held = [S.lf] := by
 unfold Us.tell
 rw [if_neg (by omega : ¬S.pl = 1), if_neg (by omega : ¬S.pl = 2), if_neg (by omega : ¬S.pl = 3), if_neg (by omega : ¬S.pl = 4), if_neg (by omega : ¬S.pl = 5), if_pos hp]
 exact ⟨⟨⟨show (1 : Int) ≤ 8 by decide, show (8 : Int) ≤ 10 by decide, Or.inr rfl⟩, h.w1, h.w2, fun _ _ => h.lt (by omega) (by omega)⟩, held_3 (Or.inr rfl)⟩
theorem tl_7 {wl wb : Int} {S : Us} (h : Inv wl wb S) (a : An) (hp : S.pl = 7) : Inv wl wb (S.tell a) ∧ (S.tell a).held = [S.lf] := by
 unfold Us.tell
 rw [if_neg (by omega : ¬S.pl = 1), if_neg (by omega : ¬S.pl = 2), if_neg (by omega : ¬S.pl = 3), if_neg (by omega : ¬S.pl = 4), if_neg (by omega : ¬S.pl = 5), if_neg (by omega : ¬S.pl = 6), if_pos hp]
 exact ⟨⟨⟨show (1 : Int) ≤ 8 by decide, show (8 : Int) ≤ 10 by decide, h.ok.2.2⟩, h.w1, h.w2, fun _ _ => h.lt (by omega) (by omega)⟩, held_3 (Or.inr rfl)⟩
theorem tl_8 {wl wb : Int} {S : Us} (h : Inv wl wb S) (a : An) (hp : S.pl = 8) : Inv wl wb (S.tell a) ∧ (S.tell a).held = [] := by
 unfold Us.tell
 rw [if_neg (by omega : ¬S.pl = 1), if_neg (by omega : ¬S.pl = 2), if_neg (by omega : ¬S.pl = 3), if_neg (by omega : ¬S.pl = 4), if_neg (by omega : ¬S.pl = 5), if_neg (by omega : ¬S.pl = 6), if_neg (by omega : ¬S.pl = 7), if_pos hp]
 rcases h.ok.2.2 with k | k
 · rw [k]; exact ⟨⟨⟨show (1 : Int) ≤ 9 by decide, show (9 : Int) ≤ 10 by decide, Or.inl rfl⟩, h.w1, h.w2, fun _ c => absurd (show (9 : Int) ≤ 8 from c) (by decide)⟩, held_1 (Or.inr (Or.inr (Or.inl rfl)))⟩
 · rw [k]; exact ⟨⟨⟨show (1 : Int) ≤ 10 by decide, show (10 : Int) ≤ 10 by decide, Or.inr rfl⟩, h.w1, h.w2, fun _ c => absurd (show (10 : Int) ≤ 8 from c) (by decide)⟩, held_1 (Or.inr (Or.inr (Or.inr rfl)))⟩

theorem wo_1 (x : Rf) : [x].filter (fun z => decide (z ≠ x)) = [] := by simp
theorem wo_2 {x y : Rf} (h : x ≠ y) : [x, y].filter (fun z => decide (z ≠ y)) = [x] := by simp [h]

/-- What stays true of a search: a property of all whom it knows; its target; who was found has that key. -/
structure Kept (P : Rf → Prop) (tr tn : Int) (S : Sk) (ws : List (Pl × Rf)) : Prop where
 hd : P S.hd
 pt : P S.pt
 ah : P S.ah
 rr : P S.rr
 wi : ∀ x ∈ ws, P x.2
 t1 : S.tr = tr
 t2 : S.tn = tn
 fd : S.ov = true → S.fd = true → S.rr.rk = tr ∧ S.rr.kn = tn
section
variable {P : Rf → Prop} {tr tn : Int} {S : Sk} {ws : List (Pl × Rf)} (hz : P zr) (h : Kept P tr tn S ws)
include h
theorem Kept.put {v : Pl} {r : Rf} (hr : P r) : Kept P tr tn S (putW ws v r) := ⟨h.hd, h.pt, h.ah, h.rr, fun x hx => by
 rcases putW_mem hx with g | g
 · exact h.wi x g
 · rw [g]; exact hr, h.t1, h.t2, h.fd⟩
include hz
theorem Kept.begin : Kept P tr tn S.begin ws := by
 unfold Sk.begin
 split
 · exact ⟨h.hd, h.pt, h.ah, hz, h.wi, h.t1, h.t2, fun _ c => by cases c⟩
 · exact ⟨h.hd, h.hd, hz, h.rr, h.wi, h.t1, h.t2, h.fd⟩
theorem Kept.passed : Kept P tr tn S.passed ws := by
 unfold Sk.passed
 split
 · exact ⟨h.hd, h.pt, h.ah, hz, h.wi, h.t1, h.t2, fun _ c => by cases c⟩
 · exact ⟨h.hd, h.pt, hz, hz, h.wi, h.t1, h.t2, fun c => by cases c⟩
theorem Kept.left {l : Rf} (hl : P l) : Kept P tr tn (S.left l) ws := by
 unfold Sk.left
 split
 · exact ⟨h.hd, hl, hz, h.rr, h.wi, h.t1, h.t2, h.fd⟩
 · exact h.begin hz
theorem Kept.stand {r : Rf} (hr : P r) : Kept P tr tn (S.stand r) ws := ⟨h.hd, hr, hz, h.rr, h.wi, h.t1, h.t2, h.fd⟩
omit hz in
theorem liv_P {x y : Int} : ∀ (k : Nat) (last right r : Rf), lvM ws last right ≤ k → P right → liv ws x y last right = some r → P r := by
 intro k
 induction k with
 | zero =>
   intro last right r hk hi h2
   by_cases hg : rlt last right = true ∧ ckE right.rk right.kn = 0
   · cases hl : look ws (right.id, x, y) with
     | none => rw [liv_none hg hl] at h2; injection h2 with h2; rw [← h2]; exact hi
     | some q => have := lvM_lt hg.1 hl; omega
   · rw [liv_bad hg] at h2; cases h2
 | succ k ih =>
   intro last right r hk hi h2
   by_cases hg : rlt last right = true ∧ ckE right.rk right.kn = 0
   · cases hl : look ws (right.id, x, y) with
     | none => rw [liv_none hg hl] at h2; injection h2 with h2; rw [← h2]; exact hi
     | some q =>
       have := lvM_lt hg.1 hl
       rw [liv_some hg hl] at h2
       exact ih right q r (by omega) (h.wi _ (look_some hl)) h2
   · rw [liv_bad hg] at h2; cases h2
theorem Kept.right {r : Rf} (hr : P r) : Kept P tr tn (S.right ws r) ws := by
 unfold Sk.right
 cases hE : liv ws S.wl S.wb S.pt r with
 | none => exact h.begin hz
 | some x =>
   have hx := liv_P h _ _ _ _ (Nat.le_refl _) hr hE
   show Kept P tr tn (S.next x) ws
   unfold Sk.next
   split
   · exact ⟨h.hd, h.pt, hx, h.rr, h.wi, h.t1, h.t2, h.fd⟩
   · split
     · exact ⟨h.hd, h.pt, hz, h.rr, h.wi, h.t1, h.t2, h.fd⟩
     · refine ⟨h.hd, h.pt, h.ah, hx, h.wi, h.t1, h.t2, fun _ c => ?_⟩
       have c2 : (x.rk == S.tr && x.kn == S.tn) = true := c
       rw [Bool.and_eq_true, beq_iff_eq, beq_iff_eq, h.t1, h.t2] at c2
       exact c2
theorem Kept.tell {a : An} (hl : P a.l) (hr : P a.r) : Kept P tr tn (S.tell ws a).1 (S.tell ws a).2 := by
 unfold Sk.tell
 split
 · exact h
 split
 · unfold Sk.hearA
   split
   · exact (h.stand hz h.ah).right hz hr
   · split
     · exact (h.passed hz).put hr
     · exact h.begin hz
 · unfold Sk.hearH
   split
   · split
     · exact h.right hz hr
     · exact h.left hz hl
   · split
     · exact (h.begin hz).put hr
     · exact h.begin hz
end
theorem Kept.newS {h : Int} {s : Rf} {tr tn : Int} (hb : 0 ≤ s.bt) : Kept (fun r => 0 ≤ r.bt) tr tn (newS h s tr tn) [] :=
 ⟨show (0 : Int) ≤ 0 by decide, hb, show (0 : Int) ≤ 0 by decide, show (0 : Int) ≤ 0 by decide, fun _ hx => (by cases hx), rfl, rfl, fun c => (by cases c)⟩

/-- A removal: itself, its search with the wills, its unsplice. -/
structure Rv where
 R : Rm
 S : Sk
 ws : List (Pl × Rf)
 U : Us
def Rv.tell (T : Rv) (a : An) : Rv :=
 if T.R.pl = 1 then ⟨T.R.went (T.S.tell T.ws a).1, (T.S.tell T.ws a).1, (T.S.tell T.ws a).2, T.U⟩
 else if T.R.pl = 2 then ⟨T.R.hear a.k, T.S, T.ws, unewS T.R.x.ln T.R.x.bt T.R.x T.R.oa T.R.oo⟩
 else if T.R.pl = 3 then ⟨T.R.wentU (T.U.tell a), T.S, T.ws, T.R.nextU (T.U.tell a)⟩
 else T
def Rv.wake (T : Rv) : Rv := if T.R.pl = 3 then { T with U := T.U.wake } else T
def Rv.held (T : Rv) : List Rf := if T.R.pl = 3 then T.U.held else []
def Rv.step (T : Rv) : List Value := if T.R.pl = 1 then T.S.step else if T.R.pl = 2 then spL 1 T.R.x 9 0 0 0 zr zr false else if T.R.pl = 3 then T.U.step else spL 3 zr 0 0 0 T.R.e zr zr false
/-- The bits of an answer's references are numbers of no sign. -/
def ABt (a : An) : Prop := 0 ≤ a.l.bt ∧ 0 ≤ a.r.bt
/-- What stays true of a removal of a key: marks asked for, the last list left. -/
structure TI (K : Int) (T : Rv) (mk last : Int) : Prop where
 p1 : 1 ≤ T.R.pl
 p4 : T.R.pl ≤ 4
 so : SOk T.S T.ws
 sk : Kept (fun r => 0 ≤ r.bt) 2 K T.S T.ws
 ov : T.R.pl = 1 → T.S.ov = false
 xb : 0 ≤ T.R.x.bt
 k2 : T.R.pl = 2 → T.R.x.rk = 2 ∧ T.R.x.kn = K
 m0 : T.R.pl = 1 ∨ T.R.pl = 2 → mk = 0
 l9 : T.R.pl = 1 ∨ T.R.pl = 2 → last = 99
 md : T.R.pl = 3 → T.R.md = true
 u : T.R.pl = 3 → Inv T.R.ll T.R.lb T.U
 n10 : T.R.pl = 3 → T.U.pl ≠ 10
 lt : T.R.pl = 3 → T.R.ll ≤ last
 rl : T.R.pl = 3 → rt T.R.ll T.R.lb = true ∧ 0 ≤ T.R.lb
theorem TI.new (h : Int) (st : Rf) (K oa oo : Int) (U : Us) (hm : mayC h st 2 K = true) (hb : 0 ≤ st.bt) (hi : (Lit.int .i64 st.id).wf = true) : TI K ⟨newR oa oo, newS h st 2 K, [], U⟩ 0 99 :=
 ⟨show (1 : Int) ≤ 1 by decide, show (1 : Int) ≤ 4 by decide, newS_ok hm hb hi, Kept.newS hb, fun _ => rfl, show (0 : Int) ≤ 0 by decide, fun h => absurd (show (1 : Int) = 2 from h) (by decide), fun _ => rfl, fun _ => rfl, fun h => absurd (show (1 : Int) = 3 from h) (by decide), fun h => absurd (show (1 : Int) = 3 from h) (by decide), fun h => absurd (show (1 : Int) = 3 from h) (by decide), fun h => absurd (show (1 : Int) = 3 from h) (by decide), fun h => absurd (show (1 : Int) = 3 from h) (by decide)⟩
theorem ne43 {α : Prop} (h : (4 : Int) = 3) : α := absurd h (by decide)
/-- It is over. -/
theorem TI.over {K : Int} {T : Rv} {mk last : Int} (h : TI K T mk last) (mk2 last2 e : Int) (S : Sk) (ws : List (Pl × Rf)) (so : SOk S ws) (sk : Kept (fun r => 0 ≤ r.bt) 2 K S ws) (U : Us) (m : Bool) : TI K ⟨{ T.R with pl := 4, e := e, md := m }, S, ws, U⟩ mk2 last2 :=
 ⟨show (1 : Int) ≤ 4 by decide, show (4 : Int) ≤ 4 by decide, so, sk, fun h => absurd (show (4 : Int) = 1 from h) (by decide), h.xb, fun h => absurd (show (4 : Int) = 2 from h) (by decide), fun h => h.elim (fun h => absurd (show (4 : Int) = 1 from h) (by decide)) (fun h => absurd (show (4 : Int) = 2 from h) (by decide)), fun h => h.elim (fun h => absurd (show (4 : Int) = 1 from h) (by decide)) (fun h => absurd (show (4 : Int) = 2 from h) (by decide)), fun h => ne43 h, fun h => ne43 h, fun h => ne43 h, fun h => ne43 h, fun h => ne43 h⟩
theorem bgS_rt {n b m c : Int} (h : bgS n b m c = true) : rt m c = true := by
 unfold bgS at h
 simp only [Bool.and_eq_true] at h
 exact h.1.1.2
/-- A list is left. -/
theorem TI.leave {K : Int} {T : Rv} {mk last : Int} (h : TI K T mk last) (mk2 last2 x y : Int) (hy : 0 ≤ y) (hx : rt x y = true → x ≤ last2) (hmd : T.R.md = true) : TI K ⟨T.R.leave x y, T.S, T.ws, unewS x y T.R.x T.R.oa T.R.oo⟩ mk2 last2 ∧ (⟨T.R.leave x y, T.S, T.ws, unewS x y T.R.x T.R.oa T.R.oo⟩ : Rv).held = [] := by
 unfold Rm.leave
 split
 · rename_i hm
   have hb : bgS T.R.x.ln T.R.x.bt x y = true := by
     unfold umayC at hm
     simp only [Bool.and_eq_true] at hm
     exact hm.2.1
   have hr := bgS_rt hb
   refine ⟨⟨show (1 : Int) ≤ 3 by decide, show (3 : Int) ≤ 4 by decide, h.so, h.sk, fun h => absurd (show (3 : Int) = 1 from h) (by decide), h.xb, fun h => absurd (show (3 : Int) = 2 from h) (by decide), fun h => h.elim (fun h => absurd (show (3 : Int) = 1 from h) (by decide)) (fun h => absurd (show (3 : Int) = 2 from h) (by decide)), fun h => h.elim (fun h => absurd (show (3 : Int) = 1 from h) (by decide)) (fun h => absurd (show (3 : Int) = 2 from h) (by decide)), fun _ => hmd, fun _ => Inv.new x y _ _ _, fun _ => show (1 : Int) ≠ 10 by decide, fun _ => hx hr, fun _ => ⟨hr, hy⟩⟩, ?_⟩
   unfold Rv.held
   rw [if_pos rfl]
   exact held_1 (Or.inl rfl)
 · refine ⟨h.over mk2 last2 0 T.S T.ws h.so h.sk _ T.R.md, ?_⟩
   unfold Rv.held
   rw [if_neg (show ¬(4 : Int) = 3 by decide)]
/-- The unsplice at hand has taken a turn. -/
theorem TI.turnU {K : Int} {T : Rv} {mk last : Int} (h : TI K T mk last) (hp : T.R.pl = 3) (U : Us) (iv : Inv T.R.ll T.R.lb U) (last2 : Int) (hl : T.R.ll ≤ last2) : TI K ⟨T.R.wentU U, T.S, T.ws, T.R.nextU U⟩ mk last2 ∧ (⟨T.R.wentU U, T.S, T.ws, T.R.nextU U⟩ : Rv).held = U.held := by
 unfold Rm.wentU Rm.nextU
 by_cases h10 : U.pl = 10
 · rw [if_pos h10, if_pos h10, held_1 (Or.inr (Or.inr (Or.inr h10)))]
   unfold Rm.left
   split
   · refine ⟨h.over mk last2 0 T.S T.ws h.so h.sk _ T.R.md, ?_⟩
     unfold Rv.held
     rw [if_neg (show ¬(4 : Int) = 3 by decide)]
   · exact h.leave mk last2 _ _ (Int.natCast_nonneg _) (fun _ => by omega) (h.md hp)
 · rw [if_neg h10, if_neg h10]
   refine ⟨⟨h.p1, h.p4, h.so, h.sk, h.ov, h.xb, h.k2, h.m0, fun c => c.elim (fun (c : T.R.pl = 1) => (by omega)) (fun (c : T.R.pl = 2) => (by omega)), h.md, fun _ => iv, fun _ => h10, fun _ => hl, h.rl⟩, ?_⟩
   unfold Rv.held
   rw [if_pos hp]
theorem TI.tellU {K : Int} {T : Rv} {mk last : Int} (h : TI K T mk last) (hp : T.R.pl = 3) (a : An) (last2 : Int) (hl : T.R.ll ≤ last2) {H : List Rf} (iv : Inv T.R.ll T.R.lb (T.U.tell a) ∧ (T.U.tell a).held = H) : TI K (T.tell a) mk last2 ∧ (T.tell a).held = H := by
 unfold Rv.tell
 rw [if_neg (by omega), if_neg (by omega), if_pos hp, ← iv.2]
 exact h.turnU hp _ iv.1 last2 hl

/-- What a step shows first. -/
def hdL (k : Int) (r : Rf) (q x y : Int) : List Value := [.int .i64 k, .int .i64 r.id, .int .i64 r.rk, .int .u64 r.kn, .int .i64 r.ln, .int .u64 r.bt, .int .i64 q, .int .i64 x, .int .u64 y]
/-- A turn of a removal: what it asks, and what becomes of it. -/
inductive Turn (K : Int) (T : Rv) (mk last : Int) : Int → Rf → Int → Int → Prop
 | idle (k : Int) (r : Rf) (q x : Int) (hk : k ≠ 1) (hh : T.held = []) (hw : TI K T.wake mk last) (ht : ∀ a, AOk a → ABt a → TI K (T.wake.tell a) mk last ∧ (T.wake.tell a).held = []) : Turn K T mk last k r q x
 | read (r : Rf) (x : Int) (ht : ∀ a, AOk a → ABt a → TI K (T.tell a) mk last ∧ (T.tell a).held = T.held) : Turn K T mk last 1 r 1 x
 | mark (r : Rf) (x : Int) (h0 : mk = 0) (h2 : r.rk = 2) (hK : r.kn = K) (ht : ∀ a, AOk a → ABt a → TI K (T.tell a) 1 last ∧ (T.tell a).held = T.held) : Turn K T mk last 1 r 9 x
 | lock (r : Rf) (x : Int) (hm : T.R.md = true) (ht : ∀ a, AOk a → ABt a → TI K (T.tell a) mk last ∧ (T.tell a).held = if a.k = 1 then T.held ++ [r] else T.held) : Turn K T mk last 1 r 3 x
 | put (r : Rf) (q x : Int) (hq : q = 5 ∨ q = 6) (hm : T.R.md = true) (ht : ∀ a, AOk a → ABt a → TI K (T.tell a) mk last ∧ (T.tell a).held = T.held) : Turn K T mk last 1 r q x
 | out (r : Rf) (x : Int) (hm : T.R.md = true) (hx : x ≤ last) (ht : ∀ a, AOk a → ABt a → TI K (T.tell a) mk x ∧ (T.tell a).held = T.held.filter (fun z => decide (z ≠ r))) : Turn K T mk last 1 r 8 x
 | free (r : Rf) (x : Int) (ht : ∀ a, AOk a → ABt a → TI K (T.tell a) mk last ∧ (T.tell a).held = T.held.filter (fun z => decide (z ≠ r))) : Turn K T mk last 1 r 4 x
/-- A turn with the cells that its step has. -/
def Turns (K : Int) (T : Rv) (mk last : Int) : Prop := ∃ k r q x y tl, T.step = hdL k r q x y ++ tl ∧ tl.length = 27 ∧ (∀ v ∈ T.step, v.oneCell' = true) ∧ Turn K T mk last k r q x
theorem sp_tl (k : Int) (r : Rf) (q x y e : Int) (l r2 : Rf) (f : Bool) : ∃ tl, spL k r q x y e l r2 f = hdL k r q x y ++ tl ∧ tl.length = 27 ∧ ∀ v ∈ spL k r q x y e l r2 f, v.oneCell' = true :=
 ⟨(spL k r q x y e l r2 f).drop 9, rfl, rfl, List.all_eq_true.1 (by kernel_rfl)⟩
theorem st_tl (k : Int) (r : Rf) (q x y : Int) (r1 r2 : Rf) (oa oo e : Int) (l r3 : Rf) : ∃ tl, stL k r q x y r1 r2 oa oo e l r3 = hdL k r q x y ++ tl ∧ tl.length = 27 ∧ ∀ v ∈ stL k r q x y r1 r2 oa oo e l r3, v.oneCell' = true :=
 ⟨(stL k r q x y r1 r2 oa oo e l r3).drop 9, rfl, rfl, List.all_eq_true.1 (by kernel_rfl)⟩
section
variable {K : Int} {T : Rv} {mk last : Int} (h : TI K T mk last)
include h
theorem turn_1 (hp : T.R.pl = 1) : Turns K T mk last := by
 have hs : T.step = spL 1 T.S.to 1 T.S.wl T.S.wb 0 zr zr false := by
   unfold Rv.step Sk.step
   rw [if_pos hp, if_neg (by rw [h.ov hp]; decide)]
 obtain ⟨tl, e1, e2, e3⟩ := sp_tl 1 T.S.to 1 T.S.wl T.S.wb 0 zr zr false
 refine ⟨_, _, _, _, _, tl, hs.trans e1, e2, by rw [hs]; exact e3, .read _ _ fun a ha hb => ?_⟩
 have hh : T.held = [] := by unfold Rv.held; rw [if_neg (by omega)]
 have so := h.so.tell ha
 have sk := h.sk.tell (show (0 : Int) ≤ 0 by decide) hb.1 hb.2
 unfold Rv.tell
 rw [if_pos hp, hh]
 unfold Rm.went
 split
 · rename_i hov
   unfold Rm.sought
   split
   · exact ⟨h.over mk last _ _ _ so sk T.U T.R.md, by unfold Rv.held; rw [if_neg (show ¬(4 : Int) = 3 by decide)]⟩
   · split
     · exact ⟨h.over mk last _ _ _ so sk T.U T.R.md, by unfold Rv.held; rw [if_neg (show ¬(4 : Int) = 3 by decide)]⟩
     · rename_i hf
       have hf2 : (T.S.tell T.ws a).1.fd = true := by simpa using hf
       exact ⟨⟨show (1 : Int) ≤ 2 by decide, show (2 : Int) ≤ 4 by decide, so, sk, fun h => absurd (show (2 : Int) = 1 from h) (by decide), sk.rr, fun _ => sk.fd hov hf2, fun _ => h.m0 (Or.inl hp), fun _ => h.l9 (Or.inl hp), fun h => absurd (show (2 : Int) = 3 from h) (by decide), fun h => absurd (show (2 : Int) = 3 from h) (by decide), fun h => absurd (show (2 : Int) = 3 from h) (by decide), fun h => absurd (show (2 : Int) = 3 from h) (by decide), fun h => absurd (show (2 : Int) = 3 from h) (by decide)⟩, by unfold Rv.held; rw [if_neg (show ¬(2 : Int) = 3 by decide)]⟩
 · rename_i hov
   exact ⟨⟨h.p1, h.p4, so, sk, fun _ => by simpa using hov, h.xb, h.k2, h.m0, h.l9, h.md, h.u, h.n10, h.lt, h.rl⟩, by unfold Rv.held; rw [if_neg (by show ¬T.R.pl = 3; omega)]⟩
theorem turn_2 (hp : T.R.pl = 2) : Turns K T mk last := by
 have hs : T.step = spL 1 T.R.x 9 0 0 0 zr zr false := by
   unfold Rv.step
   rw [if_neg (by omega), if_pos hp]
 obtain ⟨tl, e1, e2, e3⟩ := sp_tl 1 T.R.x 9 0 0 0 zr zr false
 refine ⟨_, _, _, _, _, tl, hs.trans e1, e2, by rw [hs]; exact e3, .mark _ _ (h.m0 (Or.inr hp)) (h.k2 hp).1 (h.k2 hp).2 fun a ha hb => ?_⟩
 have hh : T.held = [] := by unfold Rv.held; rw [if_neg (by omega)]
 unfold Rv.tell
 rw [if_neg (by omega), if_pos hp, hh]
 unfold Rm.hear
 split
 · have hT : TI K { T with R := { T.R with md := true } } mk last := ⟨h.p1, h.p4, h.so, h.sk, h.ov, h.xb, h.k2, h.m0, h.l9, fun _ => rfl, h.u, h.n10, h.lt, h.rl⟩
   exact hT.leave 1 last _ _ h.xb (fun hr => by rw [h.l9 (Or.inr hp)]; have := (of_decide_eq_true hr).2.1; omega) rfl
 · split
   · exact ⟨h.over 1 last 132 T.S T.ws h.so h.sk _ T.R.md, by unfold Rv.held; rw [if_neg (show ¬(4 : Int) = 3 by decide)]⟩
   · exact ⟨h.over 1 last 101 T.S T.ws h.so h.sk _ T.R.md, by unfold Rv.held; rw [if_neg (show ¬(4 : Int) = 3 by decide)]⟩
theorem turn_4 (hp : T.R.pl = 4) : Turns K T mk last := by
 have hs : T.step = spL 3 zr 0 0 0 T.R.e zr zr false := by
   unfold Rv.step
   rw [if_neg (by omega), if_neg (by omega), if_neg (by omega)]
 obtain ⟨tl, e1, e2, e3⟩ := sp_tl 3 zr 0 0 0 T.R.e zr zr false
 have hh : T.held = [] := by unfold Rv.held; rw [if_neg (by omega)]
 refine ⟨_, _, _, _, _, tl, hs.trans e1, e2, by rw [hs]; exact e3, .idle _ _ _ _ (by decide) hh (by rw [show T.wake = T from if_neg (by omega)]; exact h) fun a ha hb => ?_⟩
 have hw : T.wake = T := if_neg (by omega)
 have ht : T.tell a = T := by unfold Rv.tell; rw [if_neg (by omega), if_neg (by omega), if_neg (by omega)]
 rw [hw, ht]
 exact ⟨h, hh⟩
theorem turn_3 (hp : T.R.pl = 3) : Turns K T mk last := by
 have iv := h.u hp
 have hh : T.held = T.U.held := if_pos hp
 have hs : T.step = T.U.step := by
   unfold Rv.step
   rw [if_neg (by omega), if_neg (by omega), if_pos hp]
 have hm := h.md hp
 have hl := h.lt hp
 have n10 := h.n10 hp
 have g1 := iv.ok.1
 have g2 := iv.ok.2.1
 have hw := iv.w1
 unfold Us.step at hs
 by_cases h1 : T.U.pl = 1
 · rw [if_pos h1] at hs
   obtain ⟨tl, e1, e2, e3⟩ := st_tl 1 T.U.me 1 T.U.wl T.U.wb zr zr 0 0 0 zr zr
   have hd : T.U.held = [] := held_1 (Or.inl h1)
   refine ⟨_, _, _, _, _, tl, hs.trans e1, e2, by rw [hs]; exact e3, .read _ _ fun a ha hb => ?_⟩
   rw [hh, hd]
   exact h.tellU hp a last (by omega) (tl_1 iv a h1)
 rw [if_neg h1] at hs
 by_cases h2 : T.U.pl = 2
 · rw [if_pos h2] at hs
   obtain ⟨tl, e1, e2, e3⟩ := st_tl 1 T.U.lf 3 T.U.wl T.U.wb zr zr T.U.oa T.U.oo 0 zr zr
   have hd : T.U.held = [] := held_1 (Or.inr (Or.inl h2))
   refine ⟨_, _, _, _, _, tl, hs.trans e1, e2, by rw [hs]; exact e3, .lock _ _ hm fun a ha hb => ?_⟩
   rw [hh, hd]
   by_cases hk : a.k = 1
   · rw [if_pos hk]; exact h.tellU hp a last (by omega) (tl_2y iv a h2 hk)
   · rw [if_neg hk]; exact h.tellU hp a last (by omega) (tl_2n iv a h2 hk)
 rw [if_neg h2] at hs
 by_cases h3 : T.U.pl = 3
 · rw [if_pos h3] at hs
   obtain ⟨tl, e1, e2, e3⟩ := st_tl 1 T.U.me 3 T.U.wl T.U.wb zr zr T.U.oa T.U.oo 0 zr zr
   have hd : T.U.held = [T.U.lf] := held_3 (Or.inl h3)
   refine ⟨_, _, _, _, _, tl, hs.trans e1, e2, by rw [hs]; exact e3, .lock _ _ hm fun a ha hb => ?_⟩
   rw [hh, hd]
   by_cases hk : a.k = 1
   · rw [if_pos hk]; exact h.tellU hp a last (by omega) (tl_3y iv a h3 hk)
   · rw [if_neg hk]; exact h.tellU hp a last (by omega) (tl_3n iv a h3 hk)
 rw [if_neg h3] at hs
 by_cases h4 : T.U.pl = 4
 · rw [if_pos h4] at hs
   obtain ⟨tl, e1, e2, e3⟩ := st_tl 1 T.U.lf 5 T.U.wl T.U.wb T.U.rg zr T.U.oa T.U.oo 0 zr zr
   have hd : T.U.held = [T.U.lf, T.U.me] := held_4 (by omega) (by omega)
   refine ⟨_, _, _, _, _, tl, hs.trans e1, e2, by rw [hs]; exact e3, .put _ _ _ (by decide) hm fun a ha hb => ?_⟩
   rw [hh, hd]
   exact h.tellU hp a last (by omega) (tl_4 iv a h4)
 rw [if_neg h4] at hs
 by_cases h5 : T.U.pl = 5
 · rw [if_pos h5] at hs
   obtain ⟨tl, e1, e2, e3⟩ := st_tl 1 T.U.rg 6 T.U.wl T.U.wb T.U.lf zr 0 0 0 zr zr
   have hd : T.U.held = [T.U.lf, T.U.me] := held_4 (by omega) (by omega)
   refine ⟨_, _, _, _, _, tl, hs.trans e1, e2, by rw [hs]; exact e3, .put _ _ _ (by decide) hm fun a ha hb => ?_⟩
   rw [hh, hd]
   exact h.tellU hp a last (by omega) (tl_5 iv a h5)
 rw [if_neg h5] at hs
 by_cases h6 : T.U.pl = 6
 · rw [if_pos h6] at hs
   obtain ⟨tl, e1, e2, e3⟩ := st_tl 1 T.U.me 8 T.U.wl T.U.wb zr zr T.U.oa T.U.oo 0 zr zr
   have hd : T.U.held = [T.U.lf, T.U.me] := held_4 (by omega) (by omega)
   refine ⟨_, _, _, _, _, tl, hs.trans e1, e2, by rw [hs]; exact e3, .out _ _ hm (by omega) fun a ha hb => ?_⟩
   rw [hh, hd, wo_2 (klt_ne (iv.lt (by omega) (by omega)))]
   exact h.tellU hp a T.U.wl (by omega) (tl_6 iv a h6)
 rw [if_neg h6] at hs
 by_cases h7 : T.U.pl = 7
 · rw [if_pos h7] at hs
   obtain ⟨tl, e1, e2, e3⟩ := st_tl 1 T.U.me 4 T.U.wl T.U.wb zr zr T.U.oa T.U.oo 0 zr zr
   have hd : T.U.held = [T.U.lf, T.U.me] := held_4 (by omega) (by omega)
   refine ⟨_, _, _, _, _, tl, hs.trans e1, e2, by rw [hs]; exact e3, .free _ _ fun a ha hb => ?_⟩
   rw [hh, hd, wo_2 (klt_ne (iv.lt (by omega) (by omega)))]
   exact h.tellU hp a last (by omega) (tl_7 iv a h7)
 rw [if_neg h7] at hs
 by_cases h8 : T.U.pl = 8
 · rw [if_pos h8] at hs
   obtain ⟨tl, e1, e2, e3⟩ := st_tl 1 T.U.lf 4 T.U.wl T.U.wb zr zr T.U.oa T.U.oo 0 zr zr
   have hd : T.U.held = [T.U.lf] := held_3 (Or.inr h8)
   refine ⟨_, _, _, _, _, tl, hs.trans e1, e2, by rw [hs]; exact e3, .free _ _ fun a ha hb => ?_⟩
   rw [hh, hd, wo_1]
   exact h.tellU hp a last (by omega) (tl_8 iv a h8)
 rw [if_neg h8] at hs
 by_cases h9 : T.U.pl = 9
 · rw [if_pos h9] at hs
   obtain ⟨tl, e1, e2, e3⟩ := st_tl 2 zr 0 0 0 zr zr 0 0 0 zr zr
   have hd : T.U.held = [] := held_1 (Or.inr (Or.inr (Or.inl h9)))
   have hwk : T.wake = { T with U := T.U.wake } := if_pos hp
   have hT : TI K { T with U := T.U.wake } mk last := ⟨h.p1, h.p4, h.so, h.sk, h.ov, h.xb, h.k2, h.m0, h.l9, h.md, fun _ => iv.wake, fun _ => by show T.U.wake.pl ≠ 10; unfold Us.wake; rw [if_pos h9]; show (1 : Int) ≠ 10; decide, h.lt, h.rl⟩
   refine ⟨_, _, _, _, _, tl, hs.trans e1, e2, by rw [hs]; exact e3, .idle _ _ _ _ (by decide) (hh.trans hd) (by rw [hwk]; exact hT) fun a ha hb => ?_⟩
   rw [hwk]
   exact hT.tellU hp a last hl (tl_1 iv.wake a (by show T.U.wake.pl = 1; unfold Us.wake; rw [if_pos h9]))
 rw [if_neg h9] at hs
 omega
theorem turn : Turns K T mk last := by
 have g1 := h.p1
 have g4 := h.p4
 have : T.R.pl = 1 ∨ T.R.pl = 2 ∨ T.R.pl = 3 ∨ T.R.pl = 4 := by omega
 rcases this with hp | hp | hp | hp
 · exact turn_1 h hp
 · exact turn_2 h hp
 · exact turn_3 h hp
 · exact turn_4 h hp
end

end Go.Proofs.YtokehogcenjefaaGreatDoor

/- Rows of references of one's own; the law's drop. -/
namespace Go.Proofs.YtokehogcenjefaaGreatDoor
open Go.RowKit Go.Maps Go.ChangeMaps

theorem addn (g o j : Nat) : (⟨g, o, none⟩ : Addr).add j = ⟨g, o + j, none⟩ := by unfold Addr.add; split <;> simp_all
theorem infoRf : (Tryz.prog.info? 29).map (fun i => (i.zero, i.size, i.bytes)) = some (some (.agg #[.int .i64 0, .int .i64 0, .int .u64 0, .int .i64 0, .int .u64 0]), 5, 40) := by kernel_rfl
/-- A row of references of one's own, laid at base or behind. -/
structure Ro (base : Nat) (w : World) (v : Value) (l : List Rf) : Prop where
 row : Rw w 29 5 v l.length (rfs l)
 new : ∀ k, v.ownBlock = some k → base ≤ k
theorem Ro.nil (base : Nat) (w : World) : Ro base w (.slice none 0 0) [] := ⟨⟨rfl, Or.inl ⟨rfl, rfl⟩⟩, fun k hk => (by cases hk)⟩
theorem Ro.below {base : Nat} {w w' : World} {v : Value} {l : List Rf} (h : Ro base w v l) (hb : Below w.heap.size w w') : Ro base w' v l := ⟨h.row.below hb, h.new⟩
theorem Ro.kp {base : Nat} {w w' : World} {v : Value} {l : List Rf} {S : List Nat} (h : Ro base w v l) (hk : Kp S w w') (hS : ∀ k ∈ S, ∀ cs, ¬ IsB w k cs 29) : Ro base w' v l :=
 ⟨h.row.kp hk fun k hk2 hm => by obtain ⟨-, cur, hc⟩ := h.row.lt k hk2; exact hS k hm cur hc, h.new⟩
theorem Ro.ne {base : Nat} {w : World} {v : Value} {l : List Rf} (h : Ro base w v l) {b : Nat} {cs : Array Value} {t : TypeId} (I : IsB w b cs t) (ht : t ≠ 29) : ∀ k ∈ v.ownBlock.toList, k ≠ b := by
 intro k hk
 obtain ⟨-, cur, hc⟩ := h.row.lt k (by simpa using hk)
 exact fun e => IsB.ne_t I (show IsB w k cur 29 from hc) ht e.symm
theorem Ro.shape {base : Nat} {w : World} {v : Value} {l : List Rf} (h : Ro base w v l) : ∃ a c, v = .slice a l.length c ∧ l.length ≤ c ∧ c ≤ maxLen := h.row.shape
theorem Ro.push {base : Nat} {w : World} {v : Value} {l : List Rf} (h : Ro base w v l) (x : Rf) (hlen : l.length ≤ 100000) (hbs : base ≤ w.heap.size) (ty : TypeId) :
   ∃ qa qc w', (Builtin.append_ #[66, 66] ty #[v, .slice (some ⟨w.heap.size, 0, none⟩) 1 1]).run Tryz.prog (w.alloc (.cells x.cells 29)) = .ok (.slice qa (l.length + 1) qc) w' ∧ Ro base w' (.slice qa (l.length + 1) qc) (l ++ [x]) ∧ Kp v.ownBlock.toList w w' := by
 have hb := (Below.refl w.heap.size w).alloc (Nat.le_refl _) (.cells x.cells 29)
 have hg := IsB.new w x.cells 29
 have h' := h.below hb
 generalize w.alloc (.cells x.cells 29) = W at *
 obtain ⟨i0, hi0, hz0, hz1, hz2⟩ := info_parts infoRf
 have hcells : ∀ j u, (rfs [x])[j]? = some u → W.cell? ((⟨w.heap.size, 0, none⟩ : Addr).add j) = some u := fun j u hu => by
   rw [addn, Nat.zero_add, hg.cell j]
   simpa [rfs, Rf.cells] using hu
 obtain ⟨v', w', hrun, hrw, hgr, hat, -⟩ := run_append_rw (P := Tryz.prog) W 66 ty 29 i0 _ 5 40 Tryz.underlying66 hi0 hz0 hz1 hz2 rfl v l.length (rfs l) h'.row (.slice (some ⟨w.heap.size, 0, none⟩) 1 1) 1 (rfs [x]) rfl (Or.inl ⟨⟨w.heap.size, 0, none⟩, 1, rfl, hcells⟩) (rfs_one [x]) (by unfold maxLen; omega) (by omega)
 obtain ⟨qa, qc, rfl, -, -⟩ := hrw.shape
 have hl : (l ++ [x]).length = l.length + 1 := by simp
 refine ⟨qa, qc, w', hrun, ⟨?_, fun k hk => ?_⟩, ?_⟩
 · rw [rfs_app, hl]
   exact hrw
 · rcases hat with e | e
   · exact h.new k (by rw [← e]; exact hk)
   · rw [e] at hk
     injection hk with hk
     have := hb.size
     omega
 · exact (Kp.of_below (S := v.ownBlock.toList) hb).tr (Kp.of_grown (S := v.ownBlock.toList) hgr (fun k hk => Or.inl (by rw [hk]; simp)))
theorem cs_get (x : Rf) (l : List Rf) (j : Nat) (hj : j < l.length) (hx : l[j] = x) (k : Nat) (hk : k < 5) : (rfs l)[j * 5 + k]? = x.cs[k]? := by
 obtain ⟨g0, g1, g2, g3, g4⟩ := rfs_get l j hj
 have : k = 0 ∨ k = 1 ∨ k = 2 ∨ k = 3 ∨ k = 4 := by omega
 rcases this with rfl | rfl | rfl | rfl | rfl
 · simpa [Rf.cs, hx] using g0
 · simpa [Rf.cs, hx] using g1
 · simpa [Rf.cs, hx] using g2
 · simpa [Rf.cs, hx] using g3
 · simpa [Rf.cs, hx] using g4
theorem Rw.ldr {w : World} {g n cap : Nat} {l : List Rf} (h : Rw w 29 5 (.slice (some ⟨g, 0, none⟩) n cap) n (rfs l)) (hn : l.length = n) (j : Nat) (hj : j < l.length) : (Instr.loadAt 29 (.pointer (some ⟨g, j * 5, none⟩))).run Tryz.prog w = .ok (.agg #[.int .i64 l[j].id, .int .i64 l[j].rk, .int .u64 l[j].kn, .int .i64 l[j].ln, .int .u64 l[j].bt]) w := by
 refine run_loadAt_mid w g (j * 5) 29 l[j].cs _ (fun k v hk => ?_) Tryz.underlying29 rfl (by kernel_rfl)
 have hk2 : k < 5 := (List.getElem?_eq_some_iff.1 hk).1
 rw [h.cellAt (j * 5 + k) (by omega), cs_get _ l j hj rfl k hk2]
 exact hk



end Go.Proofs.YtokehogcenjefaaGreatDoor

/- A removal, whatever it is at: in memory, and its calls. -/
namespace Go.Proofs.YtokehogcenjefaaGreatDoor
open Go.RowKit Go.Maps Go.ChangeMaps

/-- The machine at hand. -/
def handR (R : Rm) (s u : Nat) : Value := if R.pl = 1 then (.iface 133 (.pointer (some ⟨s, 0, none⟩))) else handU R u
/-- A removal in memory, at base or behind. -/
def RvAt (base : Nat) (w : World) (b : Nat) (T : Rv) : Prop := ∃ s m u, IsB w b (rmL T.R (handR T.R s u)).toArray 90 ∧ SkAt w s m T.S T.ws ∧ (T.R.pl = 3 → UsAt w u T.U ∧ base ≤ u) ∧ base ≤ b ∧ base ≤ s ∧ base ≤ m
/-- What its calls turn: its own blocks alone. -/
def Fr (base : Nat) (w w' : World) : Prop := ∃ L : List Nat, Kp L w w' ∧ ∀ k ∈ L, base ≤ k ∧ ∀ cs t, IsB w k cs t → t = 90 ∨ t = 171 ∨ t = 215
theorem Fr.below {base : Nat} {w w' : World} (h : Fr base w w') (hb : base ≤ w.heap.size) : Below base w w' := by
 obtain ⟨L, hk, hL⟩ := h
 exact hk.to_below hb (fun k hk => (hL k hk).1)
theorem Fr.blk {base : Nat} {w w' : World} (h : Fr base w w') {k : Nat} {cs : Array Value} {t : TypeId} (I : IsB w k cs t) (h1 : t ≠ 90) (h2 : t ≠ 171) (h3 : t ≠ 215) : IsB w' k cs t := by
 obtain ⟨L, hk, hL⟩ := h
 refine I.kp hk (fun hm => ?_)
 rcases (hL k hm).2 cs t I with e | e | e
 · exact h1 e
 · exact h2 e
 · exact h3 e
theorem Fr.ro {base bs : Nat} {w w' : World} (h : Fr base w w') {v : Value} {l : List Rf} (hr : Ro bs w v l) : Ro bs w' v l := by
 obtain ⟨L, hk, hL⟩ := h
 refine hr.kp hk (fun k hm cs I => ?_)
 rcases (hL k hm).2 cs _ I with e | e | e <;> exact absurd e (by decide)
theorem Fr.of_below {base : Nat} {w w' : World} (hb : Below w.heap.size w w') : Fr base w w' := ⟨[], Kp.of_below hb, fun _ hm => by cases hm⟩
theorem Fr.of_kp {base : Nat} {w w' : World} {L : List Nat} (hk : Kp L w w') (h : ∀ k ∈ L, base ≤ k ∧ ((∃ cs, IsB w k cs 90) ∨ (∃ cs, IsB w k cs 171) ∨ (∃ cs, IsB w k cs 215) ∨ ∀ cs t, ¬IsB w k cs t)) : Fr base w w' := by
 refine ⟨L, hk, fun k hm => ⟨(h k hm).1, fun cs t I => ?_⟩⟩
 have ty : ∀ {cs2 : Array Value} {t2 : TypeId}, IsB w k cs2 t2 → t = t2 := fun {cs2 t2} J => by
   by_cases c : t = t2
   · exact c
   · exact absurd rfl (IsB.ne_t I J c)
 rcases (h k hm).2 with ⟨c, J⟩ | ⟨c, J⟩ | ⟨c, J⟩ | J
 · exact Or.inl (ty J)
 · exact Or.inr (Or.inl (ty J))
 · exact Or.inr (Or.inr (ty J))
 · exact absurd I (J cs t)
theorem RvAt.below {base : Nat} {w w' : World} {b : Nat} {T : Rv} (h : RvAt base w b T) (hb : Below w.heap.size w w') : RvAt base w' b T := by
 obtain ⟨s, m, u, I, X, hu, h1⟩ := h
 exact ⟨s, m, u, I.below hb, X.below hb, fun c => ⟨UsAt.bel (hu c).1 hb, (hu c).2⟩, h1⟩
theorem RvAt.base_le {base : Nat} {w : World} {b : Nat} {T : Rv} (h : RvAt base w b T) : base ≤ b := by
 obtain ⟨s, m, u, I, X, hu, h1, -⟩ := h
 exact h1
theorem RvAt.sz {base : Nat} {w : World} {b : Nat} {T : Rv} (h : RvAt base w b T) : base ≤ w.heap.size ∧ b < w.heap.size := by
 obtain ⟨s, m, u, I, X, hu, h1, -⟩ := h
 have := I.lt
 exact ⟨by omega, this⟩
theorem Ranks.base {base : Nat} {w w' : World} (h : Ranks w) (hg : (0 : Nat) < base) (hb : Below base w w') : Ranks w' := by
 obtain ⟨h0, h1, h2, h3, h4, h5⟩ := h
 refine ⟨?_, ?_, ?_, ?_, ?_, ?_⟩ <;> (rw [hb.cell (by exact hg)]; assumption)
theorem RvAt.kpr {base : Nat} {w w' : World} {b : Nat} {T : Rv} (h : RvAt base w b T) {L : List Nat} (hk : Kp L w w') (hL : ∀ k ∈ L, ∃ cs, IsB w k cs 29) : RvAt base w' b T := by
 obtain ⟨s, m, u, I, X, hu, h1⟩ := h
 have ne : ∀ {k : Nat} {cs : Array Value} {t : TypeId}, IsB w k cs t → t ≠ 29 → k ∉ L := fun {k cs t} J ht hm => by
   obtain ⟨c, J2⟩ := hL k hm
   exact IsB.ne_t J J2 ht rfl
 exact ⟨s, m, u, I.kp hk (ne I (by decide)), X.kp hk (ne X.blk (by decide)) (fun hm => by obtain ⟨c, J2⟩ := hL m hm; exact X.map.off J2 rfl), fun c => ⟨IsB.kp (hu c).1 hk (ne (hu c).1 (by decide)), (hu c).2⟩, h1⟩
theorem TI.held_len {K : Int} {T : Rv} {mk last : Int} (_ : TI K T mk last) : T.held.length ≤ 2 := by
 unfold Rv.held Us.held
 split
 · split
   · simp
   · split <;> simp
 · simp
theorem no_blk {w : World} {m : Nat} {ws : List (Pl × Rf)} (h : PMp w m ws) (cs : Array Value) (t : TypeId) : ¬IsB w m cs t := fun I => absurd rfl (h.off I)
theorem hand_went (R : Rm) (hp : R.pl = 1) (S : Sk) (s u : Nat) : handOf S s = handR (R.went S) s u := by
 unfold handOf Rm.went
 split
 · unfold Rm.sought
   split
   · rfl
   · split <;> rfl
 · unfold handR
   rw [if_pos hp]
theorem hand_u {R : Rm} (h : R.pl ≠ 1) (s u : Nat) : handR R s u = handU R u := if_neg h
theorem hear_pl (R : Rm) (k : Int) : (R.hear k).pl ≠ 1 := by
 unfold Rm.hear Rm.leave
 split
 · split
   · show (3 : Int) ≠ 1; decide
   · show (4 : Int) ≠ 1; decide
 · split
   · show (4 : Int) ≠ 1; decide
   · show (4 : Int) ≠ 1; decide
theorem wentU_pl (R : Rm) (U : Us) (hp : R.pl = 3) : (R.wentU U).pl ≠ 1 := by
 unfold Rm.wentU Rm.left Rm.leave
 split
 · split
   · show (4 : Int) ≠ 1; decide
   · split
     · show (3 : Int) ≠ 1; decide
     · show (4 : Int) ≠ 1; decide
 · omega
theorem Inv.tell {wl wb : Int} {S : Us} (h : Inv wl wb S) (a : An) : Inv wl wb (S.tell a) := by
 have g1 := h.ok.1
 have g2 := h.ok.2.1
 by_cases h1 : S.pl = 1
 · exact (tl_1 h a h1).1
 by_cases h2 : S.pl = 2
 · by_cases hk : a.k = 1
   · exact (tl_2y h a h2 hk).1
   · exact (tl_2n h a h2 hk).1
 by_cases h3 : S.pl = 3
 · by_cases hk : a.k = 1
   · exact (tl_3y h a h3 hk).1
   · exact (tl_3n h a h3 hk).1
 by_cases h4 : S.pl = 4
 · exact (tl_4 h a h4).1
 by_cases h5 : S.pl = 5
 · exact (tl_5 h a h5).1
 by_cases h6 : S.pl = 6
 · exact (tl_6 h a h6).1
 by_cases h7 : S.pl = 7
 · exact (tl_7 h a h7).1
 by_cases h8 : S.pl = 8
 · exact (tl_8 h a h8).1
 · have e : S.tell a = S := by unfold Us.tell; rw [if_neg h1, if_neg h2, if_neg h3, if_neg h4, if_neg h5, if_neg h6, if_neg h7, if_neg h8]
   rw [e]; exact h

set_option maxHeartbeats 2000000 in
set_option maxRecDepth 100000 in
theorem rv_next (base b : Nat) {K : Int} {T : Rv} {mk last : Int} (h : TI K T mk last) (w : World) (X : RvAt base w b T) : Calls Tryz.prog 9 #[.pointer (some ⟨b, 0, none⟩)] w fun e' w' => e' = .returned (.agg T.step.toArray) ∧ Below w.heap.size w w' := by
 obtain ⟨s, m, u, I, X, hu, -⟩ := X
 unfold Rv.step
 have g1 := h.p1
 have g4 := h.p4
 by_cases h1 : T.R.pl = 1
 · rw [if_pos h1]
   have e : handR T.R s u = _ := if_pos h1
   rw [e] at I
   exact rnext_search b s m T.R T.S T.ws h1 w I X
 rw [if_neg h1]
 by_cases h2 : T.R.pl = 2
 · rw [if_pos h2]
   exact rnext_mark b T.R _ h2 w I
 rw [if_neg h2]
 by_cases h3 : T.R.pl = 3
 · rw [if_pos h3]
   have e : handR T.R s u = _ := (hand_u h1 s u).trans (if_pos h3)
   rw [e] at I
   exact rnext_lists b u T.R T.U (h.u h3).ok h3 w I (hu h3).1
 · rw [if_neg h3]
   exact rnext_end b T.R _ (by omega) w I

set_option maxHeartbeats 2000000 in
set_option maxRecDepth 100000 in
theorem rv_tell (base b : Nat) {K : Int} {T : Rv} {mk last : Int} (h : TI K T mk last) (a : An) (ha : AOk a) (w : World) (hR : Ranks w) (hbw : base ≤ w.heap.size) (X : RvAt base w b T) : Calls Tryz.prog 12 #[.pointer (some ⟨b, 0, none⟩), .agg (anL a).toArray] w fun e' w' => e' = .returned (.tuple #[]) ∧ RvAt base w' b (T.tell a) ∧ Fr base w w' := by
 obtain ⟨s, m, u, I, X, hu, hb1, hb2, hb3⟩ := X
 have hs : b ≠ s := IsB.ne_t I X.blk (by decide)
 have hm : b ≠ m := X.map.off I
 unfold Rv.tell
 have g1 := h.p1
 have g4 := h.p4
 by_cases h1 : T.R.pl = 1
 · rw [if_pos h1]
   have e : handR T.R s u = _ := if_pos h1
   rw [e] at I
   refine (rtell_search b s m T.R T.S T.ws a h.so ha ⟨hs, hm⟩ h1 w hR I X).mono ?_
   rintro e1 w1 ⟨rfl, I1, X1, k1⟩
   refine ⟨rfl, ⟨s, m, u, ?_, X1, ?_, hb1, hb2, hb3⟩, Fr.of_kp k1 (fun k hk => ?_)⟩
   · rw [← hand_went T.R h1]; exact I1
   · intro c
     exfalso
     revert c
     show ¬(T.R.went _).pl = 3
     unfold Rm.went Rm.sought
     split
     · split
       · show ¬(4 : Int) = 3; decide
       · split
         · show ¬(4 : Int) = 3; decide
         · show ¬(2 : Int) = 3; decide
     · omega
   · simp only [List.mem_cons, List.not_mem_nil, or_false] at hk
     rcases hk with rfl | rfl | rfl
     · exact ⟨hb1, Or.inl ⟨_, I⟩⟩
     · exact ⟨hb2, Or.inr (Or.inl ⟨_, X.blk⟩)⟩
     · exact ⟨hb3, Or.inr (Or.inr (Or.inr (no_blk X.map)))⟩
 rw [if_neg h1]
 by_cases h2 : T.R.pl = 2
 · rw [if_pos h2]
   have e : handR T.R s u = .nilIface := (hand_u h1 s u).trans (if_neg (by omega))
   rw [e] at I
   refine (rtell_mark b T.R a h2 h.xb w I).mono ?_
   rintro e1 w1 ⟨u1, rfl, I1, X1, hu1, k1⟩
   refine ⟨rfl, ⟨s, m, u1, ?_, X.kp k1 (by simpa using Ne.symm hs) (by simpa using Ne.symm hm), fun c => ⟨X1 c, Nat.le_trans hbw hu1⟩, hb1, hb2, hb3⟩, Fr.of_kp k1 (fun k hk => ?_)⟩
   · rw [hand_u (hear_pl _ _)]; exact I1
   · simp only [List.mem_singleton] at hk
     subst hk
     exact ⟨hb1, Or.inl ⟨_, I⟩⟩
 rw [if_neg h2]
 by_cases h3 : T.R.pl = 3
 · rw [if_pos h3]
   have e : handR T.R s u = _ := (hand_u h1 s u).trans (if_pos h3)
   rw [e] at I
   obtain ⟨XU, hbu⟩ := hu h3
   have hus : s ≠ u := IsB.ne_t X.blk XU (by decide)
   have hum : u ≠ m := X.map.off XU
   refine (rtell_lists b u T.R T.U a (h.u h3).ok ((h.u h3).tell a).ok h3 h.xb (h.rl h3).1 (h.rl h3).2 w I XU).mono ?_
   rintro e1 w1 ⟨u1, rfl, I1, X1, hu1, k1⟩
   refine ⟨rfl, ⟨s, m, u1, ?_, X.kp k1 (by simp; exact ⟨Ne.symm hs, hus⟩) (by simp; exact ⟨Ne.symm hm, Ne.symm hum⟩), fun c => ⟨X1 c, ?_⟩, hb1, hb2, hb3⟩, Fr.of_kp k1 (fun k hk => ?_)⟩
   · rw [hand_u (wentU_pl _ _ h3)]; exact I1
   · rcases hu1 with e | e
     · rw [e]; exact hbu
     · exact Nat.le_trans hbw e
   · simp only [List.mem_cons, List.not_mem_nil, or_false] at hk
     rcases hk with rfl | rfl
     · exact ⟨hb1, Or.inl ⟨_, I⟩⟩
     · exact ⟨hbu, Or.inr (Or.inr (Or.inl ⟨_, XU⟩))⟩
 · rw [if_neg h3]
   refine (rtell_idle b T.R _ a (Or.inr (by omega)) w I).mono ?_
   rintro e1 w1 ⟨rfl, hb⟩
   exact ⟨rfl, RvAt.below ⟨s, m, u, I, X, hu, hb1, hb2, hb3⟩ hb, Fr.of_below hb⟩

set_option maxHeartbeats 2000000 in
set_option maxRecDepth 100000 in
theorem rv_wake (base b : Nat) (T : Rv) (w : World) (X : RvAt base w b T) : Calls Tryz.prog 14 #[.pointer (some ⟨b, 0, none⟩)] w fun e' w' => e' = .returned (.tuple #[]) ∧ RvAt base w' b T.wake ∧ Fr base w w' := by
 obtain ⟨s, m, u, I, X, hu, hb1, hb2, hb3⟩ := X
 have hs : b ≠ s := IsB.ne_t I X.blk (by decide)
 have hm : b ≠ m := X.map.off I
 unfold Rv.wake
 have same : ∀ {w1 : World}, w1 = w → RvAt base w1 b T ∧ Fr base w w1 := fun {w1} e => by
   subst e
   exact ⟨⟨s, m, u, I, X, hu, hb1, hb2, hb3⟩, Fr.of_below (Below.refl _ _)⟩
 by_cases h3 : T.R.pl = 3
 · rw [if_pos h3]
   have h1 : T.R.pl ≠ 1 := by omega
   have e : handR T.R s u = _ := (hand_u h1 s u).trans (if_pos h3)
   obtain ⟨XU, hbu⟩ := hu h3
   have hus : s ≠ u := IsB.ne_t X.blk XU (by decide)
   have hum : u ≠ m := X.map.off XU
   rw [e] at I
   refine (rwake_lists b u T.R T.U w I XU).mono ?_
   rintro e1 w1 ⟨rfl, I1, X1, k1⟩
   refine ⟨rfl, ⟨s, m, u, ?_, X.kp k1 (by simpa using hus) (by simpa using Ne.symm hum), fun _ => ⟨X1, hbu⟩, hb1, hb2, hb3⟩, Fr.of_kp k1 (fun k hk => ?_)⟩
   · show IsB w1 b (rmL T.R (handR T.R s u)).toArray 90
     rw [e]; exact I1
   · simp only [List.mem_singleton] at hk
     subst hk
     exact ⟨hbu, Or.inr (Or.inr (Or.inl ⟨_, XU⟩))⟩
 rw [if_neg h3]
 by_cases h1 : T.R.pl = 1
 · have e : handR T.R s u = _ := if_pos h1
   have I1 := I
   rw [e] at I1
   refine (rwake_search b s T.R w I1).mono ?_
   rintro e1 w1 ⟨rfl, hw⟩
   exact ⟨rfl, same hw⟩
 · have e : handR T.R s u = .nilIface := (hand_u h1 s u).trans (if_neg h3)
   have I1 := I
   rw [e] at I1
   refine (rwake_none b T.R w I1).mono ?_
   rintro e1 w1 ⟨rfl, hw⟩
   exact ⟨rfl, same hw⟩

set_option maxHeartbeats 2000000 in
set_option maxRecDepth 100000 in
theorem rv_marked (base b : Nat) (T : Rv) (w : World) (X : RvAt base w b T) : Calls Tryz.prog 11 #[.pointer (some ⟨b, 0, none⟩)] w fun e' w' => e' = .returned (.bool T.R.md) ∧ w' = w := by
 obtain ⟨s, m, u, I, -⟩ := X
 exact marked_any b T.R _ w I

set_option maxHeartbeats 2000000 in
set_option maxRecDepth 100000 in
theorem rv_new (h : Int) (st : Rf) (k oa oo : Int) (hb0 : 0 ≤ st.bt) (hm : mayC h st 2 k = true) (ho : okO oa oo = true) (w : World) (hR : Ranks w) : Calls Tryz.prog 6 #[.agg (rcL h st k oa oo).toArray] w fun e' w' => ∃ b, e' = .returned (.tuple #[.pointer (some ⟨b, 0, none⟩), .int .i64 0]) ∧ RvAt w.heap.size w' b ⟨newR oa oo, newS h st 2 k, [], unewS 0 0 zr 0 0⟩ ∧ Below w.heap.size w w' := by
 refine (rnew_ok h st k oa oo hb0 hm ho w hR).mono ?_
 rintro e1 w1 ⟨b, s, m, rfl, I, X, h1, h2, h3, h4, hb⟩
 exact ⟨b, rfl, ⟨s, m, 0, I, X, fun c => absurd (show (1 : Int) = 3 from c) (by decide), by omega, h3, h4⟩, hb⟩

end Go.Proofs.YtokehogcenjefaaGreatDoor
