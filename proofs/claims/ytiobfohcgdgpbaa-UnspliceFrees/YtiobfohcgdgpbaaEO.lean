/- UnspliceFrees walked. -/
import Derived.Test.YtiobfohcgdgpbaaEN
namespace Go.Proofs.Ytiobfohcgdgpbaa
open Go.RowKit Go.Maps Go.ChangeMaps

theorem sn_s (w : World) : (binOp .eql 36 (.pointer none) (.pointer none)).run Try.prog w = .ok (.bool true) w := by kernel_rfl
theorem vguard : Try.prog.eqGuardType Try.prog.depth 24 = false := by kernel_rfl
theorem nev0 (x y : Int) (w : World) : (binOp .neq 24 (.agg #[.int .i64 (x), .int .u64 (y)]) (.agg #[.int .i64 (x), .int .u64 (y)])).run Try.prog w = .ok (.bool false) w := by
  have u1 := Try.underlying3
  have a1 := Try.isAgg3
  have z1 := Try.sizeOf3
  have u2 := Try.underlying22
  have a2 := Try.isAgg22
  have z2 := Try.sizeOf22
  have hS : Try.prog.underlying 24 = some (.struct (Try.prog.fieldsOf 24)) := by kernel_rfl
  have hp : Try.prog.stoodInHeld 24 = false := by kernel_rfl
  rw [run_neq_struct, show (10000 : Nat) = 9999 + 1 from rfl, run_equalIn_agg w 9999 24 _ _ hS hp]
  simp only [Program.fieldsOf, Try.underlying24]
  go_simp
theorem AnSl.at3 {w : World} {v : Value} {l : List An} (h : AnSl w v l) (j : Nat) (hj : j < l.length) : ∃ g o c, v = .slice (some ⟨g, o, none⟩) l.length c ∧ (∀ w', Below w.heap.size w w' → w'.cell? ⟨g, o + j * 13, none⟩ = some (.int .i64 l[j].k)) ∧ ∀ w', Below w.heap.size w w' → (Instr.loadAt 58 (.pointer (some ⟨g, o + j * 13, none⟩))).run Try.prog w' = .ok (.agg (anL l[j]).toArray) w' := by
  obtain ⟨g, o, c, ev, hx⟩ := h.at2 j hj
  refine ⟨g, o, c, ev, fun w' hb => ?_, hx⟩
  rcases h with ⟨rfl, -⟩ | ⟨g', o', c', rfl, h1, h2, h3, h4⟩
  · cases ev
  · injection ev with e1 e2 e3
    injection e1 with e1
    injection e1 with e4 e5 e6
    subst e4 e5
    have := h4 j hj 0 (by decide)
    rw [Nat.add_zero] at this
    rw [hb.cell h3, this]
    rfl
/-- Who is held. -/
def Us.held (S : Us) : List Rf := if S.pl = 3 ∨ S.pl = 8 then [S.lf] else if 4 ≤ S.pl ∧ S.pl ≤ 7 then [S.lf, S.me] else []
/-- What stays true of a machine. -/
structure Inv (wl wb : Int) (S : Us) : Prop where
  ok : S.plok
  w1 : S.wl = wl
  w2 : S.wb = wb
  lt : 2 ≤ S.pl → S.pl ≤ 8 → klt (S.lf.rk, S.lf.kn) (S.me.rk, S.me.kn) = true
theorem klt_ne {x y : Rf} (h : klt (x.rk, x.kn) (y.rk, y.kn) = true) : x ≠ y := by
  rintro rfl
  unfold klt at h
  rw [kcmp_eq] at h
  simp at h
theorem Inv.new (wl wb : Int) (me : Rf) (oa oo : Int) : Inv wl wb (newS wl wb me oa oo) :=
  ⟨⟨show (1 : Int) ≤ 1 by decide, show (1 : Int) ≤ 10 by decide, Or.inl rfl⟩, rfl, rfl, fun h => absurd (show (2 : Int) ≤ 1 from h) (by decide)⟩
theorem held_1 {S : Us} (h : S.pl = 1 ∨ S.pl = 2 ∨ S.pl = 9 ∨ S.pl = 10) : S.held = [] := by unfold Us.held; rw [if_neg (by omega), if_neg (by omega)]
theorem held_3 {S : Us} (h : S.pl = 3 ∨ S.pl = 8) : S.held = [S.lf] := by unfold Us.held; rw [if_pos h]
theorem held_4 {S : Us} (h : 4 ≤ S.pl) (h7 : S.pl ≤ 7) : S.held = [S.lf, S.me] := by unfold Us.held; rw [if_neg (by omega), if_pos ⟨h, h7⟩]
theorem Inv.wake {wl wb : Int} {S : Us} (h : Inv wl wb S) : Inv wl wb S.wake := by
  unfold Us.wake
  by_cases hp : S.pl = 9
  · rw [if_pos hp]
    exact ⟨⟨show (1 : Int) ≤ 1 by decide, show (1 : Int) ≤ 10 by decide, h.ok.2.2⟩, h.w1, h.w2, fun c => absurd (show (2 : Int) ≤ 1 from c) (by decide)⟩
  · rw [if_neg hp]; exact h
theorem held_wake {S : Us} (h : S.pl = 9 ∨ S.pl = 10) : S.wake.held = [] := by
  unfold Us.wake
  rcases h with h | h
  · rw [if_pos h]; exact held_1 (Or.inl rfl)
  · rw [if_neg (by omega)]; exact held_1 (Or.inr (Or.inr (Or.inr h)))

theorem tl_1 {wl wb : Int} {S : Us} (h : Inv wl wb S) (a : An) (hp : S.pl = 1) : Inv wl wb (S.tell a) ∧ (S.tell a).held = [] := by
  unfold Us.tell
  rw [if_pos hp]
  unfold Us.hRead
  by_cases c1 : a.k = 1 ∧ klt (a.l.rk, a.l.kn) (S.me.rk, S.me.kn) = true
  · rw [if_pos c1]; exact ⟨⟨⟨show (1 : Int) ≤ 2 by decide, show (2 : Int) ≤ 10 by decide, h.ok.2.2⟩, h.w1, h.w2, fun _ _ => c1.2⟩, held_1 (Or.inr (Or.inl rfl))⟩
  rw [if_neg c1]
  by_cases c2 : awB a.k = true
  · rw [if_pos c2]; exact ⟨⟨⟨show (1 : Int) ≤ 10 by decide, show (10 : Int) ≤ 10 by decide, h.ok.2.2⟩, h.w1, h.w2, fun _ c => absurd (show (10 : Int) ≤ 8 from c) (by decide)⟩, held_1 (Or.inr (Or.inr (Or.inr rfl)))⟩
  · rw [if_neg c2]; exact ⟨⟨⟨show (1 : Int) ≤ 9 by decide, show (9 : Int) ≤ 10 by decide, h.ok.2.2⟩, h.w1, h.w2, fun _ c => absurd (show (9 : Int) ≤ 8 from c) (by decide)⟩, held_1 (Or.inr (Or.inr (Or.inl rfl)))⟩
theorem tl_2y {wl wb : Int} {S : Us} (h : Inv wl wb S) (a : An) (hp : S.pl = 2) (hk : a.k = 1) : Inv wl wb (S.tell a) ∧ (S.tell a).held = [S.lf] := by
  unfold Us.tell
  rw [if_neg (by omega : ¬S.pl = 1), if_pos hp]
  unfold Us.hLeft
  rw [if_pos hk]
  by_cases c1 : a.r = S.me
  · rw [if_pos c1]; exact ⟨⟨⟨show (1 : Int) ≤ 3 by decide, show (3 : Int) ≤ 10 by decide, h.ok.2.2⟩, h.w1, h.w2, fun _ _ => h.lt (by omega) (by omega)⟩, held_3 (Or.inl rfl)⟩
  · rw [if_neg c1]; exact ⟨⟨⟨show (1 : Int) ≤ 8 by decide, show (8 : Int) ≤ 10 by decide, h.ok.2.2⟩, h.w1, h.w2, fun _ _ => h.lt (by omega) (by omega)⟩, held_3 (Or.inr rfl)⟩
theorem tl_2n {wl wb : Int} {S : Us} (h : Inv wl wb S) (a : An) (hp : S.pl = 2) (hk : ¬a.k = 1) : Inv wl wb (S.tell a) ∧ (S.tell a).held = [] := by
  unfold Us.tell
  rw [if_neg (by omega : ¬S.pl = 1), if_pos hp]
  unfold Us.hLeft
  rw [if_neg hk]
  exact ⟨⟨⟨show (1 : Int) ≤ 9 by decide, show (9 : Int) ≤ 10 by decide, h.ok.2.2⟩, h.w1, h.w2, fun _ c => absurd (show (9 : Int) ≤ 8 from c) (by decide)⟩, held_1 (Or.inr (Or.inr (Or.inl rfl)))⟩
theorem tl_3y {wl wb : Int} {S : Us} (h : Inv wl wb S) (a : An) (hp : S.pl = 3) (hk : a.k = 1) : Inv wl wb (S.tell a) ∧ (S.tell a).held = [S.lf, S.me] := by
  unfold Us.tell
  rw [if_neg (by omega : ¬S.pl = 1), if_neg (by omega : ¬S.pl = 2), if_pos hp]
  unfold Us.hMe
  rw [if_pos hk]
  by_cases c1 : klt (S.me.rk, S.me.kn) (a.r.rk, a.r.kn) = true
  · rw [if_pos c1]; exact ⟨⟨⟨show (1 : Int) ≤ 4 by decide, show (4 : Int) ≤ 10 by decide, h.ok.2.2⟩, h.w1, h.w2, fun _ _ => h.lt (by omega) (by omega)⟩, held_4 (show (4 : Int) ≤ 4 by decide) (show (4 : Int) ≤ 7 by decide)⟩
  · rw [if_neg c1]; exact ⟨⟨⟨show (1 : Int) ≤ 7 by decide, show (7 : Int) ≤ 10 by decide, h.ok.2.2⟩, h.w1, h.w2, fun _ _ => h.lt (by omega) (by omega)⟩, held_4 (show (4 : Int) ≤ 7 by decide) (show (7 : Int) ≤ 7 by decide)⟩
theorem tl_3n {wl wb : Int} {S : Us} (h : Inv wl wb S) (a : An) (hp : S.pl = 3) (hk : ¬a.k = 1) : Inv wl wb (S.tell a) ∧ (S.tell a).held = [S.lf] := by
  unfold Us.tell
  rw [if_neg (by omega : ¬S.pl = 1), if_neg (by omega : ¬S.pl = 2), if_pos hp]
  unfold Us.hMe
  rw [if_neg hk]
  by_cases c1 : awB a.k = true
  · rw [if_pos c1]; exact ⟨⟨⟨show (1 : Int) ≤ 8 by decide, show (8 : Int) ≤ 10 by decide, Or.inr rfl⟩, h.w1, h.w2, fun _ _ => h.lt (by omega) (by omega)⟩, held_3 (Or.inr rfl)⟩
  · rw [if_neg c1]; exact ⟨⟨⟨show (1 : Int) ≤ 8 by decide, show (8 : Int) ≤ 10 by decide, h.ok.2.2⟩, h.w1, h.w2, fun _ _ => h.lt (by omega) (by omega)⟩, held_3 (Or.inr rfl)⟩
theorem tl_4 {wl wb : Int} {S : Us} (h : Inv wl wb S) (a : An) (hp : S.pl = 4) : Inv wl wb (S.tell a) ∧ (S.tell a).held = [S.lf, S.me] := by
  unfold Us.tell
  rw [if_neg (by omega : ¬S.pl = 1), if_neg (by omega : ¬S.pl = 2), if_neg (by omega : ¬S.pl = 3), if_pos hp]
  unfold Us.hRt
  by_cases c1 : a.k = 1 ∨ a.k = 3 ∧ a.r = S.rg
  · rw [if_pos c1]; exact ⟨⟨⟨show (1 : Int) ≤ 5 by decide, show (5 : Int) ≤ 10 by decide, h.ok.2.2⟩, h.w1, h.w2, fun _ _ => h.lt (by omega) (by omega)⟩, held_4 (show (4 : Int) ≤ 5 by decide) (show (5 : Int) ≤ 7 by decide)⟩
  · rw [if_neg c1]; exact ⟨⟨⟨show (1 : Int) ≤ 7 by decide, show (7 : Int) ≤ 10 by decide, h.ok.2.2⟩, h.w1, h.w2, fun _ _ => h.lt (by omega) (by omega)⟩, held_4 (show (4 : Int) ≤ 7 by decide) (show (7 : Int) ≤ 7 by decide)⟩
theorem tl_5 {wl wb : Int} {S : Us} (h : Inv wl wb S) (a : An) (hp : S.pl = 5) : Inv wl wb (S.tell a) ∧ (S.tell a).held = [S.lf, S.me] := by
  unfold Us.tell
  rw [if_neg (by omega : ¬S.pl = 1), if_neg (by omega : ¬S.pl = 2), if_neg (by omega : ¬S.pl = 3), if_neg (by omega : ¬S.pl = 4), if_pos hp]
  exact ⟨⟨⟨show (1 : Int) ≤ 6 by decide, show (6 : Int) ≤ 10 by decide, h.ok.2.2⟩, h.w1, h.w2, fun _ _ => h.lt (by omega) (by omega)⟩, held_4 (show (4 : Int) ≤ 6 by decide) (show (6 : Int) ≤ 7 by decide)⟩
theorem tl_6 {wl wb : Int} {S : Us} (h : Inv wl wb S) (a : An) (hp : S.pl = 6) : Inv wl wb (S.tell a) ∧ (S.tell a).held = [S.lf] := by
  unfold Us.tell
  rw [if_neg (by omega : ¬S.pl = 1), if_neg (by omega : ¬S.pl = 2), if_neg (by omega : ¬S.pl = 3), if_neg (by omega : ¬S.pl = 4), if_neg (by omega : ¬S.pl = 5), if_pos hp]
  exact ⟨⟨⟨show (1 : Int) ≤ 8 by decide, show (8 : Int) ≤ 10 by decide, Or.inr rfl⟩, h.w1, h.w2, fun _ _ => h.lt (by omega) (by omega)⟩, held_3 (Or.inr rfl)⟩
theorem tl_7 {wl wb : Int} {S : Us} (h : Inv wl wb S) (a : An) (hp : S.pl = 7) : Inv wl wb (S.tell a) ∧ (S.tell a).held = [S.lf] := by
  unfold Us.tell
  rw [if_neg (by omega : ¬S.pl = 1), if_neg (by omega : ¬S.pl = 2), if_neg (by omega : ¬S.pl = 3), if_neg (by omega : ¬S.pl = 4), if_neg (by omega : ¬S.pl = 5), if_neg (by omega : ¬S.pl = 6), if_pos hp]
  exact ⟨⟨⟨show (1 : Int) ≤ 8 by decide, show (8 : Int) ≤ 10 by decide, h.ok.2.2⟩, h.w1, h.w2, fun _ _ => h.lt (by omega) (by omega)⟩, held_3 (Or.inr rfl)⟩
theorem tl_8 {wl wb : Int} {S : Us} (h : Inv wl wb S) (a : An) (hp : S.pl = 8) : Inv wl wb (S.tell a) ∧ (S.tell a).held = [] := by
  unfold Us.tell
  rw [if_neg (by omega : ¬S.pl = 1), if_neg (by omega : ¬S.pl = 2), if_neg (by omega : ¬S.pl = 3), if_neg (by omega : ¬S.pl = 4), if_neg (by omega : ¬S.pl = 5), if_neg (by omega : ¬S.pl = 6), if_neg (by omega : ¬S.pl = 7), if_pos hp]
  rcases h.ok.2.2 with k | k
  · rw [k]; exact ⟨⟨⟨show (1 : Int) ≤ 9 by decide, show (9 : Int) ≤ 10 by decide, Or.inl rfl⟩, h.w1, h.w2, fun _ c => absurd (show (9 : Int) ≤ 8 from c) (by decide)⟩, held_1 (Or.inr (Or.inr (Or.inl rfl)))⟩
  · rw [k]; exact ⟨⟨⟨show (1 : Int) ≤ 10 by decide, show (10 : Int) ≤ 10 by decide, Or.inr rfl⟩, h.w1, h.w2, fun _ c => absurd (show (10 : Int) ≤ 8 from c) (by decide)⟩, held_1 (Or.inr (Or.inr (Or.inr rfl)))⟩

theorem us_ne {w : World} {b : Nat} {S : Us} (X : UsAt w b S) : ∀ k ∈ [b], ∀ cs, ¬ IsB w k cs 29 := by
  intro k hk cs J
  simp only [List.mem_singleton] at hk
  subst hk
  exact IsB.ne_t X J (by decide) rfl
theorem wo_1 (x : Rf) : [x].filter (fun z => decide (z ≠ x)) = [] := by simp
theorem wo_2 {x y : Rf} (h : x ≠ y) : [x, y].filter (fun z => decide (z ≠ y)) = [x] := by simp [h]
theorem step_ld {w : World} {T : Nat} {k : Int} {r : Rf} {q x y : Int} {r1 r2 : Rf} {oa oo e : Int} {l r3 : Rf} (I : IsB w T (stL k r q x y r1 r2 oa oo e l r3).toArray 53) :
    w.cell? ⟨T, 0, none⟩ = some (.int .i64 k) ∧ w.cell? ⟨T, 6, none⟩ = some (.int .i64 q) ∧ (Instr.loadAt 24 (.pointer (some ⟨T, 7, none⟩))).run Try.prog w = .ok (.agg #[.int .i64 (x), .int .u64 (y)]) w ∧ (Instr.loadAt 27 (.pointer (some ⟨T, 2, none⟩))).run Try.prog w = .ok (.agg #[.int .i64 (r.rk), .int .u64 (r.kn)]) w ∧ (Instr.loadAt 29 (.pointer (some ⟨T, 1, none⟩))).run Try.prog w = .ok (.agg #[.int .i64 r.id, .int .i64 r.rk, .int .u64 r.kn, .int .i64 r.ln, .int .u64 r.bt]) w :=
  ⟨I.cell 0, I.cell 6, load_mid I 7 _ [.int .i64 x, .int .u64 y] _ rfl Try.underlying24 rfl (by kernel_rfl), load_mid I 2 _ [.int .i64 r.rk, .int .u64 r.kn] _ rfl Try.underlying27 rfl (by kernel_rfl), load_mid I 1 _ r.cs _ rfl Try.underlying29 rfl (by kernel_rfl)⟩

set_option maxHeartbeats 2000000 in
set_option maxRecDepth 100000 in
theorem frees_bad (wl wb : Int) (me : Rf) (oa oo : Int) (v : Value) (l : List An) (hb0 : 0 ≤ me.bt) (hc0 : 0 ≤ wb) (hm : mayC wl wb me oa oo = false) (w : World) (hO : AnSl w v l) : Calls Try.prog 5 #[.agg (cfL wl wb me oa oo).toArray, v] w fun e w' => e = .returned (.bool true) ∧ Below w.heap.size w w' := by
  obtain ⟨va, vc, rfl, -, -⟩ := hO.shape
  clear hO
  generalize hn : l.length = n at *
  clear hn
  have b1 := (Below.refl w.heap.size w).alloc (Nat.le_refl _) (.cells (cfL wl wb me oa oo).toArray 33)
  have CB := hide (IsB.new w (cfL wl wb me oa oo).toArray 33)
  have B := hide b1
  clear b1
  go_enter Try.func5, Try.ntmps5
  go_wp2_with fail
  refine (awake_any _).mono ?_
  rintro e w0 ⟨rfl, hb⟩
  replace CB := hide (CB.out.below hb)
  replace B := hide (B.out.trans (hb.mono B.out.size))
  clear hb
  have L0 := hide (ld_cconf CB.out)
  have NB := hide (new_bad wl wb me oa oo hb0 hc0 hm w0)
  go_wp2_with (first | (focus ((with_reducible refine wpList_load_w ?_ 33 (.tmp 2) ?_ ?_ L0.out ?_); rotate_left; rfl; rfl; rotate_left; rfl)))
  refine NB.out.mono ?_
  rintro e w2 ⟨rfl, hb⟩
  replace B := hide (B.out.trans (hb.mono B.out.size))
  clear hb NB L0 CB
  have n1 := sn_s w2
  go_wp2
  go_ret
  exact ⟨rfl, B.out⟩

set_option maxHeartbeats 2000000 in
set_option maxRecDepth 100000 in
theorem frees_good (wl wb : Int) (me : Rf) (oa oo : Int) (v : Value) (l : List An) (hb0 : 0 ≤ me.bt) (hc0 : 0 ≤ wb) (hm : mayC wl wb me oa oo = true) (w : World) (hO : AnSl w v l) : Calls Try.prog 5 #[.agg (cfL wl wb me oa oo).toArray, v] w fun e w' => e = .returned (.bool true) ∧ Below w.heap.size w w' := by
  obtain ⟨va, vc, rfl, -, -⟩ := hO.shape
  have mixed : Try.prog.follows .mixedOrders = true := by kernel_rfl
  have OP := hide hO
  clear hO
  have b1 := (Below.refl w.heap.size w).alloc (Nat.le_refl _) (.cells (cfL wl wb me oa oo).toArray 33)
  have CB := hide (IsB.new w (cfL wl wb me oa oo).toArray 33)
  have B := hide b1
  clear b1
  go_enter Try.func5, Try.ntmps5
  go_wp2_with fail
  refine (awake_any _).mono ?_
  rintro e w0 ⟨rfl, hb⟩
  replace CB := hide (CB.out.below hb)
  replace B := hide (B.out.trans (hb.mono B.out.size))
  clear hb
  have L0 := hide (ld_cconf CB.out)
  have NB := hide (new_ok wl wb me oa oo hb0 hc0 hm w0)
  generalize hn : l.length = n at *
  replace hn := hide hn
  clear hm
  go_wp2_with (first | (focus ((with_reducible refine wpList_load_w ?_ 33 (.tmp 2) ?_ ?_ L0.out ?_); rotate_left; rfl; rfl; rotate_left; rfl)))
  refine NB.out.mono ?_
  rintro e w2 ⟨b, rfl, X0, hle, hb⟩
  have hBb : Hid (w.heap.size ≤ b) := Nat.le_trans B.out.size hle
  replace CB := hide (CB.out.below hb)
  replace B := hide (B.out.trans (hb.mono B.out.size))
  have X := hide X0
  clear hb NB L0 X0 hle
  go_wp2
  go_loopw [7, 8] (fun v7 v8 wr => ∃ (j : Nat) (S : Us) (qa : Option Addr) (qc : Nat), j ≤ n ∧ j ≤ 200 ∧ v8 = .int .i64 (j : Int) ∧ v7 = .slice qa S.held.length qc ∧ Hid (Inv wl wb S) ∧ Hid (UsAt wr b S) ∧ Hid (Ro w.heap.size wr (.slice qa S.held.length qc) S.held) ∧ Hid (IsB wr w.heap.size (cfL wl wb me oa oo).toArray 33) ∧ Hid (Below w.heap.size w wr)) (fun _ v8 _ => n - (intOf v8).toNat)
  case atStart => exact ⟨0, newS wl wb me oa oo, none, 0, by omega, by omega, rfl, rfl, Inv.new wl wb me oa oo, X, Ro.nil _ _, CB, B⟩
  case round =>
    clear X CB B
    obtain ⟨j, S, qa, qc, hj, hj200, rfl, rfl, iv, X, RO, CB, B⟩ := hrel
    by_cases hlt0 : j < n ∧ j < 200
    rotate_left
    · clear RO X CB
      by_cases h200 : j < n
      rotate_left
      · have d1 : decide ((j : Int) < n) = false := by simp; omega
        go_wp2
        go_ret
        exact ⟨rfl, B.out⟩
      · obtain rfl : j = 200 := by omega
        have i1 : ((200 : Nat) : Int) < n := by omega
        have i2 : decide (((200 : Nat) : Int) < n) = true := decide_eq_true i1
        go_wp2
        go_ret
        exact ⟨rfl, B.out⟩
    obtain ⟨i1, i2⟩ := hlt0
    have i3 : (j : Int) < n := by omega
    have i4 : decide ((j : Int) < 200) = true := decide_eq_true (by omega)
    have hjl : j < l.length := by rw [hn.out]; exact i1
    obtain ⟨g0, o, c, ev, OC0, OA0⟩ := OP.out.at3 j hjl
    injection ev with ev el ec
    clear el
    subst ev ec
    have OA := hide OA0
    have OC := hide OC0
    clear OA0 OC0
    generalize l[j] = aj at *
    have hpr := iv.out.ok
    have hcase : S.pl = 1 ∨ S.pl = 2 ∨ S.pl = 3 ∨ S.pl = 4 ∨ S.pl = 5 ∨ S.pl = 6 ∨ S.pl = 7 ∨ S.pl = 8 ∨ S.pl = 9 ∨ S.pl = 10 := by obtain ⟨h1, h2, -⟩ := hpr; omega
    clear hpr
    rcases hcase with hp | hp | hp | hp | hp | hp | hp | hp | hp | hp
    · have hh : S.held = [] := held_1 (Or.inl hp)
      have hln : S.held.length = 0 := by rw [hh]; rfl
      rw [hh] at RO
      replace RO : Hid (Ro w.heap.size wr (.slice qa 0 qc) []) := RO
      rw [hln]
      clear hh hln
      have NX := hide (next_1 b S hp wr X.out)
      go_wp2_with fail
      refine NX.out.mono ?_
      rintro e w1 ⟨rfl, hb⟩
      replace X := hide (X.out.below hb)
      replace RO := hide (RO.out.below hb)
      replace CB := hide (CB.out.below hb)
      replace B := hide (B.out.trans (hb.mono B.out.size))
      clear hb NX
      have b3 := (Below.refl w1.heap.size w1).alloc (Nat.le_refl _) (.cells (stL 1 S.me 1 S.wl S.wb zr zr 0 0 0 zr zr).toArray 53)
      have SN := hide (store_step w1 (stL 1 S.me 1 S.wl S.wb zr zr 0 0 0 zr zr).toArray rfl (by kernel_rfl))
      have T := hide (IsB.new w1 (stL 1 S.me 1 S.wl S.wb zr zr 0 0 0 zr zr).toArray 53)
      replace X := hide (X.out.below b3)
      replace RO := hide (RO.out.below b3)
      replace CB := hide (CB.out.below b3)
      replace B := hide (B.out.trans (b3.mono B.out.size))
      clear b3
      obtain ⟨t0, t6, -, -, -⟩ := step_ld T.out
      go_wp2_with (first | (focus ((with_reducible refine wpList_store_w ?_ 53 (.tmp 9) (.tmp 32) ?_ ?_ ?_ SN.out ?_); rotate_left; rfl; rfl; rfl; rotate_left; rfl)))
      clear SN t0 t6
      generalize (w1.alloc (.cells (stL 1 S.me 1 S.wl S.wb zr zr 0 0 0 zr zr).toArray 53)) = W2 at *
      generalize w1.heap.size = TB at *
      have e1 := hide iv.out.w1
      have e2 := hide iv.out.w2
      have XD := hide (IsB.below X.out ((Below.refl _ _).drew))
      have TD := hide (T.out.below ((Below.refl _ _).drew))
      have CD := hide (CB.out.below ((Below.refl _ _).drew))
      have RD := hide (RO.out.below ((Below.refl _ _).drew))
      have BD := hide B.out.drew
      generalize hCk : w.heap.size = CBk at CB CD
      replace hCk := hide hCk
      clear X T CB RO B
      go_wp2_with fail
      refine regionL 31 (fun w' => IsB w' TB (stL 1 S.me 1 S.wl S.wb zr zr 0 0 0 zr zr).toArray 53 ∧ IsB w' CBk (cfL wl wb me oa oo).toArray 33) mixed ⟨TD.out, CD.out⟩ (fun hHeld => ?_)
      generalize W2.drew = WD at *
      refine pickA (v := ?_) 0 (some 44) rfl rfl (by kernel_rfl) (by kernel_rfl) (by kernel_rfl) (by decide) (fun _ _ _ h => h) (by rfl) ?_ (by assumption) ?_
      rotate_left
      · intro w'
        go_simp
        try with_reducible rfl
      try simp only [Act.put, List.setIfInBounds_toArray, List.set_cons_zero, List.set_cons_succ]
      refine pickA (v := ?_) 1 (some 45) rfl rfl (by kernel_rfl) (by kernel_rfl) (by kernel_rfl) (by decide) (fun _ _ _ h => h) (by rfl) ?_ (by assumption) ?_
      rotate_left
      · intro w'
        go_simp
        try with_reducible rfl
      try simp only [Act.put, List.setIfInBounds_toArray, List.set_cons_zero, List.set_cons_succ]
      refine pickL (v := (.agg #[.int .i64 (S.wl), .int .u64 (S.wb)])) 2 (some 46) rfl rfl (by kernel_rfl) (by kernel_rfl) (by kernel_rfl) (by decide) (by kernel_rfl) (by kernel_rfl) (fun _ _ _ h => h) (by rfl) ?_ (by assumption) ?_
      · intro w' hSw
        obtain ⟨q0, q1⟩ := hSw; obtain ⟨s0, s6, s7, s2, s1⟩ := step_ld q0; have c0 := ld_cw q1
        exact exec_load rfl rfl s7
      try simp only [Act.put, List.setIfInBounds_toArray, List.set_cons_zero, List.set_cons_succ]
      refine pickA (v := ?_) 3 (some 47) rfl rfl (by kernel_rfl) (by kernel_rfl) (by kernel_rfl) (by decide) (fun _ _ _ h => h) (by rfl) ?_ (by assumption) ?_
      rotate_left
      · intro w'
        go_simp
        try with_reducible rfl
      try simp only [Act.put, List.setIfInBounds_toArray, List.set_cons_zero, List.set_cons_succ]
      refine pickL (v := (.agg #[.int .i64 (wl), .int .u64 (wb)])) 4 (some 48) rfl rfl (by kernel_rfl) (by kernel_rfl) (by kernel_rfl) (by decide) (by kernel_rfl) (by kernel_rfl) (fun _ _ _ h => h) (by rfl) ?_ (by assumption) ?_
      · intro w' hSw
        obtain ⟨q0, q1⟩ := hSw; obtain ⟨s0, s6, s7, s2, s1⟩ := step_ld q0; have c0 := ld_cw q1
        exact exec_load rfl rfl c0
      try simp only [Act.put, List.setIfInBounds_toArray, List.set_cons_zero, List.set_cons_succ]
      refine pickA (v := .bool false) 5 (some 49) rfl rfl (by kernel_rfl) (by kernel_rfl) (by kernel_rfl) (by decide) (fun _ _ _ h => h) (by rfl) ?_ (by assumption) ?_
      · intro w'
        exact exec_bin vguard rfl rfl rfl (by rw [e1.out, e2.out]; exact nev0 wl wb _)
      try simp only [Act.put, List.setIfInBounds_toArray, List.set_cons_zero, List.set_cons_succ]
      refine pickA (v := ?_) 6 (some 50) rfl rfl (by kernel_rfl) (by kernel_rfl) (by kernel_rfl) (by decide) (fun _ _ _ h => h) (by rfl) ?_ (by assumption) ?_
      rotate_left
      · intro w'
        go_simp
        try with_reducible rfl
      try simp only [Act.put, List.setIfInBounds_toArray, List.set_cons_zero, List.set_cons_succ]
      refine pickA (v := ?_) 7 (some 51) rfl rfl (by kernel_rfl) (by kernel_rfl) (by kernel_rfl) (by decide) (fun _ _ _ h => h) (by rfl) ?_ (by assumption) ?_
      rotate_left
      · intro w'
        go_simp
        try with_reducible rfl
      try simp only [Act.put, List.setIfInBounds_toArray, List.set_cons_zero, List.set_cons_succ]
      refine pickA (v := ?_) 8 (some 52) rfl rfl (by kernel_rfl) (by kernel_rfl) (by kernel_rfl) (by decide) (fun _ _ _ h => h) (by rfl) ?_ (by assumption) ?_
      rotate_left
      · intro w'
        go_simp
        try with_reducible rfl
      try simp only [Act.put, List.setIfInBounds_toArray, List.set_cons_zero, List.set_cons_succ]
      refine pickL (v := ?_) 9 (some 53) rfl rfl (by kernel_rfl) (by kernel_rfl) (by kernel_rfl) (by decide) (by kernel_rfl) (by kernel_rfl) (fun _ _ _ h => h) (by rfl) ?_ (by assumption) ?_
      rotate_left
      · intro w' hSw
        obtain ⟨q0, q1⟩ := hSw; obtain ⟨s0, s6, s7, s2, s1⟩ := step_ld q0; have c0 := ld_cw q1
        go_simp
        try with_reducible rfl
      try simp only [Act.put, List.setIfInBounds_toArray, List.set_cons_zero, List.set_cons_succ]
      refine pickA (v := ?_) 10 (some 54) rfl rfl (by kernel_rfl) (by kernel_rfl) (by kernel_rfl) (by decide) (fun _ _ _ h => h) (by rfl) ?_ (by assumption) ?_
      rotate_left
      · intro w'
        go_simp
        try with_reducible rfl
      try simp only [Act.put, List.setIfInBounds_toArray, List.set_cons_zero, List.set_cons_succ]
      refine pickA (v := ?_) 11 (some 55) rfl rfl (by kernel_rfl) (by kernel_rfl) (by kernel_rfl) (by decide) (fun _ _ _ h => h) (by rfl) ?_ (by assumption) ?_
      rotate_left
      · intro w'
        go_simp
        try with_reducible rfl
      try simp only [Act.put, List.setIfInBounds_toArray, List.set_cons_zero, List.set_cons_succ]
      refine pickN 12 (some 56) rfl rfl (by kernel_rfl) (by kernel_rfl) (by kernel_rfl) (by decide) (fun _ _ _ h => h) (by rfl) (by assumption) ?_
      try simp only [Act.put, List.setIfInBounds_toArray, List.set_cons_zero, List.set_cons_succ]
      refine pickN 13 (some 57) rfl rfl (by kernel_rfl) (by kernel_rfl) (by kernel_rfl) (by decide) (fun _ _ _ h => h) (by rfl) (by assumption) ?_
      try simp only [Act.put, List.setIfInBounds_toArray, List.set_cons_zero, List.set_cons_succ]
      refine pickN 14 (some 58) rfl rfl (by kernel_rfl) (by kernel_rfl) (by kernel_rfl) (by decide) (fun _ _ _ h => h) (by rfl) (by assumption) ?_
      try simp only [Act.put, List.setIfInBounds_toArray, List.set_cons_zero, List.set_cons_succ]
      refine pickA (v := ?_) 15 (some 59) rfl rfl (by kernel_rfl) (by kernel_rfl) (by kernel_rfl) (by decide) (fun _ _ _ h => h) (by rfl) ?_ (by assumption) ?_
      rotate_left
      · intro w'
        go_simp
        try with_reducible rfl
      try simp only [Act.put, List.setIfInBounds_toArray, List.set_cons_zero, List.set_cons_succ]
      refine pickA (v := ?_) 16 (some 60) rfl rfl (by kernel_rfl) (by kernel_rfl) (by kernel_rfl) (by decide) (fun _ _ _ h => h) (by rfl) ?_ (by assumption) ?_
      rotate_left
      · intro w'
        go_simp
        try with_reducible rfl
      try simp only [Act.put, List.setIfInBounds_toArray, List.set_cons_zero, List.set_cons_succ]
      refine pickN 17 (some 61) rfl rfl (by kernel_rfl) (by kernel_rfl) (by kernel_rfl) (by decide) (fun _ _ _ h => h) (by rfl) (by assumption) ?_
      try simp only [Act.put, List.setIfInBounds_toArray, List.set_cons_zero, List.set_cons_succ]
      refine pickN 18 (some 62) rfl rfl (by kernel_rfl) (by kernel_rfl) (by kernel_rfl) (by decide) (fun _ _ _ h => h) (by rfl) (by assumption) ?_
      try simp only [Act.put, List.setIfInBounds_toArray, List.set_cons_zero, List.set_cons_succ]
      refine pickN 19 (some 63) rfl rfl (by kernel_rfl) (by kernel_rfl) (by kernel_rfl) (by decide) (fun _ _ _ h => h) (by rfl) (by assumption) ?_
      try simp only [Act.put, List.setIfInBounds_toArray, List.set_cons_zero, List.set_cons_succ]
      refine pickN 20 (some 64) rfl rfl (by kernel_rfl) (by kernel_rfl) (by kernel_rfl) (by decide) (fun _ _ _ h => h) (by rfl) (by assumption) ?_
      try simp only [Act.put, List.setIfInBounds_toArray, List.set_cons_zero, List.set_cons_succ]
      refine pickN 21 (some 65) rfl rfl (by kernel_rfl) (by kernel_rfl) (by kernel_rfl) (by decide) (fun _ _ _ h => h) (by rfl) (by assumption) ?_
      try simp only [Act.put, List.setIfInBounds_toArray, List.set_cons_zero, List.set_cons_succ]
      refine pickN 22 (some 66) rfl rfl (by kernel_rfl) (by kernel_rfl) (by kernel_rfl) (by decide) (fun _ _ _ h => h) (by rfl) (by assumption) ?_
      try simp only [Act.put, List.setIfInBounds_toArray, List.set_cons_zero, List.set_cons_succ]
      refine pickN 23 (some 67) rfl rfl (by kernel_rfl) (by kernel_rfl) (by kernel_rfl) (by decide) (fun _ _ _ h => h) (by rfl) (by assumption) ?_
      try simp only [Act.put, List.setIfInBounds_toArray, List.set_cons_zero, List.set_cons_succ]
      refine pickN 24 (some 68) rfl rfl (by kernel_rfl) (by kernel_rfl) (by kernel_rfl) (by decide) (fun _ _ _ h => h) (by rfl) (by assumption) ?_
      try simp only [Act.put, List.setIfInBounds_toArray, List.set_cons_zero, List.set_cons_succ]
      refine pickN 25 (some 69) rfl rfl (by kernel_rfl) (by kernel_rfl) (by kernel_rfl) (by decide) (fun _ _ _ h => h) (by rfl) (by assumption) ?_
      try simp only [Act.put, List.setIfInBounds_toArray, List.set_cons_zero, List.set_cons_succ]
      refine pickN 26 (some 70) rfl rfl (by kernel_rfl) (by kernel_rfl) (by kernel_rfl) (by decide) (fun _ _ _ h => h) (by rfl) (by assumption) ?_
      try simp only [Act.put, List.setIfInBounds_toArray, List.set_cons_zero, List.set_cons_succ]
      refine pickN 27 (some 71) rfl rfl (by kernel_rfl) (by kernel_rfl) (by kernel_rfl) (by decide) (fun _ _ _ h => h) (by rfl) (by assumption) ?_
      try simp only [Act.put, List.setIfInBounds_toArray, List.set_cons_zero, List.set_cons_succ]
      refine pickN 28 (some 72) rfl rfl (by kernel_rfl) (by kernel_rfl) (by kernel_rfl) (by decide) (fun _ _ _ h => h) (by rfl) (by assumption) ?_
      try simp only [Act.put, List.setIfInBounds_toArray, List.set_cons_zero, List.set_cons_succ]
      refine pickA (v := ?_) 29 (some 73) rfl rfl (by kernel_rfl) (by kernel_rfl) (by kernel_rfl) (by decide) (fun _ _ _ h => h) (by rfl) ?_ (by assumption) ?_
      rotate_left
      · intro w'
        go_simp
        try with_reducible rfl
      try simp only [Act.put, List.setIfInBounds_toArray, List.set_cons_zero, List.set_cons_succ]
      refine pickA (v := ?_) 30 (some 74) rfl rfl (by kernel_rfl) (by kernel_rfl) (by kernel_rfl) (by decide) (fun _ _ _ h => h) (by rfl) ?_ (by assumption) ?_
      rotate_left
      · intro w'
        go_simp
        try with_reducible rfl
      try simp only [Act.put, List.setIfInBounds_toArray, List.set_cons_zero, List.set_cons_succ]
      refine doneL (by kernel_rfl) ?_ _
      clear hHeld
      have X := XD
      have T := TD
      have CB := CD
      have RO := RD
      have B := BD
      clear XD TD CD RD BD
      obtain ⟨t0, t6, -, -, t1⟩ := step_ld T.out
      have LT := hide t1
      clear t0 t1
      have y0 := (OC.out _ B.out)
      have LAA := hide (OA.out _ B.out)
      go_wp2_with (first | (focus ((with_reducible refine wpList_load_w ?_ 58 (.tmp 114) ?_ ?_ LAA.out ?_); rotate_left; rfl; rfl; rotate_left; rfl)))
      clear LT t6 T
      refine (tell_any b S aj iv.out.ok _ X.out).mono ?_
      rintro e w9 ⟨rfl, X9, K9⟩
      have hS := us_ne X.out
      replace RO := hide (RO.out.kp K9 hS)
      have hc : CBk ≠ b := fun e => IsB.ne_t CB.out X.out (by decide) e
      replace CB := hide (CB.out.kp K9 (by simpa using hc))
      replace B := hide (B.out.trans (K9.to_below B.out.size (by simpa using hBb.out)))
      replace X := hide X9
      obtain ⟨iv2, hh⟩ := tl_1 iv.out aj hp
      replace iv2 := hide iv2
      clear X9 K9 hS hc LAA
      have hCk2 := hCk.out
      subst hCk2
      go_wp2
      exact ⟨⟨j + 1, S.tell aj, qa, qc, by omega, by omega, by simp, by rw [hh]; rfl, iv2, X, by rw [hh]; exact RO, CB, B⟩, by simp [intOf]; omega⟩
    · by_cases hk : aj.k = 1
      · have hh : S.held = [] := held_1 (Or.inr (Or.inl hp))
        have hln : S.held.length = 0 := by rw [hh]; rfl
        rw [hh] at RO
        replace RO : Hid (Ro w.heap.size wr (.slice qa 0 qc) []) := RO
        rw [hln]
        clear hh hln
        have NX := hide (next_2 b S hp wr X.out)
        go_wp2_with fail
        refine NX.out.mono ?_
        rintro e w1 ⟨rfl, hb⟩
        replace X := hide (X.out.below hb)
        replace RO := hide (RO.out.below hb)
        replace CB := hide (CB.out.below hb)
        replace B := hide (B.out.trans (hb.mono B.out.size))
        clear hb NX
        have b3 := (Below.refl w1.heap.size w1).alloc (Nat.le_refl _) (.cells (stL 1 S.lf 3 S.wl S.wb zr zr S.oa S.oo 0 zr zr).toArray 53)
        have SN := hide (store_step w1 (stL 1 S.lf 3 S.wl S.wb zr zr S.oa S.oo 0 zr zr).toArray rfl (by kernel_rfl))
        have T := hide (IsB.new w1 (stL 1 S.lf 3 S.wl S.wb zr zr S.oa S.oo 0 zr zr).toArray 53)
        replace X := hide (X.out.below b3)
        replace RO := hide (RO.out.below b3)
        replace CB := hide (CB.out.below b3)
        replace B := hide (B.out.trans (b3.mono B.out.size))
        clear b3
        obtain ⟨t0, t6, -, -, -⟩ := step_ld T.out
        go_wp2_with (first | (focus ((with_reducible refine wpList_store_w ?_ 53 (.tmp 9) (.tmp 32) ?_ ?_ ?_ SN.out ?_); rotate_left; rfl; rfl; rfl; rotate_left; rfl)))
        clear SN t0 t6
        generalize (w1.alloc (.cells (stL 1 S.lf 3 S.wl S.wb zr zr S.oa S.oo 0 zr zr).toArray 53)) = W2 at *
        generalize w1.heap.size = TB at *
        have e1 := hide iv.out.w1
        have e2 := hide iv.out.w2
        have XD := hide (IsB.below X.out ((Below.refl _ _).drew))
        have TD := hide (T.out.below ((Below.refl _ _).drew))
        have CD := hide (CB.out.below ((Below.refl _ _).drew))
        have RD := hide (RO.out.below ((Below.refl _ _).drew))
        have BD := hide B.out.drew
        generalize hCk : w.heap.size = CBk at CB CD
        replace hCk := hide hCk
        clear X T CB RO B
        go_wp2_with fail
        refine regionL 31 (fun w' => IsB w' TB (stL 1 S.lf 3 S.wl S.wb zr zr S.oa S.oo 0 zr zr).toArray 53 ∧ IsB w' CBk (cfL wl wb me oa oo).toArray 33) mixed ⟨TD.out, CD.out⟩ (fun hHeld => ?_)
        generalize W2.drew = WD at *
        refine pickA (v := ?_) 0 (some 44) rfl rfl (by kernel_rfl) (by kernel_rfl) (by kernel_rfl) (by decide) (fun _ _ _ h => h) (by rfl) ?_ (by assumption) ?_
        rotate_left
        · intro w'
          go_simp
          try with_reducible rfl
        try simp only [Act.put, List.setIfInBounds_toArray, List.set_cons_zero, List.set_cons_succ]
        refine pickA (v := ?_) 1 (some 45) rfl rfl (by kernel_rfl) (by kernel_rfl) (by kernel_rfl) (by decide) (fun _ _ _ h => h) (by rfl) ?_ (by assumption) ?_
        rotate_left
        · intro w'
          go_simp
          try with_reducible rfl
        try simp only [Act.put, List.setIfInBounds_toArray, List.set_cons_zero, List.set_cons_succ]
        refine pickL (v := (.agg #[.int .i64 (S.wl), .int .u64 (S.wb)])) 2 (some 46) rfl rfl (by kernel_rfl) (by kernel_rfl) (by kernel_rfl) (by decide) (by kernel_rfl) (by kernel_rfl) (fun _ _ _ h => h) (by rfl) ?_ (by assumption) ?_
        · intro w' hSw
          obtain ⟨q0, q1⟩ := hSw; obtain ⟨s0, s6, s7, s2, s1⟩ := step_ld q0; have c0 := ld_cw q1
          exact exec_load rfl rfl s7
        try simp only [Act.put, List.setIfInBounds_toArray, List.set_cons_zero, List.set_cons_succ]
        refine pickA (v := ?_) 3 (some 47) rfl rfl (by kernel_rfl) (by kernel_rfl) (by kernel_rfl) (by decide) (fun _ _ _ h => h) (by rfl) ?_ (by assumption) ?_
        rotate_left
        · intro w'
          go_simp
          try with_reducible rfl
        try simp only [Act.put, List.setIfInBounds_toArray, List.set_cons_zero, List.set_cons_succ]
        refine pickL (v := (.agg #[.int .i64 (wl), .int .u64 (wb)])) 4 (some 48) rfl rfl (by kernel_rfl) (by kernel_rfl) (by kernel_rfl) (by decide) (by kernel_rfl) (by kernel_rfl) (fun _ _ _ h => h) (by rfl) ?_ (by assumption) ?_
        · intro w' hSw
          obtain ⟨q0, q1⟩ := hSw; obtain ⟨s0, s6, s7, s2, s1⟩ := step_ld q0; have c0 := ld_cw q1
          exact exec_load rfl rfl c0
        try simp only [Act.put, List.setIfInBounds_toArray, List.set_cons_zero, List.set_cons_succ]
        refine pickA (v := .bool false) 5 (some 49) rfl rfl (by kernel_rfl) (by kernel_rfl) (by kernel_rfl) (by decide) (fun _ _ _ h => h) (by rfl) ?_ (by assumption) ?_
        · intro w'
          exact exec_bin vguard rfl rfl rfl (by rw [e1.out, e2.out]; exact nev0 wl wb _)
        try simp only [Act.put, List.setIfInBounds_toArray, List.set_cons_zero, List.set_cons_succ]
        refine pickA (v := ?_) 6 (some 50) rfl rfl (by kernel_rfl) (by kernel_rfl) (by kernel_rfl) (by decide) (fun _ _ _ h => h) (by rfl) ?_ (by assumption) ?_
        rotate_left
        · intro w'
          go_simp
          try with_reducible rfl
        try simp only [Act.put, List.setIfInBounds_toArray, List.set_cons_zero, List.set_cons_succ]
        refine pickA (v := ?_) 7 (some 51) rfl rfl (by kernel_rfl) (by kernel_rfl) (by kernel_rfl) (by decide) (fun _ _ _ h => h) (by rfl) ?_ (by assumption) ?_
        rotate_left
        · intro w'
          go_simp
          try with_reducible rfl
        try simp only [Act.put, List.setIfInBounds_toArray, List.set_cons_zero, List.set_cons_succ]
        refine pickA (v := ?_) 8 (some 52) rfl rfl (by kernel_rfl) (by kernel_rfl) (by kernel_rfl) (by decide) (fun _ _ _ h => h) (by rfl) ?_ (by assumption) ?_
        rotate_left
        · intro w'
          go_simp
          try with_reducible rfl
        try simp only [Act.put, List.setIfInBounds_toArray, List.set_cons_zero, List.set_cons_succ]
        refine pickL (v := ?_) 9 (some 53) rfl rfl (by kernel_rfl) (by kernel_rfl) (by kernel_rfl) (by decide) (by kernel_rfl) (by kernel_rfl) (fun _ _ _ h => h) (by rfl) ?_ (by assumption) ?_
        rotate_left
        · intro w' hSw
          obtain ⟨q0, q1⟩ := hSw; obtain ⟨s0, s6, s7, s2, s1⟩ := step_ld q0; have c0 := ld_cw q1
          go_simp
          try with_reducible rfl
        try simp only [Act.put, List.setIfInBounds_toArray, List.set_cons_zero, List.set_cons_succ]
        refine pickA (v := ?_) 10 (some 54) rfl rfl (by kernel_rfl) (by kernel_rfl) (by kernel_rfl) (by decide) (fun _ _ _ h => h) (by rfl) ?_ (by assumption) ?_
        rotate_left
        · intro w'
          go_simp
          try with_reducible rfl
        try simp only [Act.put, List.setIfInBounds_toArray, List.set_cons_zero, List.set_cons_succ]
        refine pickA (v := ?_) 11 (some 55) rfl rfl (by kernel_rfl) (by kernel_rfl) (by kernel_rfl) (by decide) (fun _ _ _ h => h) (by rfl) ?_ (by assumption) ?_
        rotate_left
        · intro w'
          go_simp
          try with_reducible rfl
        try simp only [Act.put, List.setIfInBounds_toArray, List.set_cons_zero, List.set_cons_succ]
        refine pickA (v := ?_) 12 (some 56) rfl rfl (by kernel_rfl) (by kernel_rfl) (by kernel_rfl) (by decide) (fun _ _ _ h => h) (by rfl) ?_ (by assumption) ?_
        rotate_left
        · intro w'
          go_simp
          try with_reducible rfl
        try simp only [Act.put, List.setIfInBounds_toArray, List.set_cons_zero, List.set_cons_succ]
        refine pickA (v := ?_) 13 (some 57) rfl rfl (by kernel_rfl) (by kernel_rfl) (by kernel_rfl) (by decide) (fun _ _ _ h => h) (by rfl) ?_ (by assumption) ?_
        rotate_left
        · intro w'
          go_simp
          try with_reducible rfl
        try simp only [Act.put, List.setIfInBounds_toArray, List.set_cons_zero, List.set_cons_succ]
        refine pickA (v := ?_) 14 (some 58) rfl rfl (by kernel_rfl) (by kernel_rfl) (by kernel_rfl) (by decide) (fun _ _ _ h => h) (by rfl) ?_ (by assumption) ?_
        rotate_left
        · intro w'
          go_simp
          try with_reducible rfl
        try simp only [Act.put, List.setIfInBounds_toArray, List.set_cons_zero, List.set_cons_succ]
        refine pickA (v := ?_) 15 (some 59) rfl rfl (by kernel_rfl) (by kernel_rfl) (by kernel_rfl) (by decide) (fun _ _ _ h => h) (by rfl) ?_ (by assumption) ?_
        rotate_left
        · intro w'
          go_simp
          try with_reducible rfl
        try simp only [Act.put, List.setIfInBounds_toArray, List.set_cons_zero, List.set_cons_succ]
        refine pickA (v := ?_) 16 (some 60) rfl rfl (by kernel_rfl) (by kernel_rfl) (by kernel_rfl) (by decide) (fun _ _ _ h => h) (by rfl) ?_ (by assumption) ?_
        rotate_left
        · intro w'
          go_simp
          try with_reducible rfl
        try simp only [Act.put, List.setIfInBounds_toArray, List.set_cons_zero, List.set_cons_succ]
        refine pickN 17 (some 61) rfl rfl (by kernel_rfl) (by kernel_rfl) (by kernel_rfl) (by decide) (fun _ _ _ h => h) (by rfl) (by assumption) ?_
        try simp only [Act.put, List.setIfInBounds_toArray, List.set_cons_zero, List.set_cons_succ]
        refine pickN 18 (some 62) rfl rfl (by kernel_rfl) (by kernel_rfl) (by kernel_rfl) (by decide) (fun _ _ _ h => h) (by rfl) (by assumption) ?_
        try simp only [Act.put, List.setIfInBounds_toArray, List.set_cons_zero, List.set_cons_succ]
        refine pickN 19 (some 63) rfl rfl (by kernel_rfl) (by kernel_rfl) (by kernel_rfl) (by decide) (fun _ _ _ h => h) (by rfl) (by assumption) ?_
        try simp only [Act.put, List.setIfInBounds_toArray, List.set_cons_zero, List.set_cons_succ]
        refine pickN 20 (some 64) rfl rfl (by kernel_rfl) (by kernel_rfl) (by kernel_rfl) (by decide) (fun _ _ _ h => h) (by rfl) (by assumption) ?_
        try simp only [Act.put, List.setIfInBounds_toArray, List.set_cons_zero, List.set_cons_succ]
        refine pickN 21 (some 65) rfl rfl (by kernel_rfl) (by kernel_rfl) (by kernel_rfl) (by decide) (fun _ _ _ h => h) (by rfl) (by assumption) ?_
        try simp only [Act.put, List.setIfInBounds_toArray, List.set_cons_zero, List.set_cons_succ]
        refine pickN 22 (some 66) rfl rfl (by kernel_rfl) (by kernel_rfl) (by kernel_rfl) (by decide) (fun _ _ _ h => h) (by rfl) (by assumption) ?_
        try simp only [Act.put, List.setIfInBounds_toArray, List.set_cons_zero, List.set_cons_succ]
        refine pickN 23 (some 67) rfl rfl (by kernel_rfl) (by kernel_rfl) (by kernel_rfl) (by decide) (fun _ _ _ h => h) (by rfl) (by assumption) ?_
        try simp only [Act.put, List.setIfInBounds_toArray, List.set_cons_zero, List.set_cons_succ]
        refine pickN 24 (some 68) rfl rfl (by kernel_rfl) (by kernel_rfl) (by kernel_rfl) (by decide) (fun _ _ _ h => h) (by rfl) (by assumption) ?_
        try simp only [Act.put, List.setIfInBounds_toArray, List.set_cons_zero, List.set_cons_succ]
        refine pickN 25 (some 69) rfl rfl (by kernel_rfl) (by kernel_rfl) (by kernel_rfl) (by decide) (fun _ _ _ h => h) (by rfl) (by assumption) ?_
        try simp only [Act.put, List.setIfInBounds_toArray, List.set_cons_zero, List.set_cons_succ]
        refine pickN 26 (some 70) rfl rfl (by kernel_rfl) (by kernel_rfl) (by kernel_rfl) (by decide) (fun _ _ _ h => h) (by rfl) (by assumption) ?_
        try simp only [Act.put, List.setIfInBounds_toArray, List.set_cons_zero, List.set_cons_succ]
        refine pickN 27 (some 71) rfl rfl (by kernel_rfl) (by kernel_rfl) (by kernel_rfl) (by decide) (fun _ _ _ h => h) (by rfl) (by assumption) ?_
        try simp only [Act.put, List.setIfInBounds_toArray, List.set_cons_zero, List.set_cons_succ]
        refine pickN 28 (some 72) rfl rfl (by kernel_rfl) (by kernel_rfl) (by kernel_rfl) (by decide) (fun _ _ _ h => h) (by rfl) (by assumption) ?_
        try simp only [Act.put, List.setIfInBounds_toArray, List.set_cons_zero, List.set_cons_succ]
        refine pickA (v := ?_) 29 (some 73) rfl rfl (by kernel_rfl) (by kernel_rfl) (by kernel_rfl) (by decide) (fun _ _ _ h => h) (by rfl) ?_ (by assumption) ?_
        rotate_left
        · intro w'
          go_simp
          try with_reducible rfl
        try simp only [Act.put, List.setIfInBounds_toArray, List.set_cons_zero, List.set_cons_succ]
        refine pickA (v := ?_) 30 (some 74) rfl rfl (by kernel_rfl) (by kernel_rfl) (by kernel_rfl) (by decide) (fun _ _ _ h => h) (by rfl) ?_ (by assumption) ?_
        rotate_left
        · intro w'
          go_simp
          try with_reducible rfl
        try simp only [Act.put, List.setIfInBounds_toArray, List.set_cons_zero, List.set_cons_succ]
        refine doneL (by kernel_rfl) ?_ _
        clear hHeld
        have X := XD
        have T := TD
        have CB := CD
        have RO := RD
        have B := BD
        clear XD TD CD RD BD
        obtain ⟨t0, t6, -, -, t1⟩ := step_ld T.out
        have LT := hide t1
        clear t0 t1
        have y0 := (OC.out _ B.out)
        rw [hk] at y0
        obtain ⟨ra, rc, wA, hap, hRo, hKp⟩ := RO.out.push S.lf (by simp) B.out.size 62
        have HAP : Hid (_) := hap
        have ROA : Hid (Ro w.heap.size wA (.slice ra 1 rc) [S.lf]) := hRo
        have nX := RO.out.ne X.out (by decide)
        have nC := RO.out.ne CB.out (by decide)
        have nN := RO.out.new
        have XA := hide (IsB.kp X.out hKp (fun hm => nX _ hm rfl))
        have CA := hide (CB.out.kp hKp (fun hm => nC _ hm rfl))
        have BA := hide (B.out.trans (hKp.to_below B.out.size (fun k hk => nN k (by simpa using hk))))
        clear hap hRo hKp nX nC nN
        have LAA := hide (OA.out _ BA.out)
        go_wp2_with (first | (focus ((with_reducible refine wpList_load_w ?_ 29 (.tmp 89) ?_ ?_ LT.out ?_); rotate_left; rfl; rfl; rotate_left; rfl)) | (at_builtin; refine wpList_append_eq rfl (.tmp 88) (.tmp 91) 62 rfl _ _ (.slice ra 1 rc) wA rfl rfl HAP.out ?_) | (focus ((with_reducible refine wpList_load_w ?_ 58 (.tmp 114) ?_ ?_ LAA.out ?_); rotate_left; rfl; rfl; rotate_left; rfl)))
        clear X CB RO B HAP LT y0 t6 T
        have X := XA
        have CB := CA
        have RO := ROA
        have B := BA
        clear XA CA ROA BA
        refine (tell_any b S aj iv.out.ok _ X.out).mono ?_
        rintro e w9 ⟨rfl, X9, K9⟩
        have hS := us_ne X.out
        replace RO := hide (RO.out.kp K9 hS)
        have hc : CBk ≠ b := fun e => IsB.ne_t CB.out X.out (by decide) e
        replace CB := hide (CB.out.kp K9 (by simpa using hc))
        replace B := hide (B.out.trans (K9.to_below B.out.size (by simpa using hBb.out)))
        replace X := hide X9
        obtain ⟨iv2, hh⟩ := tl_2y iv.out aj hp hk
        replace iv2 := hide iv2
        clear X9 K9 hS hc LAA
        have hCk2 := hCk.out
        subst hCk2
        go_wp2
        exact ⟨⟨j + 1, S.tell aj, ra, rc, by omega, by omega, by simp, by rw [hh]; rfl, iv2, X, by rw [hh]; exact RO, CB, B⟩, by simp [intOf]; omega⟩
      · have hh : S.held = [] := held_1 (Or.inr (Or.inl hp))
        have hln : S.held.length = 0 := by rw [hh]; rfl
        rw [hh] at RO
        replace RO : Hid (Ro w.heap.size wr (.slice qa 0 qc) []) := RO
        rw [hln]
        clear hh hln
        have NX := hide (next_2 b S hp wr X.out)
        go_wp2_with fail
        refine NX.out.mono ?_
        rintro e w1 ⟨rfl, hb⟩
        replace X := hide (X.out.below hb)
        replace RO := hide (RO.out.below hb)
        replace CB := hide (CB.out.below hb)
        replace B := hide (B.out.trans (hb.mono B.out.size))
        clear hb NX
        have b3 := (Below.refl w1.heap.size w1).alloc (Nat.le_refl _) (.cells (stL 1 S.lf 3 S.wl S.wb zr zr S.oa S.oo 0 zr zr).toArray 53)
        have SN := hide (store_step w1 (stL 1 S.lf 3 S.wl S.wb zr zr S.oa S.oo 0 zr zr).toArray rfl (by kernel_rfl))
        have T := hide (IsB.new w1 (stL 1 S.lf 3 S.wl S.wb zr zr S.oa S.oo 0 zr zr).toArray 53)
        replace X := hide (X.out.below b3)
        replace RO := hide (RO.out.below b3)
        replace CB := hide (CB.out.below b3)
        replace B := hide (B.out.trans (b3.mono B.out.size))
        clear b3
        obtain ⟨t0, t6, -, -, -⟩ := step_ld T.out
        go_wp2_with (first | (focus ((with_reducible refine wpList_store_w ?_ 53 (.tmp 9) (.tmp 32) ?_ ?_ ?_ SN.out ?_); rotate_left; rfl; rfl; rfl; rotate_left; rfl)))
        clear SN t0 t6
        generalize (w1.alloc (.cells (stL 1 S.lf 3 S.wl S.wb zr zr S.oa S.oo 0 zr zr).toArray 53)) = W2 at *
        generalize w1.heap.size = TB at *
        have e1 := hide iv.out.w1
        have e2 := hide iv.out.w2
        have XD := hide (IsB.below X.out ((Below.refl _ _).drew))
        have TD := hide (T.out.below ((Below.refl _ _).drew))
        have CD := hide (CB.out.below ((Below.refl _ _).drew))
        have RD := hide (RO.out.below ((Below.refl _ _).drew))
        have BD := hide B.out.drew
        generalize hCk : w.heap.size = CBk at CB CD
        replace hCk := hide hCk
        clear X T CB RO B
        go_wp2_with fail
        refine regionL 31 (fun w' => IsB w' TB (stL 1 S.lf 3 S.wl S.wb zr zr S.oa S.oo 0 zr zr).toArray 53 ∧ IsB w' CBk (cfL wl wb me oa oo).toArray 33) mixed ⟨TD.out, CD.out⟩ (fun hHeld => ?_)
        generalize W2.drew = WD at *
        refine pickA (v := ?_) 0 (some 44) rfl rfl (by kernel_rfl) (by kernel_rfl) (by kernel_rfl) (by decide) (fun _ _ _ h => h) (by rfl) ?_ (by assumption) ?_
        rotate_left
        · intro w'
          go_simp
          try with_reducible rfl
        try simp only [Act.put, List.setIfInBounds_toArray, List.set_cons_zero, List.set_cons_succ]
        refine pickA (v := ?_) 1 (some 45) rfl rfl (by kernel_rfl) (by kernel_rfl) (by kernel_rfl) (by decide) (fun _ _ _ h => h) (by rfl) ?_ (by assumption) ?_
        rotate_left
        · intro w'
          go_simp
          try with_reducible rfl
        try simp only [Act.put, List.setIfInBounds_toArray, List.set_cons_zero, List.set_cons_succ]
        refine pickL (v := (.agg #[.int .i64 (S.wl), .int .u64 (S.wb)])) 2 (some 46) rfl rfl (by kernel_rfl) (by kernel_rfl) (by kernel_rfl) (by decide) (by kernel_rfl) (by kernel_rfl) (fun _ _ _ h => h) (by rfl) ?_ (by assumption) ?_
        · intro w' hSw
          obtain ⟨q0, q1⟩ := hSw; obtain ⟨s0, s6, s7, s2, s1⟩ := step_ld q0; have c0 := ld_cw q1
          exact exec_load rfl rfl s7
        try simp only [Act.put, List.setIfInBounds_toArray, List.set_cons_zero, List.set_cons_succ]
        refine pickA (v := ?_) 3 (some 47) rfl rfl (by kernel_rfl) (by kernel_rfl) (by kernel_rfl) (by decide) (fun _ _ _ h => h) (by rfl) ?_ (by assumption) ?_
        rotate_left
        · intro w'
          go_simp
          try with_reducible rfl
        try simp only [Act.put, List.setIfInBounds_toArray, List.set_cons_zero, List.set_cons_succ]
        refine pickL (v := (.agg #[.int .i64 (wl), .int .u64 (wb)])) 4 (some 48) rfl rfl (by kernel_rfl) (by kernel_rfl) (by kernel_rfl) (by decide) (by kernel_rfl) (by kernel_rfl) (fun _ _ _ h => h) (by rfl) ?_ (by assumption) ?_
        · intro w' hSw
          obtain ⟨q0, q1⟩ := hSw; obtain ⟨s0, s6, s7, s2, s1⟩ := step_ld q0; have c0 := ld_cw q1
          exact exec_load rfl rfl c0
        try simp only [Act.put, List.setIfInBounds_toArray, List.set_cons_zero, List.set_cons_succ]
        refine pickA (v := .bool false) 5 (some 49) rfl rfl (by kernel_rfl) (by kernel_rfl) (by kernel_rfl) (by decide) (fun _ _ _ h => h) (by rfl) ?_ (by assumption) ?_
        · intro w'
          exact exec_bin vguard rfl rfl rfl (by rw [e1.out, e2.out]; exact nev0 wl wb _)
        try simp only [Act.put, List.setIfInBounds_toArray, List.set_cons_zero, List.set_cons_succ]
        refine pickA (v := ?_) 6 (some 50) rfl rfl (by kernel_rfl) (by kernel_rfl) (by kernel_rfl) (by decide) (fun _ _ _ h => h) (by rfl) ?_ (by assumption) ?_
        rotate_left
        · intro w'
          go_simp
          try with_reducible rfl
        try simp only [Act.put, List.setIfInBounds_toArray, List.set_cons_zero, List.set_cons_succ]
        refine pickA (v := ?_) 7 (some 51) rfl rfl (by kernel_rfl) (by kernel_rfl) (by kernel_rfl) (by decide) (fun _ _ _ h => h) (by rfl) ?_ (by assumption) ?_
        rotate_left
        · intro w'
          go_simp
          try with_reducible rfl
        try simp only [Act.put, List.setIfInBounds_toArray, List.set_cons_zero, List.set_cons_succ]
        refine pickA (v := ?_) 8 (some 52) rfl rfl (by kernel_rfl) (by kernel_rfl) (by kernel_rfl) (by decide) (fun _ _ _ h => h) (by rfl) ?_ (by assumption) ?_
        rotate_left
        · intro w'
          go_simp
          try with_reducible rfl
        try simp only [Act.put, List.setIfInBounds_toArray, List.set_cons_zero, List.set_cons_succ]
        refine pickL (v := ?_) 9 (some 53) rfl rfl (by kernel_rfl) (by kernel_rfl) (by kernel_rfl) (by decide) (by kernel_rfl) (by kernel_rfl) (fun _ _ _ h => h) (by rfl) ?_ (by assumption) ?_
        rotate_left
        · intro w' hSw
          obtain ⟨q0, q1⟩ := hSw; obtain ⟨s0, s6, s7, s2, s1⟩ := step_ld q0; have c0 := ld_cw q1
          go_simp
          try with_reducible rfl
        try simp only [Act.put, List.setIfInBounds_toArray, List.set_cons_zero, List.set_cons_succ]
        refine pickA (v := ?_) 10 (some 54) rfl rfl (by kernel_rfl) (by kernel_rfl) (by kernel_rfl) (by decide) (fun _ _ _ h => h) (by rfl) ?_ (by assumption) ?_
        rotate_left
        · intro w'
          go_simp
          try with_reducible rfl
        try simp only [Act.put, List.setIfInBounds_toArray, List.set_cons_zero, List.set_cons_succ]
        refine pickA (v := ?_) 11 (some 55) rfl rfl (by kernel_rfl) (by kernel_rfl) (by kernel_rfl) (by decide) (fun _ _ _ h => h) (by rfl) ?_ (by assumption) ?_
        rotate_left
        · intro w'
          go_simp
          try with_reducible rfl
        try simp only [Act.put, List.setIfInBounds_toArray, List.set_cons_zero, List.set_cons_succ]
        refine pickA (v := ?_) 12 (some 56) rfl rfl (by kernel_rfl) (by kernel_rfl) (by kernel_rfl) (by decide) (fun _ _ _ h => h) (by rfl) ?_ (by assumption) ?_
        rotate_left
        · intro w'
          go_simp
          try with_reducible rfl
        try simp only [Act.put, List.setIfInBounds_toArray, List.set_cons_zero, List.set_cons_succ]
        refine pickA (v := ?_) 13 (some 57) rfl rfl (by kernel_rfl) (by kernel_rfl) (by kernel_rfl) (by decide) (fun _ _ _ h => h) (by rfl) ?_ (by assumption) ?_
        rotate_left
        · intro w'
          go_simp
          try with_reducible rfl
        try simp only [Act.put, List.setIfInBounds_toArray, List.set_cons_zero, List.set_cons_succ]
        refine pickA (v := ?_) 14 (some 58) rfl rfl (by kernel_rfl) (by kernel_rfl) (by kernel_rfl) (by decide) (fun _ _ _ h => h) (by rfl) ?_ (by assumption) ?_
        rotate_left
        · intro w'
          go_simp
          try with_reducible rfl
        try simp only [Act.put, List.setIfInBounds_toArray, List.set_cons_zero, List.set_cons_succ]
        refine pickA (v := ?_) 15 (some 59) rfl rfl (by kernel_rfl) (by kernel_rfl) (by kernel_rfl) (by decide) (fun _ _ _ h => h) (by rfl) ?_ (by assumption) ?_
        rotate_left
        · intro w'
          go_simp
          try with_reducible rfl
        try simp only [Act.put, List.setIfInBounds_toArray, List.set_cons_zero, List.set_cons_succ]
        refine pickA (v := ?_) 16 (some 60) rfl rfl (by kernel_rfl) (by kernel_rfl) (by kernel_rfl) (by decide) (fun _ _ _ h => h) (by rfl) ?_ (by assumption) ?_
        rotate_left
        · intro w'
          go_simp
          try with_reducible rfl
        try simp only [Act.put, List.setIfInBounds_toArray, List.set_cons_zero, List.set_cons_succ]
        refine pickN 17 (some 61) rfl rfl (by kernel_rfl) (by kernel_rfl) (by kernel_rfl) (by decide) (fun _ _ _ h => h) (by rfl) (by assumption) ?_
        try simp only [Act.put, List.setIfInBounds_toArray, List.set_cons_zero, List.set_cons_succ]
        refine pickN 18 (some 62) rfl rfl (by kernel_rfl) (by kernel_rfl) (by kernel_rfl) (by decide) (fun _ _ _ h => h) (by rfl) (by assumption) ?_
        try simp only [Act.put, List.setIfInBounds_toArray, List.set_cons_zero, List.set_cons_succ]
        refine pickN 19 (some 63) rfl rfl (by kernel_rfl) (by kernel_rfl) (by kernel_rfl) (by decide) (fun _ _ _ h => h) (by rfl) (by assumption) ?_
        try simp only [Act.put, List.setIfInBounds_toArray, List.set_cons_zero, List.set_cons_succ]
        refine pickN 20 (some 64) rfl rfl (by kernel_rfl) (by kernel_rfl) (by kernel_rfl) (by decide) (fun _ _ _ h => h) (by rfl) (by assumption) ?_
        try simp only [Act.put, List.setIfInBounds_toArray, List.set_cons_zero, List.set_cons_succ]
        refine pickN 21 (some 65) rfl rfl (by kernel_rfl) (by kernel_rfl) (by kernel_rfl) (by decide) (fun _ _ _ h => h) (by rfl) (by assumption) ?_
        try simp only [Act.put, List.setIfInBounds_toArray, List.set_cons_zero, List.set_cons_succ]
        refine pickN 22 (some 66) rfl rfl (by kernel_rfl) (by kernel_rfl) (by kernel_rfl) (by decide) (fun _ _ _ h => h) (by rfl) (by assumption) ?_
        try simp only [Act.put, List.setIfInBounds_toArray, List.set_cons_zero, List.set_cons_succ]
        refine pickN 23 (some 67) rfl rfl (by kernel_rfl) (by kernel_rfl) (by kernel_rfl) (by decide) (fun _ _ _ h => h) (by rfl) (by assumption) ?_
        try simp only [Act.put, List.setIfInBounds_toArray, List.set_cons_zero, List.set_cons_succ]
        refine pickN 24 (some 68) rfl rfl (by kernel_rfl) (by kernel_rfl) (by kernel_rfl) (by decide) (fun _ _ _ h => h) (by rfl) (by assumption) ?_
        try simp only [Act.put, List.setIfInBounds_toArray, List.set_cons_zero, List.set_cons_succ]
        refine pickN 25 (some 69) rfl rfl (by kernel_rfl) (by kernel_rfl) (by kernel_rfl) (by decide) (fun _ _ _ h => h) (by rfl) (by assumption) ?_
        try simp only [Act.put, List.setIfInBounds_toArray, List.set_cons_zero, List.set_cons_succ]
        refine pickN 26 (some 70) rfl rfl (by kernel_rfl) (by kernel_rfl) (by kernel_rfl) (by decide) (fun _ _ _ h => h) (by rfl) (by assumption) ?_
        try simp only [Act.put, List.setIfInBounds_toArray, List.set_cons_zero, List.set_cons_succ]
        refine pickN 27 (some 71) rfl rfl (by kernel_rfl) (by kernel_rfl) (by kernel_rfl) (by decide) (fun _ _ _ h => h) (by rfl) (by assumption) ?_
        try simp only [Act.put, List.setIfInBounds_toArray, List.set_cons_zero, List.set_cons_succ]
        refine pickN 28 (some 72) rfl rfl (by kernel_rfl) (by kernel_rfl) (by kernel_rfl) (by decide) (fun _ _ _ h => h) (by rfl) (by assumption) ?_
        try simp only [Act.put, List.setIfInBounds_toArray, List.set_cons_zero, List.set_cons_succ]
        refine pickA (v := ?_) 29 (some 73) rfl rfl (by kernel_rfl) (by kernel_rfl) (by kernel_rfl) (by decide) (fun _ _ _ h => h) (by rfl) ?_ (by assumption) ?_
        rotate_left
        · intro w'
          go_simp
          try with_reducible rfl
        try simp only [Act.put, List.setIfInBounds_toArray, List.set_cons_zero, List.set_cons_succ]
        refine pickA (v := ?_) 30 (some 74) rfl rfl (by kernel_rfl) (by kernel_rfl) (by kernel_rfl) (by decide) (fun _ _ _ h => h) (by rfl) ?_ (by assumption) ?_
        rotate_left
        · intro w'
          go_simp
          try with_reducible rfl
        try simp only [Act.put, List.setIfInBounds_toArray, List.set_cons_zero, List.set_cons_succ]
        refine doneL (by kernel_rfl) ?_ _
        clear hHeld
        have X := XD
        have T := TD
        have CB := CD
        have RO := RD
        have B := BD
        clear XD TD CD RD BD
        obtain ⟨t0, t6, -, -, t1⟩ := step_ld T.out
        have LT := hide t1
        clear t0 t1
        have y0 := (OC.out _ B.out)
        have k1 : (aj.k == 1) = false := by simpa using hk
        have LAA := hide (OA.out _ B.out)
        go_wp2_with (first | (focus ((with_reducible refine wpList_load_w ?_ 58 (.tmp 114) ?_ ?_ LAA.out ?_); rotate_left; rfl; rfl; rotate_left; rfl)))
        clear LT t6 T
        refine (tell_any b S aj iv.out.ok _ X.out).mono ?_
        rintro e w9 ⟨rfl, X9, K9⟩
        have hS := us_ne X.out
        replace RO := hide (RO.out.kp K9 hS)
        have hc : CBk ≠ b := fun e => IsB.ne_t CB.out X.out (by decide) e
        replace CB := hide (CB.out.kp K9 (by simpa using hc))
        replace B := hide (B.out.trans (K9.to_below B.out.size (by simpa using hBb.out)))
        replace X := hide X9
        obtain ⟨iv2, hh⟩ := tl_2n iv.out aj hp hk
        replace iv2 := hide iv2
        clear X9 K9 hS hc LAA
        have hCk2 := hCk.out
        subst hCk2
        go_wp2
        exact ⟨⟨j + 1, S.tell aj, qa, qc, by omega, by omega, by simp, by rw [hh]; rfl, iv2, X, by rw [hh]; exact RO, CB, B⟩, by simp [intOf]; omega⟩
    · by_cases hk : aj.k = 1
      · have hh : S.held = [S.lf] := held_3 (Or.inl hp)
        have hln : S.held.length = 1 := by rw [hh]; rfl
        rw [hh] at RO
        replace RO : Hid (Ro w.heap.size wr (.slice qa 1 qc) [S.lf]) := RO
        rw [hln]
        clear hh hln
        have NX := hide (next_3 b S hp wr X.out)
        go_wp2_with fail
        refine NX.out.mono ?_
        rintro e w1 ⟨rfl, hb⟩
        replace X := hide (X.out.below hb)
        replace RO := hide (RO.out.below hb)
        replace CB := hide (CB.out.below hb)
        replace B := hide (B.out.trans (hb.mono B.out.size))
        clear hb NX
        have b3 := (Below.refl w1.heap.size w1).alloc (Nat.le_refl _) (.cells (stL 1 S.me 3 S.wl S.wb zr zr S.oa S.oo 0 zr zr).toArray 53)
        have SN := hide (store_step w1 (stL 1 S.me 3 S.wl S.wb zr zr S.oa S.oo 0 zr zr).toArray rfl (by kernel_rfl))
        have T := hide (IsB.new w1 (stL 1 S.me 3 S.wl S.wb zr zr S.oa S.oo 0 zr zr).toArray 53)
        replace X := hide (X.out.below b3)
        replace RO := hide (RO.out.below b3)
        replace CB := hide (CB.out.below b3)
        replace B := hide (B.out.trans (b3.mono B.out.size))
        clear b3
        obtain ⟨t0, t6, -, -, -⟩ := step_ld T.out
        go_wp2_with (first | (focus ((with_reducible refine wpList_store_w ?_ 53 (.tmp 9) (.tmp 32) ?_ ?_ ?_ SN.out ?_); rotate_left; rfl; rfl; rfl; rotate_left; rfl)))
        clear SN t0 t6
        generalize (w1.alloc (.cells (stL 1 S.me 3 S.wl S.wb zr zr S.oa S.oo 0 zr zr).toArray 53)) = W2 at *
        generalize w1.heap.size = TB at *
        have e1 := hide iv.out.w1
        have e2 := hide iv.out.w2
        have XD := hide (IsB.below X.out ((Below.refl _ _).drew))
        have TD := hide (T.out.below ((Below.refl _ _).drew))
        have CD := hide (CB.out.below ((Below.refl _ _).drew))
        have RD := hide (RO.out.below ((Below.refl _ _).drew))
        have BD := hide B.out.drew
        generalize hCk : w.heap.size = CBk at CB CD
        replace hCk := hide hCk
        have HL := hide (iv.out.lt (by omega) (by omega))
        obtain ⟨g, cap, ev, -, -, -⟩ := RO.out.row.form (by simp)
        injection ev with ev el ec
        clear el
        subst ev ec
        have LG : Hid (∀ w', Below W2.heap.size W2 w' → (Instr.loadAt 27 (.pointer (some ⟨g, 1, none⟩))).run Try.prog w' = .ok (.agg #[.int .i64 (S.lf.rk), .int .u64 (S.lf.kn)]) w') := by
          intro w' hb
          have hr := RO.out.row
          refine run_loadAt_mid w' g 1 27 [.int .i64 S.lf.rk, .int .u64 S.lf.kn] _ (fun k v hk => ?_) Try.underlying27 rfl (by kernel_rfl)
          have hk2 : k < 2 := (List.getElem?_eq_some_iff.1 hk).1
          rw [hr.below hb |>.cellAt (1 + k) (by omega)]
          have : k = 0 ∨ k = 1 := by omega
          rcases this with rfl | rfl <;> exact hk
        have LG2 : Hid (∀ w', Below W2.drew.heap.size W2.drew w' → (Instr.loadAt 27 (.pointer (some ⟨g, 1, none⟩))).run Try.prog w' = .ok (.agg #[.int .i64 (S.lf.rk), .int .u64 (S.lf.kn)]) w') := fun w' hb => LG.out w' (((Below.refl _ _).drew).trans hb)
        clear X T CB RO B
        go_wp2_with fail
        refine regionL 31 (fun w' => IsB w' TB (stL 1 S.me 3 S.wl S.wb zr zr S.oa S.oo 0 zr zr).toArray 53 ∧ IsB w' CBk (cfL wl wb me oa oo).toArray 33 ∧ (Instr.loadAt 27 (.pointer (some ⟨g, 1, none⟩))).run Try.prog w' = .ok (.agg #[.int .i64 (S.lf.rk), .int .u64 (S.lf.kn)]) w') mixed ⟨TD.out, CD.out, LG.out _ ((Below.refl _ _).drew)⟩ (fun hHeld => ?_)
        generalize W2.drew = WD at *
        refine pickA (v := ?_) 0 (some 44) rfl rfl (by kernel_rfl) (by kernel_rfl) (by kernel_rfl) (by decide) (fun _ _ _ h => h) (by rfl) ?_ (by assumption) ?_
        rotate_left
        · intro w'
          go_simp
          try with_reducible rfl
        try simp only [Act.put, List.setIfInBounds_toArray, List.set_cons_zero, List.set_cons_succ]
        refine pickA (v := ?_) 1 (some 45) rfl rfl (by kernel_rfl) (by kernel_rfl) (by kernel_rfl) (by decide) (fun _ _ _ h => h) (by rfl) ?_ (by assumption) ?_
        rotate_left
        · intro w'
          go_simp
          try with_reducible rfl
        try simp only [Act.put, List.setIfInBounds_toArray, List.set_cons_zero, List.set_cons_succ]
        refine pickL (v := (.agg #[.int .i64 (S.wl), .int .u64 (S.wb)])) 2 (some 46) rfl rfl (by kernel_rfl) (by kernel_rfl) (by kernel_rfl) (by decide) (by kernel_rfl) (by kernel_rfl) (fun _ _ _ h => h) (by rfl) ?_ (by assumption) ?_
        · intro w' hSw
          obtain ⟨q0, q1, q2⟩ := hSw; obtain ⟨s0, s6, s7, s2, s1⟩ := step_ld q0; have c0 := ld_cw q1
          exact exec_load rfl rfl s7
        try simp only [Act.put, List.setIfInBounds_toArray, List.set_cons_zero, List.set_cons_succ]
        refine pickA (v := ?_) 3 (some 47) rfl rfl (by kernel_rfl) (by kernel_rfl) (by kernel_rfl) (by decide) (fun _ _ _ h => h) (by rfl) ?_ (by assumption) ?_
        rotate_left
        · intro w'
          go_simp
          try with_reducible rfl
        try simp only [Act.put, List.setIfInBounds_toArray, List.set_cons_zero, List.set_cons_succ]
        refine pickL (v := (.agg #[.int .i64 (wl), .int .u64 (wb)])) 4 (some 48) rfl rfl (by kernel_rfl) (by kernel_rfl) (by kernel_rfl) (by decide) (by kernel_rfl) (by kernel_rfl) (fun _ _ _ h => h) (by rfl) ?_ (by assumption) ?_
        · intro w' hSw
          obtain ⟨q0, q1, q2⟩ := hSw; obtain ⟨s0, s6, s7, s2, s1⟩ := step_ld q0; have c0 := ld_cw q1
          exact exec_load rfl rfl c0
        try simp only [Act.put, List.setIfInBounds_toArray, List.set_cons_zero, List.set_cons_succ]
        refine pickA (v := .bool false) 5 (some 49) rfl rfl (by kernel_rfl) (by kernel_rfl) (by kernel_rfl) (by decide) (fun _ _ _ h => h) (by rfl) ?_ (by assumption) ?_
        · intro w'
          exact exec_bin vguard rfl rfl rfl (by rw [e1.out, e2.out]; exact nev0 wl wb _)
        try simp only [Act.put, List.setIfInBounds_toArray, List.set_cons_zero, List.set_cons_succ]
        refine pickA (v := ?_) 6 (some 50) rfl rfl (by kernel_rfl) (by kernel_rfl) (by kernel_rfl) (by decide) (fun _ _ _ h => h) (by rfl) ?_ (by assumption) ?_
        rotate_left
        · intro w'
          go_simp
          try with_reducible rfl
        try simp only [Act.put, List.setIfInBounds_toArray, List.set_cons_zero, List.set_cons_succ]
        refine pickA (v := ?_) 7 (some 51) rfl rfl (by kernel_rfl) (by kernel_rfl) (by kernel_rfl) (by decide) (fun _ _ _ h => h) (by rfl) ?_ (by assumption) ?_
        rotate_left
        · intro w'
          go_simp
          try with_reducible rfl
        try simp only [Act.put, List.setIfInBounds_toArray, List.set_cons_zero, List.set_cons_succ]
        refine pickA (v := ?_) 8 (some 52) rfl rfl (by kernel_rfl) (by kernel_rfl) (by kernel_rfl) (by decide) (fun _ _ _ h => h) (by rfl) ?_ (by assumption) ?_
        rotate_left
        · intro w'
          go_simp
          try with_reducible rfl
        try simp only [Act.put, List.setIfInBounds_toArray, List.set_cons_zero, List.set_cons_succ]
        refine pickL (v := ?_) 9 (some 53) rfl rfl (by kernel_rfl) (by kernel_rfl) (by kernel_rfl) (by decide) (by kernel_rfl) (by kernel_rfl) (fun _ _ _ h => h) (by rfl) ?_ (by assumption) ?_
        rotate_left
        · intro w' hSw
          obtain ⟨q0, q1, q2⟩ := hSw; obtain ⟨s0, s6, s7, s2, s1⟩ := step_ld q0; have c0 := ld_cw q1
          go_simp
          try with_reducible rfl
        try simp only [Act.put, List.setIfInBounds_toArray, List.set_cons_zero, List.set_cons_succ]
        refine pickA (v := ?_) 10 (some 54) rfl rfl (by kernel_rfl) (by kernel_rfl) (by kernel_rfl) (by decide) (fun _ _ _ h => h) (by rfl) ?_ (by assumption) ?_
        rotate_left
        · intro w'
          go_simp
          try with_reducible rfl
        try simp only [Act.put, List.setIfInBounds_toArray, List.set_cons_zero, List.set_cons_succ]
        refine pickA (v := ?_) 11 (some 55) rfl rfl (by kernel_rfl) (by kernel_rfl) (by kernel_rfl) (by decide) (fun _ _ _ h => h) (by rfl) ?_ (by assumption) ?_
        rotate_left
        · intro w'
          go_simp
          try with_reducible rfl
        try simp only [Act.put, List.setIfInBounds_toArray, List.set_cons_zero, List.set_cons_succ]
        refine pickA (v := ?_) 12 (some 56) rfl rfl (by kernel_rfl) (by kernel_rfl) (by kernel_rfl) (by decide) (fun _ _ _ h => h) (by rfl) ?_ (by assumption) ?_
        rotate_left
        · intro w'
          go_simp
          try with_reducible rfl
        try simp only [Act.put, List.setIfInBounds_toArray, List.set_cons_zero, List.set_cons_succ]
        refine pickA (v := ?_) 13 (some 57) rfl rfl (by kernel_rfl) (by kernel_rfl) (by kernel_rfl) (by decide) (fun _ _ _ h => h) (by rfl) ?_ (by assumption) ?_
        rotate_left
        · intro w'
          go_simp
          try with_reducible rfl
        try simp only [Act.put, List.setIfInBounds_toArray, List.set_cons_zero, List.set_cons_succ]
        refine pickA (v := ?_) 14 (some 58) rfl rfl (by kernel_rfl) (by kernel_rfl) (by kernel_rfl) (by decide) (fun _ _ _ h => h) (by rfl) ?_ (by assumption) ?_
        rotate_left
        · intro w'
          go_simp
          try with_reducible rfl
        try simp only [Act.put, List.setIfInBounds_toArray, List.set_cons_zero, List.set_cons_succ]
        refine pickA (v := ?_) 15 (some 59) rfl rfl (by kernel_rfl) (by kernel_rfl) (by kernel_rfl) (by decide) (fun _ _ _ h => h) (by rfl) ?_ (by assumption) ?_
        rotate_left
        · intro w'
          go_simp
          try with_reducible rfl
        try simp only [Act.put, List.setIfInBounds_toArray, List.set_cons_zero, List.set_cons_succ]
        refine pickA (v := ?_) 16 (some 60) rfl rfl (by kernel_rfl) (by kernel_rfl) (by kernel_rfl) (by decide) (fun _ _ _ h => h) (by rfl) ?_ (by assumption) ?_
        rotate_left
        · intro w'
          go_simp
          try with_reducible rfl
        try simp only [Act.put, List.setIfInBounds_toArray, List.set_cons_zero, List.set_cons_succ]
        refine pickA (v := ?_) 17 (some 61) rfl rfl (by kernel_rfl) (by kernel_rfl) (by kernel_rfl) (by decide) (fun _ _ _ h => h) (by rfl) ?_ (by assumption) ?_
        rotate_left
        · intro w'
          go_simp
          try with_reducible rfl
        try simp only [Act.put, List.setIfInBounds_toArray, List.set_cons_zero, List.set_cons_succ]
        refine pickA (v := ?_) 18 (some 62) rfl rfl (by kernel_rfl) (by kernel_rfl) (by kernel_rfl) (by decide) (fun _ _ _ h => h) (by rfl) ?_ (by assumption) ?_
        rotate_left
        · intro w'
          go_simp
          try with_reducible rfl
        try simp only [Act.put, List.setIfInBounds_toArray, List.set_cons_zero, List.set_cons_succ]
        refine pickA (v := ?_) 19 (some 63) rfl rfl (by kernel_rfl) (by kernel_rfl) (by kernel_rfl) (by decide) (fun _ _ _ h => h) (by rfl) ?_ (by assumption) ?_
        rotate_left
        · intro w'
          go_simp
          try with_reducible rfl
        try simp only [Act.put, List.setIfInBounds_toArray, List.set_cons_zero, List.set_cons_succ]
        refine pickA (v := .int .i64 0) 20 (some 64) rfl rfl (by kernel_rfl) (by kernel_rfl) (by kernel_rfl) (by decide) (fun _ _ _ h => h) (by rfl) ?_ (by assumption) ?_
        · intro w'
          go_simp
          try rfl
        try simp only [Act.put, List.setIfInBounds_toArray, List.set_cons_zero, List.set_cons_succ]
        refine pickA (v := .pointer (some ⟨g, 0, none⟩)) 21 (some 65) rfl rfl (by kernel_rfl) (by kernel_rfl) (by kernel_rfl) (by decide) (fun _ _ _ h => h) (by rfl) ?_ (by assumption) ?_
        · intro w'
          go_simp
          try rfl
        try simp only [Act.put, List.setIfInBounds_toArray, List.set_cons_zero, List.set_cons_succ]
        refine pickA (v := .pointer (some ⟨g, 1, none⟩)) 22 (some 66) rfl rfl (by kernel_rfl) (by kernel_rfl) (by kernel_rfl) (by decide) (fun _ _ _ h => h) (by rfl) ?_ (by assumption) ?_
        · intro w'
          go_simp
          try rfl
        try simp only [Act.put, List.setIfInBounds_toArray, List.set_cons_zero, List.set_cons_succ]
        refine pickL (v := (.agg #[.int .i64 (S.lf.rk), .int .u64 (S.lf.kn)])) 23 (some 67) rfl rfl (by kernel_rfl) (by kernel_rfl) (by kernel_rfl) (by decide) (by kernel_rfl) (by kernel_rfl) (fun _ _ _ h => h) (by rfl) ?_ (by assumption) ?_
        · intro w' hSw
          obtain ⟨q0, q1, q2⟩ := hSw; obtain ⟨s0, s6, s7, s2, s1⟩ := step_ld q0; have c0 := ld_cw q1
          exact exec_load rfl rfl q2
        try simp only [Act.put, List.setIfInBounds_toArray, List.set_cons_zero, List.set_cons_succ]
        refine pickA (v := ?_) 24 (some 68) rfl rfl (by kernel_rfl) (by kernel_rfl) (by kernel_rfl) (by decide) (fun _ _ _ h => h) (by rfl) ?_ (by assumption) ?_
        rotate_left
        · intro w'
          go_simp
          try with_reducible rfl
        try simp only [Act.put, List.setIfInBounds_toArray, List.set_cons_zero, List.set_cons_succ]
        refine pickA (v := ?_) 25 (some 69) rfl rfl (by kernel_rfl) (by kernel_rfl) (by kernel_rfl) (by decide) (fun _ _ _ h => h) (by rfl) ?_ (by assumption) ?_
        rotate_left
        · intro w'
          go_simp
          try with_reducible rfl
        try simp only [Act.put, List.setIfInBounds_toArray, List.set_cons_zero, List.set_cons_succ]
        refine pickL (v := (.agg #[.int .i64 (S.me.rk), .int .u64 (S.me.kn)])) 26 (some 70) rfl rfl (by kernel_rfl) (by kernel_rfl) (by kernel_rfl) (by decide) (by kernel_rfl) (by kernel_rfl) (fun _ _ _ h => h) (by rfl) ?_ (by assumption) ?_
        · intro w' hSw
          obtain ⟨q0, q1, q2⟩ := hSw; obtain ⟨s0, s6, s7, s2, s1⟩ := step_ld q0; have c0 := ld_cw q1
          exact exec_load rfl rfl s2
        try simp only [Act.put, List.setIfInBounds_toArray, List.set_cons_zero, List.set_cons_succ]
        refine oneL (i := 27) (by kernel_rfl) rfl (fun K hK => ?_)
        go_simp
        refine (rLess_any S.lf.rk S.lf.kn S.me.rk S.me.kn WD).mono ?_
        rintro e' w3 ⟨rfl, hg⟩
        rw [HL.out]
        have T3 := hide (TD.out.below hg.below)
        have C3 := hide (CD.out.below hg.below)
        have hbD := hide hg.below
        clear hg
        refine hK.out _ _ ?_ ?_
        · exact ⟨T3.out, C3.out, LG2.out _ hbD.out⟩
        clear hK K
        try simp only [Act.put, List.setIfInBounds_toArray, List.set_cons_zero, List.set_cons_succ]
        clear hHeld
        have hHeld : (fun w' => IsB w' TB (stL 1 S.me 3 S.wl S.wb zr zr S.oa S.oo 0 zr zr).toArray 53 ∧ IsB w' CBk (cfL wl wb me oa oo).toArray 33 ∧ (Instr.loadAt 27 (.pointer (some ⟨g, 1, none⟩))).run Try.prog w' = .ok (.agg #[.int .i64 (S.lf.rk), .int .u64 (S.lf.kn)]) w') w3 := ⟨T3.out, C3.out, LG2.out _ hbD.out⟩
        refine pickA (v := ?_) 28 (some 72) rfl rfl (by kernel_rfl) (by kernel_rfl) (by kernel_rfl) (by decide) (fun _ _ _ h => h) (by rfl) ?_ (by assumption) ?_
        rotate_left
        · intro w'
          go_simp
          try with_reducible rfl
        try simp only [Act.put, List.setIfInBounds_toArray, List.set_cons_zero, List.set_cons_succ]
        refine pickA (v := ?_) 29 (some 73) rfl rfl (by kernel_rfl) (by kernel_rfl) (by kernel_rfl) (by decide) (fun _ _ _ h => h) (by rfl) ?_ (by assumption) ?_
        rotate_left
        · intro w'
          go_simp
          try with_reducible rfl
        try simp only [Act.put, List.setIfInBounds_toArray, List.set_cons_zero, List.set_cons_succ]
        refine pickA (v := ?_) 30 (some 74) rfl rfl (by kernel_rfl) (by kernel_rfl) (by kernel_rfl) (by decide) (fun _ _ _ h => h) (by rfl) ?_ (by assumption) ?_
        rotate_left
        · intro w'
          go_simp
          try with_reducible rfl
        try simp only [Act.put, List.setIfInBounds_toArray, List.set_cons_zero, List.set_cons_succ]
        refine doneL (by kernel_rfl) ?_ _
        clear hHeld
        have X := hide (XD.out.below hbD.out)
        have T := T3
        have CB := C3
        have RO := hide (RD.out.below hbD.out)
        have B := hide (BD.out.trans (hbD.out.mono BD.out.size))
        clear XD TD CD RD BD hbD T3 C3 LG LG2 HL
        obtain ⟨t0, t6, -, -, t1⟩ := step_ld T.out
        have LT := hide t1
        clear t0 t1
        have y0 := (OC.out _ B.out)
        rw [hk] at y0
        obtain ⟨ra, rc, wA, hap, hRo, hKp⟩ := RO.out.push S.me (by simp) B.out.size 62
        have HAP : Hid (_) := hap
        have ROA : Hid (Ro w.heap.size wA (.slice ra 2 rc) [S.lf, S.me]) := hRo
        have nX := RO.out.ne X.out (by decide)
        have nC := RO.out.ne CB.out (by decide)
        have nN := RO.out.new
        have XA := hide (IsB.kp X.out hKp (fun hm => nX _ hm rfl))
        have CA := hide (CB.out.kp hKp (fun hm => nC _ hm rfl))
        have BA := hide (B.out.trans (hKp.to_below B.out.size (fun k hk => nN k (by simpa using hk))))
        clear hap hRo hKp nX nC nN
        have LAA := hide (OA.out _ BA.out)
        go_wp2_with (first | (focus ((with_reducible refine wpList_load_w ?_ 29 (.tmp 89) ?_ ?_ LT.out ?_); rotate_left; rfl; rfl; rotate_left; rfl)) | (at_builtin; refine wpList_append_eq rfl (.tmp 88) (.tmp 91) 62 rfl _ _ (.slice ra 2 rc) wA rfl rfl HAP.out ?_) | (focus ((with_reducible refine wpList_load_w ?_ 58 (.tmp 114) ?_ ?_ LAA.out ?_); rotate_left; rfl; rfl; rotate_left; rfl)))
        clear X CB RO B HAP LT y0 t6 T
        have X := XA
        have CB := CA
        have RO := ROA
        have B := BA
        clear XA CA ROA BA
        refine (tell_any b S aj iv.out.ok _ X.out).mono ?_
        rintro e w9 ⟨rfl, X9, K9⟩
        have hS := us_ne X.out
        replace RO := hide (RO.out.kp K9 hS)
        have hc : CBk ≠ b := fun e => IsB.ne_t CB.out X.out (by decide) e
        replace CB := hide (CB.out.kp K9 (by simpa using hc))
        replace B := hide (B.out.trans (K9.to_below B.out.size (by simpa using hBb.out)))
        replace X := hide X9
        obtain ⟨iv2, hh⟩ := tl_3y iv.out aj hp hk
        replace iv2 := hide iv2
        clear X9 K9 hS hc LAA
        have hCk2 := hCk.out
        subst hCk2
        go_wp2
        exact ⟨⟨j + 1, S.tell aj, ra, rc, by omega, by omega, by simp, by rw [hh]; rfl, iv2, X, by rw [hh]; exact RO, CB, B⟩, by simp [intOf]; omega⟩
      · have hh : S.held = [S.lf] := held_3 (Or.inl hp)
        have hln : S.held.length = 1 := by rw [hh]; rfl
        rw [hh] at RO
        replace RO : Hid (Ro w.heap.size wr (.slice qa 1 qc) [S.lf]) := RO
        rw [hln]
        clear hh hln
        have NX := hide (next_3 b S hp wr X.out)
        go_wp2_with fail
        refine NX.out.mono ?_
        rintro e w1 ⟨rfl, hb⟩
        replace X := hide (X.out.below hb)
        replace RO := hide (RO.out.below hb)
        replace CB := hide (CB.out.below hb)
        replace B := hide (B.out.trans (hb.mono B.out.size))
        clear hb NX
        have b3 := (Below.refl w1.heap.size w1).alloc (Nat.le_refl _) (.cells (stL 1 S.me 3 S.wl S.wb zr zr S.oa S.oo 0 zr zr).toArray 53)
        have SN := hide (store_step w1 (stL 1 S.me 3 S.wl S.wb zr zr S.oa S.oo 0 zr zr).toArray rfl (by kernel_rfl))
        have T := hide (IsB.new w1 (stL 1 S.me 3 S.wl S.wb zr zr S.oa S.oo 0 zr zr).toArray 53)
        replace X := hide (X.out.below b3)
        replace RO := hide (RO.out.below b3)
        replace CB := hide (CB.out.below b3)
        replace B := hide (B.out.trans (b3.mono B.out.size))
        clear b3
        obtain ⟨t0, t6, -, -, -⟩ := step_ld T.out
        go_wp2_with (first | (focus ((with_reducible refine wpList_store_w ?_ 53 (.tmp 9) (.tmp 32) ?_ ?_ ?_ SN.out ?_); rotate_left; rfl; rfl; rfl; rotate_left; rfl)))
        clear SN t0 t6
        generalize (w1.alloc (.cells (stL 1 S.me 3 S.wl S.wb zr zr S.oa S.oo 0 zr zr).toArray 53)) = W2 at *
        generalize w1.heap.size = TB at *
        have e1 := hide iv.out.w1
        have e2 := hide iv.out.w2
        have XD := hide (IsB.below X.out ((Below.refl _ _).drew))
        have TD := hide (T.out.below ((Below.refl _ _).drew))
        have CD := hide (CB.out.below ((Below.refl _ _).drew))
        have RD := hide (RO.out.below ((Below.refl _ _).drew))
        have BD := hide B.out.drew
        generalize hCk : w.heap.size = CBk at CB CD
        replace hCk := hide hCk
        have HL := hide (iv.out.lt (by omega) (by omega))
        obtain ⟨g, cap, ev, -, -, -⟩ := RO.out.row.form (by simp)
        injection ev with ev el ec
        clear el
        subst ev ec
        have LG : Hid (∀ w', Below W2.heap.size W2 w' → (Instr.loadAt 27 (.pointer (some ⟨g, 1, none⟩))).run Try.prog w' = .ok (.agg #[.int .i64 (S.lf.rk), .int .u64 (S.lf.kn)]) w') := by
          intro w' hb
          have hr := RO.out.row
          refine run_loadAt_mid w' g 1 27 [.int .i64 S.lf.rk, .int .u64 S.lf.kn] _ (fun k v hk => ?_) Try.underlying27 rfl (by kernel_rfl)
          have hk2 : k < 2 := (List.getElem?_eq_some_iff.1 hk).1
          rw [hr.below hb |>.cellAt (1 + k) (by omega)]
          have : k = 0 ∨ k = 1 := by omega
          rcases this with rfl | rfl <;> exact hk
        have LG2 : Hid (∀ w', Below W2.drew.heap.size W2.drew w' → (Instr.loadAt 27 (.pointer (some ⟨g, 1, none⟩))).run Try.prog w' = .ok (.agg #[.int .i64 (S.lf.rk), .int .u64 (S.lf.kn)]) w') := fun w' hb => LG.out w' (((Below.refl _ _).drew).trans hb)
        clear X T CB RO B
        go_wp2_with fail
        refine regionL 31 (fun w' => IsB w' TB (stL 1 S.me 3 S.wl S.wb zr zr S.oa S.oo 0 zr zr).toArray 53 ∧ IsB w' CBk (cfL wl wb me oa oo).toArray 33 ∧ (Instr.loadAt 27 (.pointer (some ⟨g, 1, none⟩))).run Try.prog w' = .ok (.agg #[.int .i64 (S.lf.rk), .int .u64 (S.lf.kn)]) w') mixed ⟨TD.out, CD.out, LG.out _ ((Below.refl _ _).drew)⟩ (fun hHeld => ?_)
        generalize W2.drew = WD at *
        refine pickA (v := ?_) 0 (some 44) rfl rfl (by kernel_rfl) (by kernel_rfl) (by kernel_rfl) (by decide) (fun _ _ _ h => h) (by rfl) ?_ (by assumption) ?_
        rotate_left
        · intro w'
          go_simp
          try with_reducible rfl
        try simp only [Act.put, List.setIfInBounds_toArray, List.set_cons_zero, List.set_cons_succ]
        refine pickA (v := ?_) 1 (some 45) rfl rfl (by kernel_rfl) (by kernel_rfl) (by kernel_rfl) (by decide) (fun _ _ _ h => h) (by rfl) ?_ (by assumption) ?_
        rotate_left
        · intro w'
          go_simp
          try with_reducible rfl
        try simp only [Act.put, List.setIfInBounds_toArray, List.set_cons_zero, List.set_cons_succ]
        refine pickL (v := (.agg #[.int .i64 (S.wl), .int .u64 (S.wb)])) 2 (some 46) rfl rfl (by kernel_rfl) (by kernel_rfl) (by kernel_rfl) (by decide) (by kernel_rfl) (by kernel_rfl) (fun _ _ _ h => h) (by rfl) ?_ (by assumption) ?_
        · intro w' hSw
          obtain ⟨q0, q1, q2⟩ := hSw; obtain ⟨s0, s6, s7, s2, s1⟩ := step_ld q0; have c0 := ld_cw q1
          exact exec_load rfl rfl s7
        try simp only [Act.put, List.setIfInBounds_toArray, List.set_cons_zero, List.set_cons_succ]
        refine pickA (v := ?_) 3 (some 47) rfl rfl (by kernel_rfl) (by kernel_rfl) (by kernel_rfl) (by decide) (fun _ _ _ h => h) (by rfl) ?_ (by assumption) ?_
        rotate_left
        · intro w'
          go_simp
          try with_reducible rfl
        try simp only [Act.put, List.setIfInBounds_toArray, List.set_cons_zero, List.set_cons_succ]
        refine pickL (v := (.agg #[.int .i64 (wl), .int .u64 (wb)])) 4 (some 48) rfl rfl (by kernel_rfl) (by kernel_rfl) (by kernel_rfl) (by decide) (by kernel_rfl) (by kernel_rfl) (fun _ _ _ h => h) (by rfl) ?_ (by assumption) ?_
        · intro w' hSw
          obtain ⟨q0, q1, q2⟩ := hSw; obtain ⟨s0, s6, s7, s2, s1⟩ := step_ld q0; have c0 := ld_cw q1
          exact exec_load rfl rfl c0
        try simp only [Act.put, List.setIfInBounds_toArray, List.set_cons_zero, List.set_cons_succ]
        refine pickA (v := .bool false) 5 (some 49) rfl rfl (by kernel_rfl) (by kernel_rfl) (by kernel_rfl) (by decide) (fun _ _ _ h => h) (by rfl) ?_ (by assumption) ?_
        · intro w'
          exact exec_bin vguard rfl rfl rfl (by rw [e1.out, e2.out]; exact nev0 wl wb _)
        try simp only [Act.put, List.setIfInBounds_toArray, List.set_cons_zero, List.set_cons_succ]
        refine pickA (v := ?_) 6 (some 50) rfl rfl (by kernel_rfl) (by kernel_rfl) (by kernel_rfl) (by decide) (fun _ _ _ h => h) (by rfl) ?_ (by assumption) ?_
        rotate_left
        · intro w'
          go_simp
          try with_reducible rfl
        try simp only [Act.put, List.setIfInBounds_toArray, List.set_cons_zero, List.set_cons_succ]
        refine pickA (v := ?_) 7 (some 51) rfl rfl (by kernel_rfl) (by kernel_rfl) (by kernel_rfl) (by decide) (fun _ _ _ h => h) (by rfl) ?_ (by assumption) ?_
        rotate_left
        · intro w'
          go_simp
          try with_reducible rfl
        try simp only [Act.put, List.setIfInBounds_toArray, List.set_cons_zero, List.set_cons_succ]
        refine pickA (v := ?_) 8 (some 52) rfl rfl (by kernel_rfl) (by kernel_rfl) (by kernel_rfl) (by decide) (fun _ _ _ h => h) (by rfl) ?_ (by assumption) ?_
        rotate_left
        · intro w'
          go_simp
          try with_reducible rfl
        try simp only [Act.put, List.setIfInBounds_toArray, List.set_cons_zero, List.set_cons_succ]
        refine pickL (v := ?_) 9 (some 53) rfl rfl (by kernel_rfl) (by kernel_rfl) (by kernel_rfl) (by decide) (by kernel_rfl) (by kernel_rfl) (fun _ _ _ h => h) (by rfl) ?_ (by assumption) ?_
        rotate_left
        · intro w' hSw
          obtain ⟨q0, q1, q2⟩ := hSw; obtain ⟨s0, s6, s7, s2, s1⟩ := step_ld q0; have c0 := ld_cw q1
          go_simp
          try with_reducible rfl
        try simp only [Act.put, List.setIfInBounds_toArray, List.set_cons_zero, List.set_cons_succ]
        refine pickA (v := ?_) 10 (some 54) rfl rfl (by kernel_rfl) (by kernel_rfl) (by kernel_rfl) (by decide) (fun _ _ _ h => h) (by rfl) ?_ (by assumption) ?_
        rotate_left
        · intro w'
          go_simp
          try with_reducible rfl
        try simp only [Act.put, List.setIfInBounds_toArray, List.set_cons_zero, List.set_cons_succ]
        refine pickA (v := ?_) 11 (some 55) rfl rfl (by kernel_rfl) (by kernel_rfl) (by kernel_rfl) (by decide) (fun _ _ _ h => h) (by rfl) ?_ (by assumption) ?_
        rotate_left
        · intro w'
          go_simp
          try with_reducible rfl
        try simp only [Act.put, List.setIfInBounds_toArray, List.set_cons_zero, List.set_cons_succ]
        refine pickA (v := ?_) 12 (some 56) rfl rfl (by kernel_rfl) (by kernel_rfl) (by kernel_rfl) (by decide) (fun _ _ _ h => h) (by rfl) ?_ (by assumption) ?_
        rotate_left
        · intro w'
          go_simp
          try with_reducible rfl
        try simp only [Act.put, List.setIfInBounds_toArray, List.set_cons_zero, List.set_cons_succ]
        refine pickA (v := ?_) 13 (some 57) rfl rfl (by kernel_rfl) (by kernel_rfl) (by kernel_rfl) (by decide) (fun _ _ _ h => h) (by rfl) ?_ (by assumption) ?_
        rotate_left
        · intro w'
          go_simp
          try with_reducible rfl
        try simp only [Act.put, List.setIfInBounds_toArray, List.set_cons_zero, List.set_cons_succ]
        refine pickA (v := ?_) 14 (some 58) rfl rfl (by kernel_rfl) (by kernel_rfl) (by kernel_rfl) (by decide) (fun _ _ _ h => h) (by rfl) ?_ (by assumption) ?_
        rotate_left
        · intro w'
          go_simp
          try with_reducible rfl
        try simp only [Act.put, List.setIfInBounds_toArray, List.set_cons_zero, List.set_cons_succ]
        refine pickA (v := ?_) 15 (some 59) rfl rfl (by kernel_rfl) (by kernel_rfl) (by kernel_rfl) (by decide) (fun _ _ _ h => h) (by rfl) ?_ (by assumption) ?_
        rotate_left
        · intro w'
          go_simp
          try with_reducible rfl
        try simp only [Act.put, List.setIfInBounds_toArray, List.set_cons_zero, List.set_cons_succ]
        refine pickA (v := ?_) 16 (some 60) rfl rfl (by kernel_rfl) (by kernel_rfl) (by kernel_rfl) (by decide) (fun _ _ _ h => h) (by rfl) ?_ (by assumption) ?_
        rotate_left
        · intro w'
          go_simp
          try with_reducible rfl
        try simp only [Act.put, List.setIfInBounds_toArray, List.set_cons_zero, List.set_cons_succ]
        refine pickA (v := ?_) 17 (some 61) rfl rfl (by kernel_rfl) (by kernel_rfl) (by kernel_rfl) (by decide) (fun _ _ _ h => h) (by rfl) ?_ (by assumption) ?_
        rotate_left
        · intro w'
          go_simp
          try with_reducible rfl
        try simp only [Act.put, List.setIfInBounds_toArray, List.set_cons_zero, List.set_cons_succ]
        refine pickA (v := ?_) 18 (some 62) rfl rfl (by kernel_rfl) (by kernel_rfl) (by kernel_rfl) (by decide) (fun _ _ _ h => h) (by rfl) ?_ (by assumption) ?_
        rotate_left
        · intro w'
          go_simp
          try with_reducible rfl
        try simp only [Act.put, List.setIfInBounds_toArray, List.set_cons_zero, List.set_cons_succ]
        refine pickA (v := ?_) 19 (some 63) rfl rfl (by kernel_rfl) (by kernel_rfl) (by kernel_rfl) (by decide) (fun _ _ _ h => h) (by rfl) ?_ (by assumption) ?_
        rotate_left
        · intro w'
          go_simp
          try with_reducible rfl
        try simp only [Act.put, List.setIfInBounds_toArray, List.set_cons_zero, List.set_cons_succ]
        refine pickA (v := .int .i64 0) 20 (some 64) rfl rfl (by kernel_rfl) (by kernel_rfl) (by kernel_rfl) (by decide) (fun _ _ _ h => h) (by rfl) ?_ (by assumption) ?_
        · intro w'
          go_simp
          try rfl
        try simp only [Act.put, List.setIfInBounds_toArray, List.set_cons_zero, List.set_cons_succ]
        refine pickA (v := .pointer (some ⟨g, 0, none⟩)) 21 (some 65) rfl rfl (by kernel_rfl) (by kernel_rfl) (by kernel_rfl) (by decide) (fun _ _ _ h => h) (by rfl) ?_ (by assumption) ?_
        · intro w'
          go_simp
          try rfl
        try simp only [Act.put, List.setIfInBounds_toArray, List.set_cons_zero, List.set_cons_succ]
        refine pickA (v := .pointer (some ⟨g, 1, none⟩)) 22 (some 66) rfl rfl (by kernel_rfl) (by kernel_rfl) (by kernel_rfl) (by decide) (fun _ _ _ h => h) (by rfl) ?_ (by assumption) ?_
        · intro w'
          go_simp
          try rfl
        try simp only [Act.put, List.setIfInBounds_toArray, List.set_cons_zero, List.set_cons_succ]
        refine pickL (v := (.agg #[.int .i64 (S.lf.rk), .int .u64 (S.lf.kn)])) 23 (some 67) rfl rfl (by kernel_rfl) (by kernel_rfl) (by kernel_rfl) (by decide) (by kernel_rfl) (by kernel_rfl) (fun _ _ _ h => h) (by rfl) ?_ (by assumption) ?_
        · intro w' hSw
          obtain ⟨q0, q1, q2⟩ := hSw; obtain ⟨s0, s6, s7, s2, s1⟩ := step_ld q0; have c0 := ld_cw q1
          exact exec_load rfl rfl q2
        try simp only [Act.put, List.setIfInBounds_toArray, List.set_cons_zero, List.set_cons_succ]
        refine pickA (v := ?_) 24 (some 68) rfl rfl (by kernel_rfl) (by kernel_rfl) (by kernel_rfl) (by decide) (fun _ _ _ h => h) (by rfl) ?_ (by assumption) ?_
        rotate_left
        · intro w'
          go_simp
          try with_reducible rfl
        try simp only [Act.put, List.setIfInBounds_toArray, List.set_cons_zero, List.set_cons_succ]
        refine pickA (v := ?_) 25 (some 69) rfl rfl (by kernel_rfl) (by kernel_rfl) (by kernel_rfl) (by decide) (fun _ _ _ h => h) (by rfl) ?_ (by assumption) ?_
        rotate_left
        · intro w'
          go_simp
          try with_reducible rfl
        try simp only [Act.put, List.setIfInBounds_toArray, List.set_cons_zero, List.set_cons_succ]
        refine pickL (v := (.agg #[.int .i64 (S.me.rk), .int .u64 (S.me.kn)])) 26 (some 70) rfl rfl (by kernel_rfl) (by kernel_rfl) (by kernel_rfl) (by decide) (by kernel_rfl) (by kernel_rfl) (fun _ _ _ h => h) (by rfl) ?_ (by assumption) ?_
        · intro w' hSw
          obtain ⟨q0, q1, q2⟩ := hSw; obtain ⟨s0, s6, s7, s2, s1⟩ := step_ld q0; have c0 := ld_cw q1
          exact exec_load rfl rfl s2
        try simp only [Act.put, List.setIfInBounds_toArray, List.set_cons_zero, List.set_cons_succ]
        refine oneL (i := 27) (by kernel_rfl) rfl (fun K hK => ?_)
        go_simp
        refine (rLess_any S.lf.rk S.lf.kn S.me.rk S.me.kn WD).mono ?_
        rintro e' w3 ⟨rfl, hg⟩
        rw [HL.out]
        have T3 := hide (TD.out.below hg.below)
        have C3 := hide (CD.out.below hg.below)
        have hbD := hide hg.below
        clear hg
        refine hK.out _ _ ?_ ?_
        · exact ⟨T3.out, C3.out, LG2.out _ hbD.out⟩
        clear hK K
        try simp only [Act.put, List.setIfInBounds_toArray, List.set_cons_zero, List.set_cons_succ]
        clear hHeld
        have hHeld : (fun w' => IsB w' TB (stL 1 S.me 3 S.wl S.wb zr zr S.oa S.oo 0 zr zr).toArray 53 ∧ IsB w' CBk (cfL wl wb me oa oo).toArray 33 ∧ (Instr.loadAt 27 (.pointer (some ⟨g, 1, none⟩))).run Try.prog w' = .ok (.agg #[.int .i64 (S.lf.rk), .int .u64 (S.lf.kn)]) w') w3 := ⟨T3.out, C3.out, LG2.out _ hbD.out⟩
        refine pickA (v := ?_) 28 (some 72) rfl rfl (by kernel_rfl) (by kernel_rfl) (by kernel_rfl) (by decide) (fun _ _ _ h => h) (by rfl) ?_ (by assumption) ?_
        rotate_left
        · intro w'
          go_simp
          try with_reducible rfl
        try simp only [Act.put, List.setIfInBounds_toArray, List.set_cons_zero, List.set_cons_succ]
        refine pickA (v := ?_) 29 (some 73) rfl rfl (by kernel_rfl) (by kernel_rfl) (by kernel_rfl) (by decide) (fun _ _ _ h => h) (by rfl) ?_ (by assumption) ?_
        rotate_left
        · intro w'
          go_simp
          try with_reducible rfl
        try simp only [Act.put, List.setIfInBounds_toArray, List.set_cons_zero, List.set_cons_succ]
        refine pickA (v := ?_) 30 (some 74) rfl rfl (by kernel_rfl) (by kernel_rfl) (by kernel_rfl) (by decide) (fun _ _ _ h => h) (by rfl) ?_ (by assumption) ?_
        rotate_left
        · intro w'
          go_simp
          try with_reducible rfl
        try simp only [Act.put, List.setIfInBounds_toArray, List.set_cons_zero, List.set_cons_succ]
        refine doneL (by kernel_rfl) ?_ _
        clear hHeld
        have X := hide (XD.out.below hbD.out)
        have T := T3
        have CB := C3
        have RO := hide (RD.out.below hbD.out)
        have B := hide (BD.out.trans (hbD.out.mono BD.out.size))
        clear XD TD CD RD BD hbD T3 C3 LG LG2 HL
        obtain ⟨t0, t6, -, -, t1⟩ := step_ld T.out
        have LT := hide t1
        clear t0 t1
        have y0 := (OC.out _ B.out)
        have k1 : (aj.k == 1) = false := by simpa using hk
        have LAA := hide (OA.out _ B.out)
        go_wp2_with (first | (focus ((with_reducible refine wpList_load_w ?_ 58 (.tmp 114) ?_ ?_ LAA.out ?_); rotate_left; rfl; rfl; rotate_left; rfl)))
        clear LT t6 T
        refine (tell_any b S aj iv.out.ok _ X.out).mono ?_
        rintro e w9 ⟨rfl, X9, K9⟩
        have hS := us_ne X.out
        replace RO := hide (RO.out.kp K9 hS)
        have hc : CBk ≠ b := fun e => IsB.ne_t CB.out X.out (by decide) e
        replace CB := hide (CB.out.kp K9 (by simpa using hc))
        replace B := hide (B.out.trans (K9.to_below B.out.size (by simpa using hBb.out)))
        replace X := hide X9
        obtain ⟨iv2, hh⟩ := tl_3n iv.out aj hp hk
        replace iv2 := hide iv2
        clear X9 K9 hS hc LAA
        have hCk2 := hCk.out
        subst hCk2
        go_wp2
        exact ⟨⟨j + 1, S.tell aj, (some ⟨g, 0, none⟩), qc, by omega, by omega, by simp, by rw [hh]; rfl, iv2, X, by rw [hh]; exact RO, CB, B⟩, by simp [intOf]; omega⟩
    · have hh : S.held = [S.lf, S.me] := held_4 (by omega) (by omega)
      have hln : S.held.length = 2 := by rw [hh]; rfl
      rw [hh] at RO
      replace RO : Hid (Ro w.heap.size wr (.slice qa 2 qc) [S.lf, S.me]) := RO
      rw [hln]
      clear hh hln
      have NX := hide (next_4 b S hp wr X.out)
      go_wp2_with fail
      refine NX.out.mono ?_
      rintro e w1 ⟨rfl, hb⟩
      replace X := hide (X.out.below hb)
      replace RO := hide (RO.out.below hb)
      replace CB := hide (CB.out.below hb)
      replace B := hide (B.out.trans (hb.mono B.out.size))
      clear hb NX
      have b3 := (Below.refl w1.heap.size w1).alloc (Nat.le_refl _) (.cells (stL 1 S.lf 5 S.wl S.wb S.rg zr S.oa S.oo 0 zr zr).toArray 53)
      have SN := hide (store_step w1 (stL 1 S.lf 5 S.wl S.wb S.rg zr S.oa S.oo 0 zr zr).toArray rfl (by kernel_rfl))
      have T := hide (IsB.new w1 (stL 1 S.lf 5 S.wl S.wb S.rg zr S.oa S.oo 0 zr zr).toArray 53)
      replace X := hide (X.out.below b3)
      replace RO := hide (RO.out.below b3)
      replace CB := hide (CB.out.below b3)
      replace B := hide (B.out.trans (b3.mono B.out.size))
      clear b3
      obtain ⟨t0, t6, -, -, -⟩ := step_ld T.out
      go_wp2_with (first | (focus ((with_reducible refine wpList_store_w ?_ 53 (.tmp 9) (.tmp 32) ?_ ?_ ?_ SN.out ?_); rotate_left; rfl; rfl; rfl; rotate_left; rfl)))
      clear SN t0 t6
      generalize (w1.alloc (.cells (stL 1 S.lf 5 S.wl S.wb S.rg zr S.oa S.oo 0 zr zr).toArray 53)) = W2 at *
      generalize w1.heap.size = TB at *
      have e1 := hide iv.out.w1
      have e2 := hide iv.out.w2
      have XD := hide (IsB.below X.out ((Below.refl _ _).drew))
      have TD := hide (T.out.below ((Below.refl _ _).drew))
      have CD := hide (CB.out.below ((Below.refl _ _).drew))
      have RD := hide (RO.out.below ((Below.refl _ _).drew))
      have BD := hide B.out.drew
      generalize hCk : w.heap.size = CBk at CB CD
      replace hCk := hide hCk
      clear X T CB RO B
      go_wp2_with fail
      refine regionL 31 (fun w' => IsB w' TB (stL 1 S.lf 5 S.wl S.wb S.rg zr S.oa S.oo 0 zr zr).toArray 53 ∧ IsB w' CBk (cfL wl wb me oa oo).toArray 33) mixed ⟨TD.out, CD.out⟩ (fun hHeld => ?_)
      generalize W2.drew = WD at *
      refine pickA (v := ?_) 0 (some 44) rfl rfl (by kernel_rfl) (by kernel_rfl) (by kernel_rfl) (by decide) (fun _ _ _ h => h) (by rfl) ?_ (by assumption) ?_
      rotate_left
      · intro w'
        go_simp
        try with_reducible rfl
      try simp only [Act.put, List.setIfInBounds_toArray, List.set_cons_zero, List.set_cons_succ]
      refine pickA (v := ?_) 1 (some 45) rfl rfl (by kernel_rfl) (by kernel_rfl) (by kernel_rfl) (by decide) (fun _ _ _ h => h) (by rfl) ?_ (by assumption) ?_
      rotate_left
      · intro w'
        go_simp
        try with_reducible rfl
      try simp only [Act.put, List.setIfInBounds_toArray, List.set_cons_zero, List.set_cons_succ]
      refine pickL (v := (.agg #[.int .i64 (S.wl), .int .u64 (S.wb)])) 2 (some 46) rfl rfl (by kernel_rfl) (by kernel_rfl) (by kernel_rfl) (by decide) (by kernel_rfl) (by kernel_rfl) (fun _ _ _ h => h) (by rfl) ?_ (by assumption) ?_
      · intro w' hSw
        obtain ⟨q0, q1⟩ := hSw; obtain ⟨s0, s6, s7, s2, s1⟩ := step_ld q0; have c0 := ld_cw q1
        exact exec_load rfl rfl s7
      try simp only [Act.put, List.setIfInBounds_toArray, List.set_cons_zero, List.set_cons_succ]
      refine pickA (v := ?_) 3 (some 47) rfl rfl (by kernel_rfl) (by kernel_rfl) (by kernel_rfl) (by decide) (fun _ _ _ h => h) (by rfl) ?_ (by assumption) ?_
      rotate_left
      · intro w'
        go_simp
        try with_reducible rfl
      try simp only [Act.put, List.setIfInBounds_toArray, List.set_cons_zero, List.set_cons_succ]
      refine pickL (v := (.agg #[.int .i64 (wl), .int .u64 (wb)])) 4 (some 48) rfl rfl (by kernel_rfl) (by kernel_rfl) (by kernel_rfl) (by decide) (by kernel_rfl) (by kernel_rfl) (fun _ _ _ h => h) (by rfl) ?_ (by assumption) ?_
      · intro w' hSw
        obtain ⟨q0, q1⟩ := hSw; obtain ⟨s0, s6, s7, s2, s1⟩ := step_ld q0; have c0 := ld_cw q1
        exact exec_load rfl rfl c0
      try simp only [Act.put, List.setIfInBounds_toArray, List.set_cons_zero, List.set_cons_succ]
      refine pickA (v := .bool false) 5 (some 49) rfl rfl (by kernel_rfl) (by kernel_rfl) (by kernel_rfl) (by decide) (fun _ _ _ h => h) (by rfl) ?_ (by assumption) ?_
      · intro w'
        exact exec_bin vguard rfl rfl rfl (by rw [e1.out, e2.out]; exact nev0 wl wb _)
      try simp only [Act.put, List.setIfInBounds_toArray, List.set_cons_zero, List.set_cons_succ]
      refine pickA (v := ?_) 6 (some 50) rfl rfl (by kernel_rfl) (by kernel_rfl) (by kernel_rfl) (by decide) (fun _ _ _ h => h) (by rfl) ?_ (by assumption) ?_
      rotate_left
      · intro w'
        go_simp
        try with_reducible rfl
      try simp only [Act.put, List.setIfInBounds_toArray, List.set_cons_zero, List.set_cons_succ]
      refine pickA (v := ?_) 7 (some 51) rfl rfl (by kernel_rfl) (by kernel_rfl) (by kernel_rfl) (by decide) (fun _ _ _ h => h) (by rfl) ?_ (by assumption) ?_
      rotate_left
      · intro w'
        go_simp
        try with_reducible rfl
      try simp only [Act.put, List.setIfInBounds_toArray, List.set_cons_zero, List.set_cons_succ]
      refine pickA (v := ?_) 8 (some 52) rfl rfl (by kernel_rfl) (by kernel_rfl) (by kernel_rfl) (by decide) (fun _ _ _ h => h) (by rfl) ?_ (by assumption) ?_
      rotate_left
      · intro w'
        go_simp
        try with_reducible rfl
      try simp only [Act.put, List.setIfInBounds_toArray, List.set_cons_zero, List.set_cons_succ]
      refine pickL (v := ?_) 9 (some 53) rfl rfl (by kernel_rfl) (by kernel_rfl) (by kernel_rfl) (by decide) (by kernel_rfl) (by kernel_rfl) (fun _ _ _ h => h) (by rfl) ?_ (by assumption) ?_
      rotate_left
      · intro w' hSw
        obtain ⟨q0, q1⟩ := hSw; obtain ⟨s0, s6, s7, s2, s1⟩ := step_ld q0; have c0 := ld_cw q1
        go_simp
        try with_reducible rfl
      try simp only [Act.put, List.setIfInBounds_toArray, List.set_cons_zero, List.set_cons_succ]
      refine pickA (v := ?_) 10 (some 54) rfl rfl (by kernel_rfl) (by kernel_rfl) (by kernel_rfl) (by decide) (fun _ _ _ h => h) (by rfl) ?_ (by assumption) ?_
      rotate_left
      · intro w'
        go_simp
        try with_reducible rfl
      try simp only [Act.put, List.setIfInBounds_toArray, List.set_cons_zero, List.set_cons_succ]
      refine pickA (v := ?_) 11 (some 55) rfl rfl (by kernel_rfl) (by kernel_rfl) (by kernel_rfl) (by decide) (fun _ _ _ h => h) (by rfl) ?_ (by assumption) ?_
      rotate_left
      · intro w'
        go_simp
        try with_reducible rfl
      try simp only [Act.put, List.setIfInBounds_toArray, List.set_cons_zero, List.set_cons_succ]
      refine pickN 12 (some 56) rfl rfl (by kernel_rfl) (by kernel_rfl) (by kernel_rfl) (by decide) (fun _ _ _ h => h) (by rfl) (by assumption) ?_
      try simp only [Act.put, List.setIfInBounds_toArray, List.set_cons_zero, List.set_cons_succ]
      refine pickN 13 (some 57) rfl rfl (by kernel_rfl) (by kernel_rfl) (by kernel_rfl) (by decide) (fun _ _ _ h => h) (by rfl) (by assumption) ?_
      try simp only [Act.put, List.setIfInBounds_toArray, List.set_cons_zero, List.set_cons_succ]
      refine pickN 14 (some 58) rfl rfl (by kernel_rfl) (by kernel_rfl) (by kernel_rfl) (by decide) (fun _ _ _ h => h) (by rfl) (by assumption) ?_
      try simp only [Act.put, List.setIfInBounds_toArray, List.set_cons_zero, List.set_cons_succ]
      refine pickA (v := ?_) 15 (some 59) rfl rfl (by kernel_rfl) (by kernel_rfl) (by kernel_rfl) (by decide) (fun _ _ _ h => h) (by rfl) ?_ (by assumption) ?_
      rotate_left
      · intro w'
        go_simp
        try with_reducible rfl
      try simp only [Act.put, List.setIfInBounds_toArray, List.set_cons_zero, List.set_cons_succ]
      refine pickA (v := ?_) 16 (some 60) rfl rfl (by kernel_rfl) (by kernel_rfl) (by kernel_rfl) (by decide) (fun _ _ _ h => h) (by rfl) ?_ (by assumption) ?_
      rotate_left
      · intro w'
        go_simp
        try with_reducible rfl
      try simp only [Act.put, List.setIfInBounds_toArray, List.set_cons_zero, List.set_cons_succ]
      refine pickN 17 (some 61) rfl rfl (by kernel_rfl) (by kernel_rfl) (by kernel_rfl) (by decide) (fun _ _ _ h => h) (by rfl) (by assumption) ?_
      try simp only [Act.put, List.setIfInBounds_toArray, List.set_cons_zero, List.set_cons_succ]
      refine pickN 18 (some 62) rfl rfl (by kernel_rfl) (by kernel_rfl) (by kernel_rfl) (by decide) (fun _ _ _ h => h) (by rfl) (by assumption) ?_
      try simp only [Act.put, List.setIfInBounds_toArray, List.set_cons_zero, List.set_cons_succ]
      refine pickN 19 (some 63) rfl rfl (by kernel_rfl) (by kernel_rfl) (by kernel_rfl) (by decide) (fun _ _ _ h => h) (by rfl) (by assumption) ?_
      try simp only [Act.put, List.setIfInBounds_toArray, List.set_cons_zero, List.set_cons_succ]
      refine pickN 20 (some 64) rfl rfl (by kernel_rfl) (by kernel_rfl) (by kernel_rfl) (by decide) (fun _ _ _ h => h) (by rfl) (by assumption) ?_
      try simp only [Act.put, List.setIfInBounds_toArray, List.set_cons_zero, List.set_cons_succ]
      refine pickN 21 (some 65) rfl rfl (by kernel_rfl) (by kernel_rfl) (by kernel_rfl) (by decide) (fun _ _ _ h => h) (by rfl) (by assumption) ?_
      try simp only [Act.put, List.setIfInBounds_toArray, List.set_cons_zero, List.set_cons_succ]
      refine pickN 22 (some 66) rfl rfl (by kernel_rfl) (by kernel_rfl) (by kernel_rfl) (by decide) (fun _ _ _ h => h) (by rfl) (by assumption) ?_
      try simp only [Act.put, List.setIfInBounds_toArray, List.set_cons_zero, List.set_cons_succ]
      refine pickN 23 (some 67) rfl rfl (by kernel_rfl) (by kernel_rfl) (by kernel_rfl) (by decide) (fun _ _ _ h => h) (by rfl) (by assumption) ?_
      try simp only [Act.put, List.setIfInBounds_toArray, List.set_cons_zero, List.set_cons_succ]
      refine pickN 24 (some 68) rfl rfl (by kernel_rfl) (by kernel_rfl) (by kernel_rfl) (by decide) (fun _ _ _ h => h) (by rfl) (by assumption) ?_
      try simp only [Act.put, List.setIfInBounds_toArray, List.set_cons_zero, List.set_cons_succ]
      refine pickN 25 (some 69) rfl rfl (by kernel_rfl) (by kernel_rfl) (by kernel_rfl) (by decide) (fun _ _ _ h => h) (by rfl) (by assumption) ?_
      try simp only [Act.put, List.setIfInBounds_toArray, List.set_cons_zero, List.set_cons_succ]
      refine pickN 26 (some 70) rfl rfl (by kernel_rfl) (by kernel_rfl) (by kernel_rfl) (by decide) (fun _ _ _ h => h) (by rfl) (by assumption) ?_
      try simp only [Act.put, List.setIfInBounds_toArray, List.set_cons_zero, List.set_cons_succ]
      refine pickN 27 (some 71) rfl rfl (by kernel_rfl) (by kernel_rfl) (by kernel_rfl) (by decide) (fun _ _ _ h => h) (by rfl) (by assumption) ?_
      try simp only [Act.put, List.setIfInBounds_toArray, List.set_cons_zero, List.set_cons_succ]
      refine pickN 28 (some 72) rfl rfl (by kernel_rfl) (by kernel_rfl) (by kernel_rfl) (by decide) (fun _ _ _ h => h) (by rfl) (by assumption) ?_
      try simp only [Act.put, List.setIfInBounds_toArray, List.set_cons_zero, List.set_cons_succ]
      refine pickA (v := ?_) 29 (some 73) rfl rfl (by kernel_rfl) (by kernel_rfl) (by kernel_rfl) (by decide) (fun _ _ _ h => h) (by rfl) ?_ (by assumption) ?_
      rotate_left
      · intro w'
        go_simp
        try with_reducible rfl
      try simp only [Act.put, List.setIfInBounds_toArray, List.set_cons_zero, List.set_cons_succ]
      refine pickA (v := ?_) 30 (some 74) rfl rfl (by kernel_rfl) (by kernel_rfl) (by kernel_rfl) (by decide) (fun _ _ _ h => h) (by rfl) ?_ (by assumption) ?_
      rotate_left
      · intro w'
        go_simp
        try with_reducible rfl
      try simp only [Act.put, List.setIfInBounds_toArray, List.set_cons_zero, List.set_cons_succ]
      refine doneL (by kernel_rfl) ?_ _
      clear hHeld
      have X := XD
      have T := TD
      have CB := CD
      have RO := RD
      have B := BD
      clear XD TD CD RD BD
      obtain ⟨t0, t6, -, -, t1⟩ := step_ld T.out
      have LT := hide t1
      clear t0 t1
      have y0 := (OC.out _ B.out)
      have LAA := hide (OA.out _ B.out)
      go_wp2_with (first | (focus ((with_reducible refine wpList_load_w ?_ 58 (.tmp 114) ?_ ?_ LAA.out ?_); rotate_left; rfl; rfl; rotate_left; rfl)))
      clear LT t6 T
      refine (tell_any b S aj iv.out.ok _ X.out).mono ?_
      rintro e w9 ⟨rfl, X9, K9⟩
      have hS := us_ne X.out
      replace RO := hide (RO.out.kp K9 hS)
      have hc : CBk ≠ b := fun e => IsB.ne_t CB.out X.out (by decide) e
      replace CB := hide (CB.out.kp K9 (by simpa using hc))
      replace B := hide (B.out.trans (K9.to_below B.out.size (by simpa using hBb.out)))
      replace X := hide X9
      obtain ⟨iv2, hh⟩ := tl_4 iv.out aj hp
      replace iv2 := hide iv2
      clear X9 K9 hS hc LAA
      have hCk2 := hCk.out
      subst hCk2
      go_wp2
      exact ⟨⟨j + 1, S.tell aj, qa, qc, by omega, by omega, by simp, by rw [hh]; rfl, iv2, X, by rw [hh]; exact RO, CB, B⟩, by simp [intOf]; omega⟩
    · have hh : S.held = [S.lf, S.me] := held_4 (by omega) (by omega)
      have hln : S.held.length = 2 := by rw [hh]; rfl
      rw [hh] at RO
      replace RO : Hid (Ro w.heap.size wr (.slice qa 2 qc) [S.lf, S.me]) := RO
      rw [hln]
      clear hh hln
      have NX := hide (next_5 b S hp wr X.out)
      go_wp2_with fail
      refine NX.out.mono ?_
      rintro e w1 ⟨rfl, hb⟩
      replace X := hide (X.out.below hb)
      replace RO := hide (RO.out.below hb)
      replace CB := hide (CB.out.below hb)
      replace B := hide (B.out.trans (hb.mono B.out.size))
      clear hb NX
      have b3 := (Below.refl w1.heap.size w1).alloc (Nat.le_refl _) (.cells (stL 1 S.rg 6 S.wl S.wb S.lf zr 0 0 0 zr zr).toArray 53)
      have SN := hide (store_step w1 (stL 1 S.rg 6 S.wl S.wb S.lf zr 0 0 0 zr zr).toArray rfl (by kernel_rfl))
      have T := hide (IsB.new w1 (stL 1 S.rg 6 S.wl S.wb S.lf zr 0 0 0 zr zr).toArray 53)
      replace X := hide (X.out.below b3)
      replace RO := hide (RO.out.below b3)
      replace CB := hide (CB.out.below b3)
      replace B := hide (B.out.trans (b3.mono B.out.size))
      clear b3
      obtain ⟨t0, t6, -, -, -⟩ := step_ld T.out
      go_wp2_with (first | (focus ((with_reducible refine wpList_store_w ?_ 53 (.tmp 9) (.tmp 32) ?_ ?_ ?_ SN.out ?_); rotate_left; rfl; rfl; rfl; rotate_left; rfl)))
      clear SN t0 t6
      generalize (w1.alloc (.cells (stL 1 S.rg 6 S.wl S.wb S.lf zr 0 0 0 zr zr).toArray 53)) = W2 at *
      generalize w1.heap.size = TB at *
      have e1 := hide iv.out.w1
      have e2 := hide iv.out.w2
      have XD := hide (IsB.below X.out ((Below.refl _ _).drew))
      have TD := hide (T.out.below ((Below.refl _ _).drew))
      have CD := hide (CB.out.below ((Below.refl _ _).drew))
      have RD := hide (RO.out.below ((Below.refl _ _).drew))
      have BD := hide B.out.drew
      generalize hCk : w.heap.size = CBk at CB CD
      replace hCk := hide hCk
      clear X T CB RO B
      go_wp2_with fail
      refine regionL 31 (fun w' => IsB w' TB (stL 1 S.rg 6 S.wl S.wb S.lf zr 0 0 0 zr zr).toArray 53 ∧ IsB w' CBk (cfL wl wb me oa oo).toArray 33) mixed ⟨TD.out, CD.out⟩ (fun hHeld => ?_)
      generalize W2.drew = WD at *
      refine pickA (v := ?_) 0 (some 44) rfl rfl (by kernel_rfl) (by kernel_rfl) (by kernel_rfl) (by decide) (fun _ _ _ h => h) (by rfl) ?_ (by assumption) ?_
      rotate_left
      · intro w'
        go_simp
        try with_reducible rfl
      try simp only [Act.put, List.setIfInBounds_toArray, List.set_cons_zero, List.set_cons_succ]
      refine pickA (v := ?_) 1 (some 45) rfl rfl (by kernel_rfl) (by kernel_rfl) (by kernel_rfl) (by decide) (fun _ _ _ h => h) (by rfl) ?_ (by assumption) ?_
      rotate_left
      · intro w'
        go_simp
        try with_reducible rfl
      try simp only [Act.put, List.setIfInBounds_toArray, List.set_cons_zero, List.set_cons_succ]
      refine pickL (v := (.agg #[.int .i64 (S.wl), .int .u64 (S.wb)])) 2 (some 46) rfl rfl (by kernel_rfl) (by kernel_rfl) (by kernel_rfl) (by decide) (by kernel_rfl) (by kernel_rfl) (fun _ _ _ h => h) (by rfl) ?_ (by assumption) ?_
      · intro w' hSw
        obtain ⟨q0, q1⟩ := hSw; obtain ⟨s0, s6, s7, s2, s1⟩ := step_ld q0; have c0 := ld_cw q1
        exact exec_load rfl rfl s7
      try simp only [Act.put, List.setIfInBounds_toArray, List.set_cons_zero, List.set_cons_succ]
      refine pickA (v := ?_) 3 (some 47) rfl rfl (by kernel_rfl) (by kernel_rfl) (by kernel_rfl) (by decide) (fun _ _ _ h => h) (by rfl) ?_ (by assumption) ?_
      rotate_left
      · intro w'
        go_simp
        try with_reducible rfl
      try simp only [Act.put, List.setIfInBounds_toArray, List.set_cons_zero, List.set_cons_succ]
      refine pickL (v := (.agg #[.int .i64 (wl), .int .u64 (wb)])) 4 (some 48) rfl rfl (by kernel_rfl) (by kernel_rfl) (by kernel_rfl) (by decide) (by kernel_rfl) (by kernel_rfl) (fun _ _ _ h => h) (by rfl) ?_ (by assumption) ?_
      · intro w' hSw
        obtain ⟨q0, q1⟩ := hSw; obtain ⟨s0, s6, s7, s2, s1⟩ := step_ld q0; have c0 := ld_cw q1
        exact exec_load rfl rfl c0
      try simp only [Act.put, List.setIfInBounds_toArray, List.set_cons_zero, List.set_cons_succ]
      refine pickA (v := .bool false) 5 (some 49) rfl rfl (by kernel_rfl) (by kernel_rfl) (by kernel_rfl) (by decide) (fun _ _ _ h => h) (by rfl) ?_ (by assumption) ?_
      · intro w'
        exact exec_bin vguard rfl rfl rfl (by rw [e1.out, e2.out]; exact nev0 wl wb _)
      try simp only [Act.put, List.setIfInBounds_toArray, List.set_cons_zero, List.set_cons_succ]
      refine pickA (v := ?_) 6 (some 50) rfl rfl (by kernel_rfl) (by kernel_rfl) (by kernel_rfl) (by decide) (fun _ _ _ h => h) (by rfl) ?_ (by assumption) ?_
      rotate_left
      · intro w'
        go_simp
        try with_reducible rfl
      try simp only [Act.put, List.setIfInBounds_toArray, List.set_cons_zero, List.set_cons_succ]
      refine pickA (v := ?_) 7 (some 51) rfl rfl (by kernel_rfl) (by kernel_rfl) (by kernel_rfl) (by decide) (fun _ _ _ h => h) (by rfl) ?_ (by assumption) ?_
      rotate_left
      · intro w'
        go_simp
        try with_reducible rfl
      try simp only [Act.put, List.setIfInBounds_toArray, List.set_cons_zero, List.set_cons_succ]
      refine pickA (v := ?_) 8 (some 52) rfl rfl (by kernel_rfl) (by kernel_rfl) (by kernel_rfl) (by decide) (fun _ _ _ h => h) (by rfl) ?_ (by assumption) ?_
      rotate_left
      · intro w'
        go_simp
        try with_reducible rfl
      try simp only [Act.put, List.setIfInBounds_toArray, List.set_cons_zero, List.set_cons_succ]
      refine pickL (v := ?_) 9 (some 53) rfl rfl (by kernel_rfl) (by kernel_rfl) (by kernel_rfl) (by decide) (by kernel_rfl) (by kernel_rfl) (fun _ _ _ h => h) (by rfl) ?_ (by assumption) ?_
      rotate_left
      · intro w' hSw
        obtain ⟨q0, q1⟩ := hSw; obtain ⟨s0, s6, s7, s2, s1⟩ := step_ld q0; have c0 := ld_cw q1
        go_simp
        try with_reducible rfl
      try simp only [Act.put, List.setIfInBounds_toArray, List.set_cons_zero, List.set_cons_succ]
      refine pickA (v := ?_) 10 (some 54) rfl rfl (by kernel_rfl) (by kernel_rfl) (by kernel_rfl) (by decide) (fun _ _ _ h => h) (by rfl) ?_ (by assumption) ?_
      rotate_left
      · intro w'
        go_simp
        try with_reducible rfl
      try simp only [Act.put, List.setIfInBounds_toArray, List.set_cons_zero, List.set_cons_succ]
      refine pickA (v := ?_) 11 (some 55) rfl rfl (by kernel_rfl) (by kernel_rfl) (by kernel_rfl) (by decide) (fun _ _ _ h => h) (by rfl) ?_ (by assumption) ?_
      rotate_left
      · intro w'
        go_simp
        try with_reducible rfl
      try simp only [Act.put, List.setIfInBounds_toArray, List.set_cons_zero, List.set_cons_succ]
      refine pickN 12 (some 56) rfl rfl (by kernel_rfl) (by kernel_rfl) (by kernel_rfl) (by decide) (fun _ _ _ h => h) (by rfl) (by assumption) ?_
      try simp only [Act.put, List.setIfInBounds_toArray, List.set_cons_zero, List.set_cons_succ]
      refine pickN 13 (some 57) rfl rfl (by kernel_rfl) (by kernel_rfl) (by kernel_rfl) (by decide) (fun _ _ _ h => h) (by rfl) (by assumption) ?_
      try simp only [Act.put, List.setIfInBounds_toArray, List.set_cons_zero, List.set_cons_succ]
      refine pickN 14 (some 58) rfl rfl (by kernel_rfl) (by kernel_rfl) (by kernel_rfl) (by decide) (fun _ _ _ h => h) (by rfl) (by assumption) ?_
      try simp only [Act.put, List.setIfInBounds_toArray, List.set_cons_zero, List.set_cons_succ]
      refine pickA (v := ?_) 15 (some 59) rfl rfl (by kernel_rfl) (by kernel_rfl) (by kernel_rfl) (by decide) (fun _ _ _ h => h) (by rfl) ?_ (by assumption) ?_
      rotate_left
      · intro w'
        go_simp
        try with_reducible rfl
      try simp only [Act.put, List.setIfInBounds_toArray, List.set_cons_zero, List.set_cons_succ]
      refine pickA (v := ?_) 16 (some 60) rfl rfl (by kernel_rfl) (by kernel_rfl) (by kernel_rfl) (by decide) (fun _ _ _ h => h) (by rfl) ?_ (by assumption) ?_
      rotate_left
      · intro w'
        go_simp
        try with_reducible rfl
      try simp only [Act.put, List.setIfInBounds_toArray, List.set_cons_zero, List.set_cons_succ]
      refine pickN 17 (some 61) rfl rfl (by kernel_rfl) (by kernel_rfl) (by kernel_rfl) (by decide) (fun _ _ _ h => h) (by rfl) (by assumption) ?_
      try simp only [Act.put, List.setIfInBounds_toArray, List.set_cons_zero, List.set_cons_succ]
      refine pickN 18 (some 62) rfl rfl (by kernel_rfl) (by kernel_rfl) (by kernel_rfl) (by decide) (fun _ _ _ h => h) (by rfl) (by assumption) ?_
      try simp only [Act.put, List.setIfInBounds_toArray, List.set_cons_zero, List.set_cons_succ]
      refine pickN 19 (some 63) rfl rfl (by kernel_rfl) (by kernel_rfl) (by kernel_rfl) (by decide) (fun _ _ _ h => h) (by rfl) (by assumption) ?_
      try simp only [Act.put, List.setIfInBounds_toArray, List.set_cons_zero, List.set_cons_succ]
      refine pickN 20 (some 64) rfl rfl (by kernel_rfl) (by kernel_rfl) (by kernel_rfl) (by decide) (fun _ _ _ h => h) (by rfl) (by assumption) ?_
      try simp only [Act.put, List.setIfInBounds_toArray, List.set_cons_zero, List.set_cons_succ]
      refine pickN 21 (some 65) rfl rfl (by kernel_rfl) (by kernel_rfl) (by kernel_rfl) (by decide) (fun _ _ _ h => h) (by rfl) (by assumption) ?_
      try simp only [Act.put, List.setIfInBounds_toArray, List.set_cons_zero, List.set_cons_succ]
      refine pickN 22 (some 66) rfl rfl (by kernel_rfl) (by kernel_rfl) (by kernel_rfl) (by decide) (fun _ _ _ h => h) (by rfl) (by assumption) ?_
      try simp only [Act.put, List.setIfInBounds_toArray, List.set_cons_zero, List.set_cons_succ]
      refine pickN 23 (some 67) rfl rfl (by kernel_rfl) (by kernel_rfl) (by kernel_rfl) (by decide) (fun _ _ _ h => h) (by rfl) (by assumption) ?_
      try simp only [Act.put, List.setIfInBounds_toArray, List.set_cons_zero, List.set_cons_succ]
      refine pickN 24 (some 68) rfl rfl (by kernel_rfl) (by kernel_rfl) (by kernel_rfl) (by decide) (fun _ _ _ h => h) (by rfl) (by assumption) ?_
      try simp only [Act.put, List.setIfInBounds_toArray, List.set_cons_zero, List.set_cons_succ]
      refine pickN 25 (some 69) rfl rfl (by kernel_rfl) (by kernel_rfl) (by kernel_rfl) (by decide) (fun _ _ _ h => h) (by rfl) (by assumption) ?_
      try simp only [Act.put, List.setIfInBounds_toArray, List.set_cons_zero, List.set_cons_succ]
      refine pickN 26 (some 70) rfl rfl (by kernel_rfl) (by kernel_rfl) (by kernel_rfl) (by decide) (fun _ _ _ h => h) (by rfl) (by assumption) ?_
      try simp only [Act.put, List.setIfInBounds_toArray, List.set_cons_zero, List.set_cons_succ]
      refine pickN 27 (some 71) rfl rfl (by kernel_rfl) (by kernel_rfl) (by kernel_rfl) (by decide) (fun _ _ _ h => h) (by rfl) (by assumption) ?_
      try simp only [Act.put, List.setIfInBounds_toArray, List.set_cons_zero, List.set_cons_succ]
      refine pickN 28 (some 72) rfl rfl (by kernel_rfl) (by kernel_rfl) (by kernel_rfl) (by decide) (fun _ _ _ h => h) (by rfl) (by assumption) ?_
      try simp only [Act.put, List.setIfInBounds_toArray, List.set_cons_zero, List.set_cons_succ]
      refine pickA (v := ?_) 29 (some 73) rfl rfl (by kernel_rfl) (by kernel_rfl) (by kernel_rfl) (by decide) (fun _ _ _ h => h) (by rfl) ?_ (by assumption) ?_
      rotate_left
      · intro w'
        go_simp
        try with_reducible rfl
      try simp only [Act.put, List.setIfInBounds_toArray, List.set_cons_zero, List.set_cons_succ]
      refine pickA (v := ?_) 30 (some 74) rfl rfl (by kernel_rfl) (by kernel_rfl) (by kernel_rfl) (by decide) (fun _ _ _ h => h) (by rfl) ?_ (by assumption) ?_
      rotate_left
      · intro w'
        go_simp
        try with_reducible rfl
      try simp only [Act.put, List.setIfInBounds_toArray, List.set_cons_zero, List.set_cons_succ]
      refine doneL (by kernel_rfl) ?_ _
      clear hHeld
      have X := XD
      have T := TD
      have CB := CD
      have RO := RD
      have B := BD
      clear XD TD CD RD BD
      obtain ⟨t0, t6, -, -, t1⟩ := step_ld T.out
      have LT := hide t1
      clear t0 t1
      have y0 := (OC.out _ B.out)
      have LAA := hide (OA.out _ B.out)
      go_wp2_with (first | (focus ((with_reducible refine wpList_load_w ?_ 58 (.tmp 114) ?_ ?_ LAA.out ?_); rotate_left; rfl; rfl; rotate_left; rfl)))
      clear LT t6 T
      refine (tell_any b S aj iv.out.ok _ X.out).mono ?_
      rintro e w9 ⟨rfl, X9, K9⟩
      have hS := us_ne X.out
      replace RO := hide (RO.out.kp K9 hS)
      have hc : CBk ≠ b := fun e => IsB.ne_t CB.out X.out (by decide) e
      replace CB := hide (CB.out.kp K9 (by simpa using hc))
      replace B := hide (B.out.trans (K9.to_below B.out.size (by simpa using hBb.out)))
      replace X := hide X9
      obtain ⟨iv2, hh⟩ := tl_5 iv.out aj hp
      replace iv2 := hide iv2
      clear X9 K9 hS hc LAA
      have hCk2 := hCk.out
      subst hCk2
      go_wp2
      exact ⟨⟨j + 1, S.tell aj, qa, qc, by omega, by omega, by simp, by rw [hh]; rfl, iv2, X, by rw [hh]; exact RO, CB, B⟩, by simp [intOf]; omega⟩
    · have hh : S.held = [S.lf, S.me] := held_4 (by omega) (by omega)
      have hln : S.held.length = 2 := by rw [hh]; rfl
      rw [hh] at RO
      replace RO : Hid (Ro w.heap.size wr (.slice qa 2 qc) [S.lf, S.me]) := RO
      rw [hln]
      clear hh hln
      have NX := hide (next_6 b S hp wr X.out)
      go_wp2_with fail
      refine NX.out.mono ?_
      rintro e w1 ⟨rfl, hb⟩
      replace X := hide (X.out.below hb)
      replace RO := hide (RO.out.below hb)
      replace CB := hide (CB.out.below hb)
      replace B := hide (B.out.trans (hb.mono B.out.size))
      clear hb NX
      have b3 := (Below.refl w1.heap.size w1).alloc (Nat.le_refl _) (.cells (stL 1 S.me 8 S.wl S.wb zr zr S.oa S.oo 0 zr zr).toArray 53)
      have SN := hide (store_step w1 (stL 1 S.me 8 S.wl S.wb zr zr S.oa S.oo 0 zr zr).toArray rfl (by kernel_rfl))
      have T := hide (IsB.new w1 (stL 1 S.me 8 S.wl S.wb zr zr S.oa S.oo 0 zr zr).toArray 53)
      replace X := hide (X.out.below b3)
      replace RO := hide (RO.out.below b3)
      replace CB := hide (CB.out.below b3)
      replace B := hide (B.out.trans (b3.mono B.out.size))
      clear b3
      obtain ⟨t0, t6, -, -, -⟩ := step_ld T.out
      go_wp2_with (first | (focus ((with_reducible refine wpList_store_w ?_ 53 (.tmp 9) (.tmp 32) ?_ ?_ ?_ SN.out ?_); rotate_left; rfl; rfl; rfl; rotate_left; rfl)))
      clear SN t0 t6
      generalize (w1.alloc (.cells (stL 1 S.me 8 S.wl S.wb zr zr S.oa S.oo 0 zr zr).toArray 53)) = W2 at *
      generalize w1.heap.size = TB at *
      have e1 := hide iv.out.w1
      have e2 := hide iv.out.w2
      have XD := hide (IsB.below X.out ((Below.refl _ _).drew))
      have TD := hide (T.out.below ((Below.refl _ _).drew))
      have CD := hide (CB.out.below ((Below.refl _ _).drew))
      have RD := hide (RO.out.below ((Below.refl _ _).drew))
      have BD := hide B.out.drew
      generalize hCk : w.heap.size = CBk at CB CD
      replace hCk := hide hCk
      clear X T CB RO B
      go_wp2_with fail
      refine regionL 31 (fun w' => IsB w' TB (stL 1 S.me 8 S.wl S.wb zr zr S.oa S.oo 0 zr zr).toArray 53 ∧ IsB w' CBk (cfL wl wb me oa oo).toArray 33) mixed ⟨TD.out, CD.out⟩ (fun hHeld => ?_)
      generalize W2.drew = WD at *
      refine pickA (v := ?_) 0 (some 44) rfl rfl (by kernel_rfl) (by kernel_rfl) (by kernel_rfl) (by decide) (fun _ _ _ h => h) (by rfl) ?_ (by assumption) ?_
      rotate_left
      · intro w'
        go_simp
        try with_reducible rfl
      try simp only [Act.put, List.setIfInBounds_toArray, List.set_cons_zero, List.set_cons_succ]
      refine pickA (v := ?_) 1 (some 45) rfl rfl (by kernel_rfl) (by kernel_rfl) (by kernel_rfl) (by decide) (fun _ _ _ h => h) (by rfl) ?_ (by assumption) ?_
      rotate_left
      · intro w'
        go_simp
        try with_reducible rfl
      try simp only [Act.put, List.setIfInBounds_toArray, List.set_cons_zero, List.set_cons_succ]
      refine pickL (v := (.agg #[.int .i64 (S.wl), .int .u64 (S.wb)])) 2 (some 46) rfl rfl (by kernel_rfl) (by kernel_rfl) (by kernel_rfl) (by decide) (by kernel_rfl) (by kernel_rfl) (fun _ _ _ h => h) (by rfl) ?_ (by assumption) ?_
      · intro w' hSw
        obtain ⟨q0, q1⟩ := hSw; obtain ⟨s0, s6, s7, s2, s1⟩ := step_ld q0; have c0 := ld_cw q1
        exact exec_load rfl rfl s7
      try simp only [Act.put, List.setIfInBounds_toArray, List.set_cons_zero, List.set_cons_succ]
      refine pickA (v := ?_) 3 (some 47) rfl rfl (by kernel_rfl) (by kernel_rfl) (by kernel_rfl) (by decide) (fun _ _ _ h => h) (by rfl) ?_ (by assumption) ?_
      rotate_left
      · intro w'
        go_simp
        try with_reducible rfl
      try simp only [Act.put, List.setIfInBounds_toArray, List.set_cons_zero, List.set_cons_succ]
      refine pickL (v := (.agg #[.int .i64 (wl), .int .u64 (wb)])) 4 (some 48) rfl rfl (by kernel_rfl) (by kernel_rfl) (by kernel_rfl) (by decide) (by kernel_rfl) (by kernel_rfl) (fun _ _ _ h => h) (by rfl) ?_ (by assumption) ?_
      · intro w' hSw
        obtain ⟨q0, q1⟩ := hSw; obtain ⟨s0, s6, s7, s2, s1⟩ := step_ld q0; have c0 := ld_cw q1
        exact exec_load rfl rfl c0
      try simp only [Act.put, List.setIfInBounds_toArray, List.set_cons_zero, List.set_cons_succ]
      refine pickA (v := .bool false) 5 (some 49) rfl rfl (by kernel_rfl) (by kernel_rfl) (by kernel_rfl) (by decide) (fun _ _ _ h => h) (by rfl) ?_ (by assumption) ?_
      · intro w'
        exact exec_bin vguard rfl rfl rfl (by rw [e1.out, e2.out]; exact nev0 wl wb _)
      try simp only [Act.put, List.setIfInBounds_toArray, List.set_cons_zero, List.set_cons_succ]
      refine pickA (v := ?_) 6 (some 50) rfl rfl (by kernel_rfl) (by kernel_rfl) (by kernel_rfl) (by decide) (fun _ _ _ h => h) (by rfl) ?_ (by assumption) ?_
      rotate_left
      · intro w'
        go_simp
        try with_reducible rfl
      try simp only [Act.put, List.setIfInBounds_toArray, List.set_cons_zero, List.set_cons_succ]
      refine pickA (v := ?_) 7 (some 51) rfl rfl (by kernel_rfl) (by kernel_rfl) (by kernel_rfl) (by decide) (fun _ _ _ h => h) (by rfl) ?_ (by assumption) ?_
      rotate_left
      · intro w'
        go_simp
        try with_reducible rfl
      try simp only [Act.put, List.setIfInBounds_toArray, List.set_cons_zero, List.set_cons_succ]
      refine pickA (v := ?_) 8 (some 52) rfl rfl (by kernel_rfl) (by kernel_rfl) (by kernel_rfl) (by decide) (fun _ _ _ h => h) (by rfl) ?_ (by assumption) ?_
      rotate_left
      · intro w'
        go_simp
        try with_reducible rfl
      try simp only [Act.put, List.setIfInBounds_toArray, List.set_cons_zero, List.set_cons_succ]
      refine pickL (v := ?_) 9 (some 53) rfl rfl (by kernel_rfl) (by kernel_rfl) (by kernel_rfl) (by decide) (by kernel_rfl) (by kernel_rfl) (fun _ _ _ h => h) (by rfl) ?_ (by assumption) ?_
      rotate_left
      · intro w' hSw
        obtain ⟨q0, q1⟩ := hSw; obtain ⟨s0, s6, s7, s2, s1⟩ := step_ld q0; have c0 := ld_cw q1
        go_simp
        try with_reducible rfl
      try simp only [Act.put, List.setIfInBounds_toArray, List.set_cons_zero, List.set_cons_succ]
      refine pickA (v := ?_) 10 (some 54) rfl rfl (by kernel_rfl) (by kernel_rfl) (by kernel_rfl) (by decide) (fun _ _ _ h => h) (by rfl) ?_ (by assumption) ?_
      rotate_left
      · intro w'
        go_simp
        try with_reducible rfl
      try simp only [Act.put, List.setIfInBounds_toArray, List.set_cons_zero, List.set_cons_succ]
      refine pickA (v := ?_) 11 (some 55) rfl rfl (by kernel_rfl) (by kernel_rfl) (by kernel_rfl) (by decide) (fun _ _ _ h => h) (by rfl) ?_ (by assumption) ?_
      rotate_left
      · intro w'
        go_simp
        try with_reducible rfl
      try simp only [Act.put, List.setIfInBounds_toArray, List.set_cons_zero, List.set_cons_succ]
      refine pickN 12 (some 56) rfl rfl (by kernel_rfl) (by kernel_rfl) (by kernel_rfl) (by decide) (fun _ _ _ h => h) (by rfl) (by assumption) ?_
      try simp only [Act.put, List.setIfInBounds_toArray, List.set_cons_zero, List.set_cons_succ]
      refine pickN 13 (some 57) rfl rfl (by kernel_rfl) (by kernel_rfl) (by kernel_rfl) (by decide) (fun _ _ _ h => h) (by rfl) (by assumption) ?_
      try simp only [Act.put, List.setIfInBounds_toArray, List.set_cons_zero, List.set_cons_succ]
      refine pickN 14 (some 58) rfl rfl (by kernel_rfl) (by kernel_rfl) (by kernel_rfl) (by decide) (fun _ _ _ h => h) (by rfl) (by assumption) ?_
      try simp only [Act.put, List.setIfInBounds_toArray, List.set_cons_zero, List.set_cons_succ]
      refine pickA (v := ?_) 15 (some 59) rfl rfl (by kernel_rfl) (by kernel_rfl) (by kernel_rfl) (by decide) (fun _ _ _ h => h) (by rfl) ?_ (by assumption) ?_
      rotate_left
      · intro w'
        go_simp
        try with_reducible rfl
      try simp only [Act.put, List.setIfInBounds_toArray, List.set_cons_zero, List.set_cons_succ]
      refine pickA (v := ?_) 16 (some 60) rfl rfl (by kernel_rfl) (by kernel_rfl) (by kernel_rfl) (by decide) (fun _ _ _ h => h) (by rfl) ?_ (by assumption) ?_
      rotate_left
      · intro w'
        go_simp
        try with_reducible rfl
      try simp only [Act.put, List.setIfInBounds_toArray, List.set_cons_zero, List.set_cons_succ]
      refine pickN 17 (some 61) rfl rfl (by kernel_rfl) (by kernel_rfl) (by kernel_rfl) (by decide) (fun _ _ _ h => h) (by rfl) (by assumption) ?_
      try simp only [Act.put, List.setIfInBounds_toArray, List.set_cons_zero, List.set_cons_succ]
      refine pickN 18 (some 62) rfl rfl (by kernel_rfl) (by kernel_rfl) (by kernel_rfl) (by decide) (fun _ _ _ h => h) (by rfl) (by assumption) ?_
      try simp only [Act.put, List.setIfInBounds_toArray, List.set_cons_zero, List.set_cons_succ]
      refine pickN 19 (some 63) rfl rfl (by kernel_rfl) (by kernel_rfl) (by kernel_rfl) (by decide) (fun _ _ _ h => h) (by rfl) (by assumption) ?_
      try simp only [Act.put, List.setIfInBounds_toArray, List.set_cons_zero, List.set_cons_succ]
      refine pickN 20 (some 64) rfl rfl (by kernel_rfl) (by kernel_rfl) (by kernel_rfl) (by decide) (fun _ _ _ h => h) (by rfl) (by assumption) ?_
      try simp only [Act.put, List.setIfInBounds_toArray, List.set_cons_zero, List.set_cons_succ]
      refine pickN 21 (some 65) rfl rfl (by kernel_rfl) (by kernel_rfl) (by kernel_rfl) (by decide) (fun _ _ _ h => h) (by rfl) (by assumption) ?_
      try simp only [Act.put, List.setIfInBounds_toArray, List.set_cons_zero, List.set_cons_succ]
      refine pickN 22 (some 66) rfl rfl (by kernel_rfl) (by kernel_rfl) (by kernel_rfl) (by decide) (fun _ _ _ h => h) (by rfl) (by assumption) ?_
      try simp only [Act.put, List.setIfInBounds_toArray, List.set_cons_zero, List.set_cons_succ]
      refine pickN 23 (some 67) rfl rfl (by kernel_rfl) (by kernel_rfl) (by kernel_rfl) (by decide) (fun _ _ _ h => h) (by rfl) (by assumption) ?_
      try simp only [Act.put, List.setIfInBounds_toArray, List.set_cons_zero, List.set_cons_succ]
      refine pickN 24 (some 68) rfl rfl (by kernel_rfl) (by kernel_rfl) (by kernel_rfl) (by decide) (fun _ _ _ h => h) (by rfl) (by assumption) ?_
      try simp only [Act.put, List.setIfInBounds_toArray, List.set_cons_zero, List.set_cons_succ]
      refine pickN 25 (some 69) rfl rfl (by kernel_rfl) (by kernel_rfl) (by kernel_rfl) (by decide) (fun _ _ _ h => h) (by rfl) (by assumption) ?_
      try simp only [Act.put, List.setIfInBounds_toArray, List.set_cons_zero, List.set_cons_succ]
      refine pickN 26 (some 70) rfl rfl (by kernel_rfl) (by kernel_rfl) (by kernel_rfl) (by decide) (fun _ _ _ h => h) (by rfl) (by assumption) ?_
      try simp only [Act.put, List.setIfInBounds_toArray, List.set_cons_zero, List.set_cons_succ]
      refine pickN 27 (some 71) rfl rfl (by kernel_rfl) (by kernel_rfl) (by kernel_rfl) (by decide) (fun _ _ _ h => h) (by rfl) (by assumption) ?_
      try simp only [Act.put, List.setIfInBounds_toArray, List.set_cons_zero, List.set_cons_succ]
      refine pickN 28 (some 72) rfl rfl (by kernel_rfl) (by kernel_rfl) (by kernel_rfl) (by decide) (fun _ _ _ h => h) (by rfl) (by assumption) ?_
      try simp only [Act.put, List.setIfInBounds_toArray, List.set_cons_zero, List.set_cons_succ]
      refine pickA (v := ?_) 29 (some 73) rfl rfl (by kernel_rfl) (by kernel_rfl) (by kernel_rfl) (by decide) (fun _ _ _ h => h) (by rfl) ?_ (by assumption) ?_
      rotate_left
      · intro w'
        go_simp
        try with_reducible rfl
      try simp only [Act.put, List.setIfInBounds_toArray, List.set_cons_zero, List.set_cons_succ]
      refine pickA (v := ?_) 30 (some 74) rfl rfl (by kernel_rfl) (by kernel_rfl) (by kernel_rfl) (by decide) (fun _ _ _ h => h) (by rfl) ?_ (by assumption) ?_
      rotate_left
      · intro w'
        go_simp
        try with_reducible rfl
      try simp only [Act.put, List.setIfInBounds_toArray, List.set_cons_zero, List.set_cons_succ]
      refine doneL (by kernel_rfl) ?_ _
      clear hHeld
      have X := XD
      have T := TD
      have CB := CD
      have RO := RD
      have B := BD
      clear XD TD CD RD BD
      obtain ⟨t0, t6, -, -, t1⟩ := step_ld T.out
      have LT := hide t1
      clear t0 t1
      have y0 := (OC.out _ B.out)
      go_wp2_with (first | (focus ((with_reducible refine wpList_load_w ?_ 29 (.tmp 105) ?_ ?_ LT.out ?_); rotate_left; rfl; rfl; rotate_left; rfl)))
      refine (without_any _ [S.lf, S.me] (by simp) S.me _ RO.out.row).mono ?_
      rintro e w5 ⟨v5, rfl, RO5, hb⟩
      rw [wo_2 (klt_ne (iv.out.lt (by omega) (by omega)))] at RO5
      obtain ⟨ra, rc, ev5, -, -⟩ := RO5.shape
      subst ev5
      have RO6 : Hid (Ro w.heap.size w5 _ _) := ⟨RO5.row, fun k hk => Nat.le_trans B.out.size (RO5.new k hk)⟩
      replace X := hide (X.out.below hb)
      replace CB := hide (CB.out.below hb)
      replace B := hide (B.out.trans (hb.mono B.out.size))
      clear RO RO5 hb LT y0 t6 T
      have RO := RO6
      clear RO6
      have LAA := hide (OA.out _ B.out)
      simp only [List.length_cons, List.length_nil, Nat.zero_add] at RO ⊢
      go_wp2_with (first | (focus ((with_reducible refine wpList_load_w ?_ 58 (.tmp 114) ?_ ?_ LAA.out ?_); rotate_left; rfl; rfl; rotate_left; rfl)))
      refine (tell_any b S aj iv.out.ok _ X.out).mono ?_
      rintro e w9 ⟨rfl, X9, K9⟩
      have hS := us_ne X.out
      replace RO := hide (RO.out.kp K9 hS)
      have hc : CBk ≠ b := fun e => IsB.ne_t CB.out X.out (by decide) e
      replace CB := hide (CB.out.kp K9 (by simpa using hc))
      replace B := hide (B.out.trans (K9.to_below B.out.size (by simpa using hBb.out)))
      replace X := hide X9
      obtain ⟨iv2, hh⟩ := tl_6 iv.out aj hp
      replace iv2 := hide iv2
      clear X9 K9 hS hc LAA
      have hCk2 := hCk.out
      subst hCk2
      go_wp2
      exact ⟨⟨j + 1, S.tell aj, ra, rc, by omega, by omega, by simp, by rw [hh]; rfl, iv2, X, by rw [hh]; exact RO, CB, B⟩, by simp [intOf]; omega⟩
    · have hh : S.held = [S.lf, S.me] := held_4 (by omega) (by omega)
      have hln : S.held.length = 2 := by rw [hh]; rfl
      rw [hh] at RO
      replace RO : Hid (Ro w.heap.size wr (.slice qa 2 qc) [S.lf, S.me]) := RO
      rw [hln]
      clear hh hln
      have NX := hide (next_7 b S hp wr X.out)
      go_wp2_with fail
      refine NX.out.mono ?_
      rintro e w1 ⟨rfl, hb⟩
      replace X := hide (X.out.below hb)
      replace RO := hide (RO.out.below hb)
      replace CB := hide (CB.out.below hb)
      replace B := hide (B.out.trans (hb.mono B.out.size))
      clear hb NX
      have b3 := (Below.refl w1.heap.size w1).alloc (Nat.le_refl _) (.cells (stL 1 S.me 4 S.wl S.wb zr zr S.oa S.oo 0 zr zr).toArray 53)
      have SN := hide (store_step w1 (stL 1 S.me 4 S.wl S.wb zr zr S.oa S.oo 0 zr zr).toArray rfl (by kernel_rfl))
      have T := hide (IsB.new w1 (stL 1 S.me 4 S.wl S.wb zr zr S.oa S.oo 0 zr zr).toArray 53)
      replace X := hide (X.out.below b3)
      replace RO := hide (RO.out.below b3)
      replace CB := hide (CB.out.below b3)
      replace B := hide (B.out.trans (b3.mono B.out.size))
      clear b3
      obtain ⟨t0, t6, -, -, -⟩ := step_ld T.out
      go_wp2_with (first | (focus ((with_reducible refine wpList_store_w ?_ 53 (.tmp 9) (.tmp 32) ?_ ?_ ?_ SN.out ?_); rotate_left; rfl; rfl; rfl; rotate_left; rfl)))
      clear SN t0 t6
      generalize (w1.alloc (.cells (stL 1 S.me 4 S.wl S.wb zr zr S.oa S.oo 0 zr zr).toArray 53)) = W2 at *
      generalize w1.heap.size = TB at *
      have e1 := hide iv.out.w1
      have e2 := hide iv.out.w2
      have XD := hide (IsB.below X.out ((Below.refl _ _).drew))
      have TD := hide (T.out.below ((Below.refl _ _).drew))
      have CD := hide (CB.out.below ((Below.refl _ _).drew))
      have RD := hide (RO.out.below ((Below.refl _ _).drew))
      have BD := hide B.out.drew
      generalize hCk : w.heap.size = CBk at CB CD
      replace hCk := hide hCk
      clear X T CB RO B
      go_wp2_with fail
      refine regionL 31 (fun w' => IsB w' TB (stL 1 S.me 4 S.wl S.wb zr zr S.oa S.oo 0 zr zr).toArray 53 ∧ IsB w' CBk (cfL wl wb me oa oo).toArray 33) mixed ⟨TD.out, CD.out⟩ (fun hHeld => ?_)
      generalize W2.drew = WD at *
      refine pickA (v := ?_) 0 (some 44) rfl rfl (by kernel_rfl) (by kernel_rfl) (by kernel_rfl) (by decide) (fun _ _ _ h => h) (by rfl) ?_ (by assumption) ?_
      rotate_left
      · intro w'
        go_simp
        try with_reducible rfl
      try simp only [Act.put, List.setIfInBounds_toArray, List.set_cons_zero, List.set_cons_succ]
      refine pickA (v := ?_) 1 (some 45) rfl rfl (by kernel_rfl) (by kernel_rfl) (by kernel_rfl) (by decide) (fun _ _ _ h => h) (by rfl) ?_ (by assumption) ?_
      rotate_left
      · intro w'
        go_simp
        try with_reducible rfl
      try simp only [Act.put, List.setIfInBounds_toArray, List.set_cons_zero, List.set_cons_succ]
      refine pickL (v := (.agg #[.int .i64 (S.wl), .int .u64 (S.wb)])) 2 (some 46) rfl rfl (by kernel_rfl) (by kernel_rfl) (by kernel_rfl) (by decide) (by kernel_rfl) (by kernel_rfl) (fun _ _ _ h => h) (by rfl) ?_ (by assumption) ?_
      · intro w' hSw
        obtain ⟨q0, q1⟩ := hSw; obtain ⟨s0, s6, s7, s2, s1⟩ := step_ld q0; have c0 := ld_cw q1
        exact exec_load rfl rfl s7
      try simp only [Act.put, List.setIfInBounds_toArray, List.set_cons_zero, List.set_cons_succ]
      refine pickA (v := ?_) 3 (some 47) rfl rfl (by kernel_rfl) (by kernel_rfl) (by kernel_rfl) (by decide) (fun _ _ _ h => h) (by rfl) ?_ (by assumption) ?_
      rotate_left
      · intro w'
        go_simp
        try with_reducible rfl
      try simp only [Act.put, List.setIfInBounds_toArray, List.set_cons_zero, List.set_cons_succ]
      refine pickL (v := (.agg #[.int .i64 (wl), .int .u64 (wb)])) 4 (some 48) rfl rfl (by kernel_rfl) (by kernel_rfl) (by kernel_rfl) (by decide) (by kernel_rfl) (by kernel_rfl) (fun _ _ _ h => h) (by rfl) ?_ (by assumption) ?_
      · intro w' hSw
        obtain ⟨q0, q1⟩ := hSw; obtain ⟨s0, s6, s7, s2, s1⟩ := step_ld q0; have c0 := ld_cw q1
        exact exec_load rfl rfl c0
      try simp only [Act.put, List.setIfInBounds_toArray, List.set_cons_zero, List.set_cons_succ]
      refine pickA (v := .bool false) 5 (some 49) rfl rfl (by kernel_rfl) (by kernel_rfl) (by kernel_rfl) (by decide) (fun _ _ _ h => h) (by rfl) ?_ (by assumption) ?_
      · intro w'
        exact exec_bin vguard rfl rfl rfl (by rw [e1.out, e2.out]; exact nev0 wl wb _)
      try simp only [Act.put, List.setIfInBounds_toArray, List.set_cons_zero, List.set_cons_succ]
      refine pickA (v := ?_) 6 (some 50) rfl rfl (by kernel_rfl) (by kernel_rfl) (by kernel_rfl) (by decide) (fun _ _ _ h => h) (by rfl) ?_ (by assumption) ?_
      rotate_left
      · intro w'
        go_simp
        try with_reducible rfl
      try simp only [Act.put, List.setIfInBounds_toArray, List.set_cons_zero, List.set_cons_succ]
      refine pickA (v := ?_) 7 (some 51) rfl rfl (by kernel_rfl) (by kernel_rfl) (by kernel_rfl) (by decide) (fun _ _ _ h => h) (by rfl) ?_ (by assumption) ?_
      rotate_left
      · intro w'
        go_simp
        try with_reducible rfl
      try simp only [Act.put, List.setIfInBounds_toArray, List.set_cons_zero, List.set_cons_succ]
      refine pickA (v := ?_) 8 (some 52) rfl rfl (by kernel_rfl) (by kernel_rfl) (by kernel_rfl) (by decide) (fun _ _ _ h => h) (by rfl) ?_ (by assumption) ?_
      rotate_left
      · intro w'
        go_simp
        try with_reducible rfl
      try simp only [Act.put, List.setIfInBounds_toArray, List.set_cons_zero, List.set_cons_succ]
      refine pickL (v := ?_) 9 (some 53) rfl rfl (by kernel_rfl) (by kernel_rfl) (by kernel_rfl) (by decide) (by kernel_rfl) (by kernel_rfl) (fun _ _ _ h => h) (by rfl) ?_ (by assumption) ?_
      rotate_left
      · intro w' hSw
        obtain ⟨q0, q1⟩ := hSw; obtain ⟨s0, s6, s7, s2, s1⟩ := step_ld q0; have c0 := ld_cw q1
        go_simp
        try with_reducible rfl
      try simp only [Act.put, List.setIfInBounds_toArray, List.set_cons_zero, List.set_cons_succ]
      refine pickA (v := ?_) 10 (some 54) rfl rfl (by kernel_rfl) (by kernel_rfl) (by kernel_rfl) (by decide) (fun _ _ _ h => h) (by rfl) ?_ (by assumption) ?_
      rotate_left
      · intro w'
        go_simp
        try with_reducible rfl
      try simp only [Act.put, List.setIfInBounds_toArray, List.set_cons_zero, List.set_cons_succ]
      refine pickA (v := ?_) 11 (some 55) rfl rfl (by kernel_rfl) (by kernel_rfl) (by kernel_rfl) (by decide) (fun _ _ _ h => h) (by rfl) ?_ (by assumption) ?_
      rotate_left
      · intro w'
        go_simp
        try with_reducible rfl
      try simp only [Act.put, List.setIfInBounds_toArray, List.set_cons_zero, List.set_cons_succ]
      refine pickN 12 (some 56) rfl rfl (by kernel_rfl) (by kernel_rfl) (by kernel_rfl) (by decide) (fun _ _ _ h => h) (by rfl) (by assumption) ?_
      try simp only [Act.put, List.setIfInBounds_toArray, List.set_cons_zero, List.set_cons_succ]
      refine pickN 13 (some 57) rfl rfl (by kernel_rfl) (by kernel_rfl) (by kernel_rfl) (by decide) (fun _ _ _ h => h) (by rfl) (by assumption) ?_
      try simp only [Act.put, List.setIfInBounds_toArray, List.set_cons_zero, List.set_cons_succ]
      refine pickN 14 (some 58) rfl rfl (by kernel_rfl) (by kernel_rfl) (by kernel_rfl) (by decide) (fun _ _ _ h => h) (by rfl) (by assumption) ?_
      try simp only [Act.put, List.setIfInBounds_toArray, List.set_cons_zero, List.set_cons_succ]
      refine pickA (v := ?_) 15 (some 59) rfl rfl (by kernel_rfl) (by kernel_rfl) (by kernel_rfl) (by decide) (fun _ _ _ h => h) (by rfl) ?_ (by assumption) ?_
      rotate_left
      · intro w'
        go_simp
        try with_reducible rfl
      try simp only [Act.put, List.setIfInBounds_toArray, List.set_cons_zero, List.set_cons_succ]
      refine pickA (v := ?_) 16 (some 60) rfl rfl (by kernel_rfl) (by kernel_rfl) (by kernel_rfl) (by decide) (fun _ _ _ h => h) (by rfl) ?_ (by assumption) ?_
      rotate_left
      · intro w'
        go_simp
        try with_reducible rfl
      try simp only [Act.put, List.setIfInBounds_toArray, List.set_cons_zero, List.set_cons_succ]
      refine pickN 17 (some 61) rfl rfl (by kernel_rfl) (by kernel_rfl) (by kernel_rfl) (by decide) (fun _ _ _ h => h) (by rfl) (by assumption) ?_
      try simp only [Act.put, List.setIfInBounds_toArray, List.set_cons_zero, List.set_cons_succ]
      refine pickN 18 (some 62) rfl rfl (by kernel_rfl) (by kernel_rfl) (by kernel_rfl) (by decide) (fun _ _ _ h => h) (by rfl) (by assumption) ?_
      try simp only [Act.put, List.setIfInBounds_toArray, List.set_cons_zero, List.set_cons_succ]
      refine pickN 19 (some 63) rfl rfl (by kernel_rfl) (by kernel_rfl) (by kernel_rfl) (by decide) (fun _ _ _ h => h) (by rfl) (by assumption) ?_
      try simp only [Act.put, List.setIfInBounds_toArray, List.set_cons_zero, List.set_cons_succ]
      refine pickN 20 (some 64) rfl rfl (by kernel_rfl) (by kernel_rfl) (by kernel_rfl) (by decide) (fun _ _ _ h => h) (by rfl) (by assumption) ?_
      try simp only [Act.put, List.setIfInBounds_toArray, List.set_cons_zero, List.set_cons_succ]
      refine pickN 21 (some 65) rfl rfl (by kernel_rfl) (by kernel_rfl) (by kernel_rfl) (by decide) (fun _ _ _ h => h) (by rfl) (by assumption) ?_
      try simp only [Act.put, List.setIfInBounds_toArray, List.set_cons_zero, List.set_cons_succ]
      refine pickN 22 (some 66) rfl rfl (by kernel_rfl) (by kernel_rfl) (by kernel_rfl) (by decide) (fun _ _ _ h => h) (by rfl) (by assumption) ?_
      try simp only [Act.put, List.setIfInBounds_toArray, List.set_cons_zero, List.set_cons_succ]
      refine pickN 23 (some 67) rfl rfl (by kernel_rfl) (by kernel_rfl) (by kernel_rfl) (by decide) (fun _ _ _ h => h) (by rfl) (by assumption) ?_
      try simp only [Act.put, List.setIfInBounds_toArray, List.set_cons_zero, List.set_cons_succ]
      refine pickN 24 (some 68) rfl rfl (by kernel_rfl) (by kernel_rfl) (by kernel_rfl) (by decide) (fun _ _ _ h => h) (by rfl) (by assumption) ?_
      try simp only [Act.put, List.setIfInBounds_toArray, List.set_cons_zero, List.set_cons_succ]
      refine pickN 25 (some 69) rfl rfl (by kernel_rfl) (by kernel_rfl) (by kernel_rfl) (by decide) (fun _ _ _ h => h) (by rfl) (by assumption) ?_
      try simp only [Act.put, List.setIfInBounds_toArray, List.set_cons_zero, List.set_cons_succ]
      refine pickN 26 (some 70) rfl rfl (by kernel_rfl) (by kernel_rfl) (by kernel_rfl) (by decide) (fun _ _ _ h => h) (by rfl) (by assumption) ?_
      try simp only [Act.put, List.setIfInBounds_toArray, List.set_cons_zero, List.set_cons_succ]
      refine pickN 27 (some 71) rfl rfl (by kernel_rfl) (by kernel_rfl) (by kernel_rfl) (by decide) (fun _ _ _ h => h) (by rfl) (by assumption) ?_
      try simp only [Act.put, List.setIfInBounds_toArray, List.set_cons_zero, List.set_cons_succ]
      refine pickN 28 (some 72) rfl rfl (by kernel_rfl) (by kernel_rfl) (by kernel_rfl) (by decide) (fun _ _ _ h => h) (by rfl) (by assumption) ?_
      try simp only [Act.put, List.setIfInBounds_toArray, List.set_cons_zero, List.set_cons_succ]
      refine pickA (v := ?_) 29 (some 73) rfl rfl (by kernel_rfl) (by kernel_rfl) (by kernel_rfl) (by decide) (fun _ _ _ h => h) (by rfl) ?_ (by assumption) ?_
      rotate_left
      · intro w'
        go_simp
        try with_reducible rfl
      try simp only [Act.put, List.setIfInBounds_toArray, List.set_cons_zero, List.set_cons_succ]
      refine pickA (v := ?_) 30 (some 74) rfl rfl (by kernel_rfl) (by kernel_rfl) (by kernel_rfl) (by decide) (fun _ _ _ h => h) (by rfl) ?_ (by assumption) ?_
      rotate_left
      · intro w'
        go_simp
        try with_reducible rfl
      try simp only [Act.put, List.setIfInBounds_toArray, List.set_cons_zero, List.set_cons_succ]
      refine doneL (by kernel_rfl) ?_ _
      clear hHeld
      have X := XD
      have T := TD
      have CB := CD
      have RO := RD
      have B := BD
      clear XD TD CD RD BD
      obtain ⟨t0, t6, -, -, t1⟩ := step_ld T.out
      have LT := hide t1
      clear t0 t1
      have y0 := (OC.out _ B.out)
      go_wp2_with (first | (focus ((with_reducible refine wpList_load_w ?_ 29 (.tmp 105) ?_ ?_ LT.out ?_); rotate_left; rfl; rfl; rotate_left; rfl)))
      refine (without_any _ [S.lf, S.me] (by simp) S.me _ RO.out.row).mono ?_
      rintro e w5 ⟨v5, rfl, RO5, hb⟩
      rw [wo_2 (klt_ne (iv.out.lt (by omega) (by omega)))] at RO5
      obtain ⟨ra, rc, ev5, -, -⟩ := RO5.shape
      subst ev5
      have RO6 : Hid (Ro w.heap.size w5 _ _) := ⟨RO5.row, fun k hk => Nat.le_trans B.out.size (RO5.new k hk)⟩
      replace X := hide (X.out.below hb)
      replace CB := hide (CB.out.below hb)
      replace B := hide (B.out.trans (hb.mono B.out.size))
      clear RO RO5 hb LT y0 t6 T
      have RO := RO6
      clear RO6
      have LAA := hide (OA.out _ B.out)
      simp only [List.length_cons, List.length_nil, Nat.zero_add] at RO ⊢
      go_wp2_with (first | (focus ((with_reducible refine wpList_load_w ?_ 58 (.tmp 114) ?_ ?_ LAA.out ?_); rotate_left; rfl; rfl; rotate_left; rfl)))
      refine (tell_any b S aj iv.out.ok _ X.out).mono ?_
      rintro e w9 ⟨rfl, X9, K9⟩
      have hS := us_ne X.out
      replace RO := hide (RO.out.kp K9 hS)
      have hc : CBk ≠ b := fun e => IsB.ne_t CB.out X.out (by decide) e
      replace CB := hide (CB.out.kp K9 (by simpa using hc))
      replace B := hide (B.out.trans (K9.to_below B.out.size (by simpa using hBb.out)))
      replace X := hide X9
      obtain ⟨iv2, hh⟩ := tl_7 iv.out aj hp
      replace iv2 := hide iv2
      clear X9 K9 hS hc LAA
      have hCk2 := hCk.out
      subst hCk2
      go_wp2
      exact ⟨⟨j + 1, S.tell aj, ra, rc, by omega, by omega, by simp, by rw [hh]; rfl, iv2, X, by rw [hh]; exact RO, CB, B⟩, by simp [intOf]; omega⟩
    · have hh : S.held = [S.lf] := held_3 (Or.inr hp)
      have hln : S.held.length = 1 := by rw [hh]; rfl
      rw [hh] at RO
      replace RO : Hid (Ro w.heap.size wr (.slice qa 1 qc) [S.lf]) := RO
      rw [hln]
      clear hh hln
      have NX := hide (next_8 b S hp wr X.out)
      go_wp2_with fail
      refine NX.out.mono ?_
      rintro e w1 ⟨rfl, hb⟩
      replace X := hide (X.out.below hb)
      replace RO := hide (RO.out.below hb)
      replace CB := hide (CB.out.below hb)
      replace B := hide (B.out.trans (hb.mono B.out.size))
      clear hb NX
      have b3 := (Below.refl w1.heap.size w1).alloc (Nat.le_refl _) (.cells (stL 1 S.lf 4 S.wl S.wb zr zr S.oa S.oo 0 zr zr).toArray 53)
      have SN := hide (store_step w1 (stL 1 S.lf 4 S.wl S.wb zr zr S.oa S.oo 0 zr zr).toArray rfl (by kernel_rfl))
      have T := hide (IsB.new w1 (stL 1 S.lf 4 S.wl S.wb zr zr S.oa S.oo 0 zr zr).toArray 53)
      replace X := hide (X.out.below b3)
      replace RO := hide (RO.out.below b3)
      replace CB := hide (CB.out.below b3)
      replace B := hide (B.out.trans (b3.mono B.out.size))
      clear b3
      obtain ⟨t0, t6, -, -, -⟩ := step_ld T.out
      go_wp2_with (first | (focus ((with_reducible refine wpList_store_w ?_ 53 (.tmp 9) (.tmp 32) ?_ ?_ ?_ SN.out ?_); rotate_left; rfl; rfl; rfl; rotate_left; rfl)))
      clear SN t0 t6
      generalize (w1.alloc (.cells (stL 1 S.lf 4 S.wl S.wb zr zr S.oa S.oo 0 zr zr).toArray 53)) = W2 at *
      generalize w1.heap.size = TB at *
      have e1 := hide iv.out.w1
      have e2 := hide iv.out.w2
      have XD := hide (IsB.below X.out ((Below.refl _ _).drew))
      have TD := hide (T.out.below ((Below.refl _ _).drew))
      have CD := hide (CB.out.below ((Below.refl _ _).drew))
      have RD := hide (RO.out.below ((Below.refl _ _).drew))
      have BD := hide B.out.drew
      generalize hCk : w.heap.size = CBk at CB CD
      replace hCk := hide hCk
      clear X T CB RO B
      go_wp2_with fail
      refine regionL 31 (fun w' => IsB w' TB (stL 1 S.lf 4 S.wl S.wb zr zr S.oa S.oo 0 zr zr).toArray 53 ∧ IsB w' CBk (cfL wl wb me oa oo).toArray 33) mixed ⟨TD.out, CD.out⟩ (fun hHeld => ?_)
      generalize W2.drew = WD at *
      refine pickA (v := ?_) 0 (some 44) rfl rfl (by kernel_rfl) (by kernel_rfl) (by kernel_rfl) (by decide) (fun _ _ _ h => h) (by rfl) ?_ (by assumption) ?_
      rotate_left
      · intro w'
        go_simp
        try with_reducible rfl
      try simp only [Act.put, List.setIfInBounds_toArray, List.set_cons_zero, List.set_cons_succ]
      refine pickA (v := ?_) 1 (some 45) rfl rfl (by kernel_rfl) (by kernel_rfl) (by kernel_rfl) (by decide) (fun _ _ _ h => h) (by rfl) ?_ (by assumption) ?_
      rotate_left
      · intro w'
        go_simp
        try with_reducible rfl
      try simp only [Act.put, List.setIfInBounds_toArray, List.set_cons_zero, List.set_cons_succ]
      refine pickL (v := (.agg #[.int .i64 (S.wl), .int .u64 (S.wb)])) 2 (some 46) rfl rfl (by kernel_rfl) (by kernel_rfl) (by kernel_rfl) (by decide) (by kernel_rfl) (by kernel_rfl) (fun _ _ _ h => h) (by rfl) ?_ (by assumption) ?_
      · intro w' hSw
        obtain ⟨q0, q1⟩ := hSw; obtain ⟨s0, s6, s7, s2, s1⟩ := step_ld q0; have c0 := ld_cw q1
        exact exec_load rfl rfl s7
      try simp only [Act.put, List.setIfInBounds_toArray, List.set_cons_zero, List.set_cons_succ]
      refine pickA (v := ?_) 3 (some 47) rfl rfl (by kernel_rfl) (by kernel_rfl) (by kernel_rfl) (by decide) (fun _ _ _ h => h) (by rfl) ?_ (by assumption) ?_
      rotate_left
      · intro w'
        go_simp
        try with_reducible rfl
      try simp only [Act.put, List.setIfInBounds_toArray, List.set_cons_zero, List.set_cons_succ]
      refine pickL (v := (.agg #[.int .i64 (wl), .int .u64 (wb)])) 4 (some 48) rfl rfl (by kernel_rfl) (by kernel_rfl) (by kernel_rfl) (by decide) (by kernel_rfl) (by kernel_rfl) (fun _ _ _ h => h) (by rfl) ?_ (by assumption) ?_
      · intro w' hSw
        obtain ⟨q0, q1⟩ := hSw; obtain ⟨s0, s6, s7, s2, s1⟩ := step_ld q0; have c0 := ld_cw q1
        exact exec_load rfl rfl c0
      try simp only [Act.put, List.setIfInBounds_toArray, List.set_cons_zero, List.set_cons_succ]
      refine pickA (v := .bool false) 5 (some 49) rfl rfl (by kernel_rfl) (by kernel_rfl) (by kernel_rfl) (by decide) (fun _ _ _ h => h) (by rfl) ?_ (by assumption) ?_
      · intro w'
        exact exec_bin vguard rfl rfl rfl (by rw [e1.out, e2.out]; exact nev0 wl wb _)
      try simp only [Act.put, List.setIfInBounds_toArray, List.set_cons_zero, List.set_cons_succ]
      refine pickA (v := ?_) 6 (some 50) rfl rfl (by kernel_rfl) (by kernel_rfl) (by kernel_rfl) (by decide) (fun _ _ _ h => h) (by rfl) ?_ (by assumption) ?_
      rotate_left
      · intro w'
        go_simp
        try with_reducible rfl
      try simp only [Act.put, List.setIfInBounds_toArray, List.set_cons_zero, List.set_cons_succ]
      refine pickA (v := ?_) 7 (some 51) rfl rfl (by kernel_rfl) (by kernel_rfl) (by kernel_rfl) (by decide) (fun _ _ _ h => h) (by rfl) ?_ (by assumption) ?_
      rotate_left
      · intro w'
        go_simp
        try with_reducible rfl
      try simp only [Act.put, List.setIfInBounds_toArray, List.set_cons_zero, List.set_cons_succ]
      refine pickA (v := ?_) 8 (some 52) rfl rfl (by kernel_rfl) (by kernel_rfl) (by kernel_rfl) (by decide) (fun _ _ _ h => h) (by rfl) ?_ (by assumption) ?_
      rotate_left
      · intro w'
        go_simp
        try with_reducible rfl
      try simp only [Act.put, List.setIfInBounds_toArray, List.set_cons_zero, List.set_cons_succ]
      refine pickL (v := ?_) 9 (some 53) rfl rfl (by kernel_rfl) (by kernel_rfl) (by kernel_rfl) (by decide) (by kernel_rfl) (by kernel_rfl) (fun _ _ _ h => h) (by rfl) ?_ (by assumption) ?_
      rotate_left
      · intro w' hSw
        obtain ⟨q0, q1⟩ := hSw; obtain ⟨s0, s6, s7, s2, s1⟩ := step_ld q0; have c0 := ld_cw q1
        go_simp
        try with_reducible rfl
      try simp only [Act.put, List.setIfInBounds_toArray, List.set_cons_zero, List.set_cons_succ]
      refine pickA (v := ?_) 10 (some 54) rfl rfl (by kernel_rfl) (by kernel_rfl) (by kernel_rfl) (by decide) (fun _ _ _ h => h) (by rfl) ?_ (by assumption) ?_
      rotate_left
      · intro w'
        go_simp
        try with_reducible rfl
      try simp only [Act.put, List.setIfInBounds_toArray, List.set_cons_zero, List.set_cons_succ]
      refine pickA (v := ?_) 11 (some 55) rfl rfl (by kernel_rfl) (by kernel_rfl) (by kernel_rfl) (by decide) (fun _ _ _ h => h) (by rfl) ?_ (by assumption) ?_
      rotate_left
      · intro w'
        go_simp
        try with_reducible rfl
      try simp only [Act.put, List.setIfInBounds_toArray, List.set_cons_zero, List.set_cons_succ]
      refine pickN 12 (some 56) rfl rfl (by kernel_rfl) (by kernel_rfl) (by kernel_rfl) (by decide) (fun _ _ _ h => h) (by rfl) (by assumption) ?_
      try simp only [Act.put, List.setIfInBounds_toArray, List.set_cons_zero, List.set_cons_succ]
      refine pickN 13 (some 57) rfl rfl (by kernel_rfl) (by kernel_rfl) (by kernel_rfl) (by decide) (fun _ _ _ h => h) (by rfl) (by assumption) ?_
      try simp only [Act.put, List.setIfInBounds_toArray, List.set_cons_zero, List.set_cons_succ]
      refine pickN 14 (some 58) rfl rfl (by kernel_rfl) (by kernel_rfl) (by kernel_rfl) (by decide) (fun _ _ _ h => h) (by rfl) (by assumption) ?_
      try simp only [Act.put, List.setIfInBounds_toArray, List.set_cons_zero, List.set_cons_succ]
      refine pickA (v := ?_) 15 (some 59) rfl rfl (by kernel_rfl) (by kernel_rfl) (by kernel_rfl) (by decide) (fun _ _ _ h => h) (by rfl) ?_ (by assumption) ?_
      rotate_left
      · intro w'
        go_simp
        try with_reducible rfl
      try simp only [Act.put, List.setIfInBounds_toArray, List.set_cons_zero, List.set_cons_succ]
      refine pickA (v := ?_) 16 (some 60) rfl rfl (by kernel_rfl) (by kernel_rfl) (by kernel_rfl) (by decide) (fun _ _ _ h => h) (by rfl) ?_ (by assumption) ?_
      rotate_left
      · intro w'
        go_simp
        try with_reducible rfl
      try simp only [Act.put, List.setIfInBounds_toArray, List.set_cons_zero, List.set_cons_succ]
      refine pickN 17 (some 61) rfl rfl (by kernel_rfl) (by kernel_rfl) (by kernel_rfl) (by decide) (fun _ _ _ h => h) (by rfl) (by assumption) ?_
      try simp only [Act.put, List.setIfInBounds_toArray, List.set_cons_zero, List.set_cons_succ]
      refine pickN 18 (some 62) rfl rfl (by kernel_rfl) (by kernel_rfl) (by kernel_rfl) (by decide) (fun _ _ _ h => h) (by rfl) (by assumption) ?_
      try simp only [Act.put, List.setIfInBounds_toArray, List.set_cons_zero, List.set_cons_succ]
      refine pickN 19 (some 63) rfl rfl (by kernel_rfl) (by kernel_rfl) (by kernel_rfl) (by decide) (fun _ _ _ h => h) (by rfl) (by assumption) ?_
      try simp only [Act.put, List.setIfInBounds_toArray, List.set_cons_zero, List.set_cons_succ]
      refine pickN 20 (some 64) rfl rfl (by kernel_rfl) (by kernel_rfl) (by kernel_rfl) (by decide) (fun _ _ _ h => h) (by rfl) (by assumption) ?_
      try simp only [Act.put, List.setIfInBounds_toArray, List.set_cons_zero, List.set_cons_succ]
      refine pickN 21 (some 65) rfl rfl (by kernel_rfl) (by kernel_rfl) (by kernel_rfl) (by decide) (fun _ _ _ h => h) (by rfl) (by assumption) ?_
      try simp only [Act.put, List.setIfInBounds_toArray, List.set_cons_zero, List.set_cons_succ]
      refine pickN 22 (some 66) rfl rfl (by kernel_rfl) (by kernel_rfl) (by kernel_rfl) (by decide) (fun _ _ _ h => h) (by rfl) (by assumption) ?_
      try simp only [Act.put, List.setIfInBounds_toArray, List.set_cons_zero, List.set_cons_succ]
      refine pickN 23 (some 67) rfl rfl (by kernel_rfl) (by kernel_rfl) (by kernel_rfl) (by decide) (fun _ _ _ h => h) (by rfl) (by assumption) ?_
      try simp only [Act.put, List.setIfInBounds_toArray, List.set_cons_zero, List.set_cons_succ]
      refine pickN 24 (some 68) rfl rfl (by kernel_rfl) (by kernel_rfl) (by kernel_rfl) (by decide) (fun _ _ _ h => h) (by rfl) (by assumption) ?_
      try simp only [Act.put, List.setIfInBounds_toArray, List.set_cons_zero, List.set_cons_succ]
      refine pickN 25 (some 69) rfl rfl (by kernel_rfl) (by kernel_rfl) (by kernel_rfl) (by decide) (fun _ _ _ h => h) (by rfl) (by assumption) ?_
      try simp only [Act.put, List.setIfInBounds_toArray, List.set_cons_zero, List.set_cons_succ]
      refine pickN 26 (some 70) rfl rfl (by kernel_rfl) (by kernel_rfl) (by kernel_rfl) (by decide) (fun _ _ _ h => h) (by rfl) (by assumption) ?_
      try simp only [Act.put, List.setIfInBounds_toArray, List.set_cons_zero, List.set_cons_succ]
      refine pickN 27 (some 71) rfl rfl (by kernel_rfl) (by kernel_rfl) (by kernel_rfl) (by decide) (fun _ _ _ h => h) (by rfl) (by assumption) ?_
      try simp only [Act.put, List.setIfInBounds_toArray, List.set_cons_zero, List.set_cons_succ]
      refine pickN 28 (some 72) rfl rfl (by kernel_rfl) (by kernel_rfl) (by kernel_rfl) (by decide) (fun _ _ _ h => h) (by rfl) (by assumption) ?_
      try simp only [Act.put, List.setIfInBounds_toArray, List.set_cons_zero, List.set_cons_succ]
      refine pickA (v := ?_) 29 (some 73) rfl rfl (by kernel_rfl) (by kernel_rfl) (by kernel_rfl) (by decide) (fun _ _ _ h => h) (by rfl) ?_ (by assumption) ?_
      rotate_left
      · intro w'
        go_simp
        try with_reducible rfl
      try simp only [Act.put, List.setIfInBounds_toArray, List.set_cons_zero, List.set_cons_succ]
      refine pickA (v := ?_) 30 (some 74) rfl rfl (by kernel_rfl) (by kernel_rfl) (by kernel_rfl) (by decide) (fun _ _ _ h => h) (by rfl) ?_ (by assumption) ?_
      rotate_left
      · intro w'
        go_simp
        try with_reducible rfl
      try simp only [Act.put, List.setIfInBounds_toArray, List.set_cons_zero, List.set_cons_succ]
      refine doneL (by kernel_rfl) ?_ _
      clear hHeld
      have X := XD
      have T := TD
      have CB := CD
      have RO := RD
      have B := BD
      clear XD TD CD RD BD
      obtain ⟨t0, t6, -, -, t1⟩ := step_ld T.out
      have LT := hide t1
      clear t0 t1
      have y0 := (OC.out _ B.out)
      go_wp2_with (first | (focus ((with_reducible refine wpList_load_w ?_ 29 (.tmp 105) ?_ ?_ LT.out ?_); rotate_left; rfl; rfl; rotate_left; rfl)))
      refine (without_any _ [S.lf] (by simp) S.lf _ RO.out.row).mono ?_
      rintro e w5 ⟨v5, rfl, RO5, hb⟩
      rw [wo_1] at RO5
      obtain ⟨ra, rc, ev5, -, -⟩ := RO5.shape
      subst ev5
      have RO6 : Hid (Ro w.heap.size w5 _ _) := ⟨RO5.row, fun k hk => Nat.le_trans B.out.size (RO5.new k hk)⟩
      replace X := hide (X.out.below hb)
      replace CB := hide (CB.out.below hb)
      replace B := hide (B.out.trans (hb.mono B.out.size))
      clear RO RO5 hb LT y0 t6 T
      have RO := RO6
      clear RO6
      have LAA := hide (OA.out _ B.out)
      simp only [List.length_nil] at RO ⊢
      go_wp2_with (first | (focus ((with_reducible refine wpList_load_w ?_ 58 (.tmp 114) ?_ ?_ LAA.out ?_); rotate_left; rfl; rfl; rotate_left; rfl)))
      refine (tell_any b S aj iv.out.ok _ X.out).mono ?_
      rintro e w9 ⟨rfl, X9, K9⟩
      have hS := us_ne X.out
      replace RO := hide (RO.out.kp K9 hS)
      have hc : CBk ≠ b := fun e => IsB.ne_t CB.out X.out (by decide) e
      replace CB := hide (CB.out.kp K9 (by simpa using hc))
      replace B := hide (B.out.trans (K9.to_below B.out.size (by simpa using hBb.out)))
      replace X := hide X9
      obtain ⟨iv2, hh⟩ := tl_8 iv.out aj hp
      replace iv2 := hide iv2
      clear X9 K9 hS hc LAA
      have hCk2 := hCk.out
      subst hCk2
      go_wp2
      exact ⟨⟨j + 1, S.tell aj, ra, rc, by omega, by omega, by simp, by rw [hh]; rfl, iv2, X, by rw [hh]; exact RO, CB, B⟩, by simp [intOf]; omega⟩
    · have hh : S.held = [] := held_1 (Or.inr (Or.inr (Or.inl hp)))
      have hln : S.held.length = 0 := by rw [hh]; rfl
      rw [hh] at RO
      replace RO : Hid (Ro w.heap.size wr (.slice qa 0 qc) []) := RO
      rw [hln]
      clear hh hln
      have NX := hide (next_9 b S hp wr X.out)
      go_wp2_with fail
      refine NX.out.mono ?_
      rintro e w1 ⟨rfl, hb⟩
      replace X := hide (X.out.below hb)
      replace RO := hide (RO.out.below hb)
      replace CB := hide (CB.out.below hb)
      replace B := hide (B.out.trans (hb.mono B.out.size))
      clear hb NX
      have b3 := (Below.refl w1.heap.size w1).alloc (Nat.le_refl _) (.cells (stL 2 zr 0 0 0 zr zr 0 0 0 zr zr).toArray 53)
      have SN := hide (store_step w1 (stL 2 zr 0 0 0 zr zr 0 0 0 zr zr).toArray rfl (by kernel_rfl))
      have T := hide (IsB.new w1 (stL 2 zr 0 0 0 zr zr 0 0 0 zr zr).toArray 53)
      replace X := hide (X.out.below b3)
      replace RO := hide (RO.out.below b3)
      replace CB := hide (CB.out.below b3)
      replace B := hide (B.out.trans (b3.mono B.out.size))
      clear b3
      obtain ⟨t0, t6, -, -, -⟩ := step_ld T.out
      go_wp2_with (first | (focus ((with_reducible refine wpList_store_w ?_ 53 (.tmp 9) (.tmp 32) ?_ ?_ ?_ SN.out ?_); rotate_left; rfl; rfl; rfl; rotate_left; rfl)))
      refine (wake_any b S _ X.out).mono ?_
      rintro e w4 ⟨rfl, X4, K4⟩
      have hS := us_ne X.out
      replace RO := hide (RO.out.kp K4 hS)
      have hc : w.heap.size ≠ b := fun e => IsB.ne_t CB.out X.out (by decide) e
      replace CB := hide (CB.out.kp K4 (by simpa using hc))
      replace B := hide (B.out.trans (K4.to_below B.out.size (by simpa using hBb.out)))
      replace X := hide X4
      have iv2 := hide iv.out.wake
      have hh : S.wake.held = [] := held_wake (Or.inl hp)
      clear X4 K4 hS hc T SN t0 t6
      go_wp2
      exact ⟨⟨j + 1, S.wake, qa, qc, by omega, by omega, by simp, by rw [hh]; rfl, iv2, X, by rw [hh]; exact RO, CB, B⟩, by simp [intOf]; omega⟩
    · have hh : S.held = [] := held_1 (Or.inr (Or.inr (Or.inr hp)))
      have hln : S.held.length = 0 := by rw [hh]; rfl
      rw [hh] at RO
      replace RO : Hid (Ro w.heap.size wr (.slice qa 0 qc) []) := RO
      rw [hln]
      clear hh hln
      have NX := hide (next_10 b S hp wr X.out)
      go_wp2_with fail
      refine NX.out.mono ?_
      rintro e w1 ⟨rfl, hb⟩
      replace X := hide (X.out.below hb)
      replace RO := hide (RO.out.below hb)
      replace CB := hide (CB.out.below hb)
      replace B := hide (B.out.trans (hb.mono B.out.size))
      clear hb NX
      have b3 := (Below.refl w1.heap.size w1).alloc (Nat.le_refl _) (.cells (stL 3 zr 0 0 0 zr zr 0 0 S.e zr zr).toArray 53)
      have SN := hide (store_step w1 (stL 3 zr 0 0 0 zr zr 0 0 S.e zr zr).toArray rfl (by kernel_rfl))
      have T := hide (IsB.new w1 (stL 3 zr 0 0 0 zr zr 0 0 S.e zr zr).toArray 53)
      replace X := hide (X.out.below b3)
      replace RO := hide (RO.out.below b3)
      replace CB := hide (CB.out.below b3)
      replace B := hide (B.out.trans (b3.mono B.out.size))
      clear b3
      obtain ⟨t0, t6, -, -, -⟩ := step_ld T.out
      go_wp2_with (first | (focus ((with_reducible refine wpList_store_w ?_ 53 (.tmp 9) (.tmp 32) ?_ ?_ ?_ SN.out ?_); rotate_left; rfl; rfl; rfl; rotate_left; rfl)))
      go_ret
      exact ⟨rfl, B.out⟩

theorem frees_any (wl wb : Int) (me : Rf) (oa oo : Int) (v : Value) (l : List An) (hb0 : 0 ≤ me.bt) (hc0 : 0 ≤ wb) (w : World) (hO : AnSl w v l) : Calls Try.prog 5 #[.agg (cfL wl wb me oa oo).toArray, v] w fun e w' => e = .returned (.bool true) ∧ Below w.heap.size w w' := by
  cases hm : mayC wl wb me oa oo with
  | false => exact frees_bad wl wb me oa oo v l hb0 hc0 hm w hO
  | true => exact frees_good wl wb me oa oo v l hb0 hc0 hm w hO

end Go.Proofs.Ytiobfohcgdgpbaa
