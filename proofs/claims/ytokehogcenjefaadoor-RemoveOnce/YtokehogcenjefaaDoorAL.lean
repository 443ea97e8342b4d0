/- A removal, whatever it is at: in memory, and its calls. -/
import Derived.Test.YtokehogcenjefaaDoorAK
namespace Go.Proofs.YtokehogcenjefaaDoor
open Go.RowKit Go.Maps Go.ChangeMaps

/-- The machine at hand. -/
def handR (R : Rm) (s u : Nat) : Value := if R.pl = 1 then (.iface 73 (.pointer (some ⟨s, 0, none⟩))) else handU R u
/-- A removal in memory, at base or behind. -/
def RvAt (base : Nat) (w : World) (b : Nat) (T : Rv) : Prop := ∃ s m u, IsB w b (rmL T.R (handR T.R s u)).toArray 63 ∧ SkAt w s m T.S T.ws ∧ (T.R.pl = 3 → UsAt w u T.U ∧ base ≤ u) ∧ base ≤ b ∧ base ≤ s ∧ base ≤ m
/-- What its calls turn: its own blocks alone. -/
def Fr (base : Nat) (w w' : World) : Prop := ∃ L : List Nat, Kp L w w' ∧ ∀ k ∈ L, base ≤ k ∧ ∀ cs t, IsB w k cs t → t = 63 ∨ t = 86 ∨ t = 108
theorem Fr.below {base : Nat} {w w' : World} (h : Fr base w w') (hb : base ≤ w.heap.size) : Below base w w' := by
  obtain ⟨L, hk, hL⟩ := h
  exact hk.to_below hb (fun k hk => (hL k hk).1)
theorem Fr.blk {base : Nat} {w w' : World} (h : Fr base w w') {k : Nat} {cs : Array Value} {t : TypeId} (I : IsB w k cs t) (h1 : t ≠ 63) (h2 : t ≠ 86) (h3 : t ≠ 108) : IsB w' k cs t := by
  obtain ⟨L, hk, hL⟩ := h
  refine I.kp hk (fun hm => ?_)
  rcases (hL k hm).2 cs t I with e | e | e
  · exact h1 e
  · exact h2 e
  · exact h3 e
theorem Fr.ro {base bs : Nat} {w w' : World} (h : Fr base w w') {v : Value} {l : List Rf} (hr : Ro bs w v l) : Ro bs w' v l := by
  obtain ⟨L, hk, hL⟩ := h
  refine hr.kp hk (fun k hm cs I => ?_)
  rcases (hL k hm).2 cs _ I with e | e | e <;> exact absurd e (by decide)
theorem Fr.of_below {base : Nat} {w w' : World} (hb : Below w.heap.size w w') : Fr base w w' := ⟨[], Kp.of_below hb, fun _ hm => by cases hm⟩
theorem Fr.of_kp {base : Nat} {w w' : World} {L : List Nat} (hk : Kp L w w') (h : ∀ k ∈ L, base ≤ k ∧ ((∃ cs, IsB w k cs 63) ∨ (∃ cs, IsB w k cs 86) ∨ (∃ cs, IsB w k cs 108) ∨ ∀ cs t, ¬IsB w k cs t)) : Fr base w w' := by
  refine ⟨L, hk, fun k hm => ⟨(h k hm).1, fun cs t I => ?_⟩⟩
  have ty : ∀ {cs2 : Array Value} {t2 : TypeId}, IsB w k cs2 t2 → t = t2 := fun {cs2 t2} J => by
    by_cases c : t = t2
    · exact c
    · exact absurd rfl (IsB.ne_t I J c)
  rcases (h k hm).2 with ⟨c, J⟩ | ⟨c, J⟩ | ⟨c, J⟩ | J
  · exact Or.inl (ty J)
  · exact Or.inr (Or.inl (ty J))
  · exact Or.inr (Or.inr (ty J))
  · exact absurd I (J cs t)
theorem RvAt.below {base : Nat} {w w' : World} {b : Nat} {T : Rv} (h : RvAt base w b T) (hb : Below w.heap.size w w') : RvAt base w' b T := by
  obtain ⟨s, m, u, I, X, hu, h1⟩ := h
  exact ⟨s, m, u, I.below hb, X.below hb, fun c => ⟨UsAt.bel (hu c).1 hb, (hu c).2⟩, h1⟩
theorem RvAt.base_le {base : Nat} {w : World} {b : Nat} {T : Rv} (h : RvAt base w b T) : base ≤ b := by
  obtain ⟨s, m, u, I, X, hu, h1, -⟩ := h
  exact h1
theorem RvAt.sz {base : Nat} {w : World} {b : Nat} {T : Rv} (h : RvAt base w b T) : base ≤ w.heap.size ∧ b < w.heap.size := by
  obtain ⟨s, m, u, I, X, hu, h1, -⟩ := h
  have := I.lt
  exact ⟨by omega, this⟩
theorem Ranks.base {base : Nat} {w w' : World} (h : Ranks w) (hg : (0 : Nat) < base) (hb : Below base w w') : Ranks w' := by
  obtain ⟨h0, h1, h2, h3, h4, h5⟩ := h
  refine ⟨?_, ?_, ?_, ?_, ?_, ?_⟩ <;> (rw [hb.cell (by exact hg)]; assumption)
theorem RvAt.kpr {base : Nat} {w w' : World} {b : Nat} {T : Rv} (h : RvAt base w b T) {L : List Nat} (hk : Kp L w w') (hL : ∀ k ∈ L, ∃ cs, IsB w k cs 29) : RvAt base w' b T := by
  obtain ⟨s, m, u, I, X, hu, h1⟩ := h
  have ne : ∀ {k : Nat} {cs : Array Value} {t : TypeId}, IsB w k cs t → t ≠ 29 → k ∉ L := fun {k cs t} J ht hm => by
    obtain ⟨c, J2⟩ := hL k hm
    exact IsB.ne_t J J2 ht rfl
  exact ⟨s, m, u, I.kp hk (ne I (by decide)), X.kp hk (ne X.blk (by decide)) (fun hm => by obtain ⟨c, J2⟩ := hL m hm; exact X.map.off J2 rfl), fun c => ⟨IsB.kp (hu c).1 hk (ne (hu c).1 (by decide)), (hu c).2⟩, h1⟩
theorem TI.held_len {K : Int} {T : Rv} {mk last : Int} (_ : TI K T mk last) : T.held.length ≤ 2 := by
  unfold Rv.held Us.held
  split
  · split
    · simp
    · split <;> simp
  · simp
theorem no_blk {w : World} {m : Nat} {ws : List (Pl × Rf)} (h : PMp w m ws) (cs : Array Value) (t : TypeId) : ¬IsB w m cs t := fun I => absurd rfl (h.off I)
theorem hand_went (R : Rm) (hp : R.pl = 1) (S : Sk) (s u : Nat) : handOf S s = handR (R.went S) s u := by
  unfold handOf Rm.went
  split
  · unfold Rm.sought
    split
    · rfl
    · split <;> rfl
  · unfold handR
    rw [if_pos hp]
theorem hand_u {R : Rm} (h : R.pl ≠ 1) (s u : Nat) : handR R s u = handU R u := if_neg h
theorem hear_pl (R : Rm) (k : Int) : (R.hear k).pl ≠ 1 := by
  unfold Rm.hear Rm.leave
  split
  · split
    · show (3 : Int) ≠ 1; decide
    · show (4 : Int) ≠ 1; decide
  · split
    · show (4 : Int) ≠ 1; decide
    · show (4 : Int) ≠ 1; decide
theorem wentU_pl (R : Rm) (U : Us) (hp : R.pl = 3) : (R.wentU U).pl ≠ 1 := by
  unfold Rm.wentU Rm.left Rm.leave
  split
  · split
    · show (4 : Int) ≠ 1; decide
    · split
      · show (3 : Int) ≠ 1; decide
      · show (4 : Int) ≠ 1; decide
  · omega
theorem Inv.tell {wl wb : Int} {S : Us} (h : Inv wl wb S) (a : An) : Inv wl wb (S.tell a) := by
  have g1 := h.ok.1
  have g2 := h.ok.2.1
  by_cases h1 : S.pl = 1
  · exact (tl_1 h a h1).1
  by_cases h2 : S.pl = 2
  · by_cases hk : a.k = 1
    · exact (tl_2y h a h2 hk).1
    · exact (tl_2n h a h2 hk).1
  by_cases h3 : S.pl = 3
  · by_cases hk : a.k = 1
    · exact (tl_3y h a h3 hk).1
    · exact (tl_3n h a h3 hk).1
  by_cases h4 : S.pl = 4
  · exact (tl_4 h a h4).1
  by_cases h5 : S.pl = 5
  · exact (tl_5 h a h5).1
  by_cases h6 : S.pl = 6
  · exact (tl_6 h a h6).1
  by_cases h7 : S.pl = 7
  · exact (tl_7 h a h7).1
  by_cases h8 : S.pl = 8
  · exact (tl_8 h a h8).1
  · have e : S.tell a = S := by unfold Us.tell; rw [if_neg h1, if_neg h2, if_neg h3, if_neg h4, if_neg h5, if_neg h6, if_neg h7, if_neg h8]
    rw [e]; exact h

set_option maxHeartbeats 2000000 in
set_option maxRecDepth 100000 in
theorem rv_next (base b : Nat) {K : Int} {T : Rv} {mk last : Int} (h : TI K T mk last) (w : World) (X : RvAt base w b T) : Calls Tryd.prog 7 #[.pointer (some ⟨b, 0, none⟩)] w fun e' w' => e' = .returned (.agg T.step.toArray) ∧ Below w.heap.size w w' := by
  obtain ⟨s, m, u, I, X, hu, -⟩ := X
  unfold Rv.step
  have g1 := h.p1
  have g4 := h.p4
  by_cases h1 : T.R.pl = 1
  · rw [if_pos h1]
    have e : handR T.R s u = _ := if_pos h1
    rw [e] at I
    exact rnext_search b s m T.R T.S T.ws h1 w I X
  rw [if_neg h1]
  by_cases h2 : T.R.pl = 2
  · rw [if_pos h2]
    exact rnext_mark b T.R _ h2 w I
  rw [if_neg h2]
  by_cases h3 : T.R.pl = 3
  · rw [if_pos h3]
    have e : handR T.R s u = _ := (hand_u h1 s u).trans (if_pos h3)
    rw [e] at I
    exact rnext_lists b u T.R T.U (h.u h3).ok h3 w I (hu h3).1
  · rw [if_neg h3]
    exact rnext_end b T.R _ (by omega) w I

set_option maxHeartbeats 2000000 in
set_option maxRecDepth 100000 in
theorem rv_tell (base b : Nat) {K : Int} {T : Rv} {mk last : Int} (h : TI K T mk last) (a : An) (ha : AOk a) (w : World) (hR : Ranks w) (hbw : base ≤ w.heap.size) (X : RvAt base w b T) : Calls Tryd.prog 9 #[.pointer (some ⟨b, 0, none⟩), .agg (anL a).toArray] w fun e' w' => e' = .returned (.tuple #[]) ∧ RvAt base w' b (T.tell a) ∧ Fr base w w' := by
  obtain ⟨s, m, u, I, X, hu, hb1, hb2, hb3⟩ := X
  have hs : b ≠ s := IsB.ne_t I X.blk (by decide)
  have hm : b ≠ m := X.map.off I
  unfold Rv.tell
  have g1 := h.p1
  have g4 := h.p4
  by_cases h1 : T.R.pl = 1
  · rw [if_pos h1]
    have e : handR T.R s u = _ := if_pos h1
    rw [e] at I
    refine (rtell_search b s m T.R T.S T.ws a h.so ha ⟨hs, hm⟩ h1 w hR I X).mono ?_
    rintro e1 w1 ⟨rfl, I1, X1, k1⟩
    refine ⟨rfl, ⟨s, m, u, ?_, X1, ?_, hb1, hb2, hb3⟩, Fr.of_kp k1 (fun k hk => ?_)⟩
    · rw [← hand_went T.R h1]; exact I1
    · intro c
      exfalso
      revert c
      show ¬(T.R.went _).pl = 3
      unfold Rm.went Rm.sought
      split
      · split
        · show ¬(4 : Int) = 3; decide
        · split
          · show ¬(4 : Int) = 3; decide
          · show ¬(2 : Int) = 3; decide
      · omega
    · simp only [List.mem_cons, List.not_mem_nil, or_false] at hk
      rcases hk with rfl | rfl | rfl
      · exact ⟨hb1, Or.inl ⟨_, I⟩⟩
      · exact ⟨hb2, Or.inr (Or.inl ⟨_, X.blk⟩)⟩
      · exact ⟨hb3, Or.inr (Or.inr (Or.inr (no_blk X.map)))⟩
  rw [if_neg h1]
  by_cases h2 : T.R.pl = 2
  · rw [if_pos h2]
    have e : handR T.R s u = .nilIface := (hand_u h1 s u).trans (if_neg (by omega))
    rw [e] at I
    refine (rtell_mark b T.R a h2 h.xb w I).mono ?_
    rintro e1 w1 ⟨u1, rfl, I1, X1, hu1, k1⟩
    refine ⟨rfl, ⟨s, m, u1, ?_, X.kp k1 (by simpa using Ne.symm hs) (by simpa using Ne.symm hm), fun c => ⟨X1 c, Nat.le_trans hbw hu1⟩, hb1, hb2, hb3⟩, Fr.of_kp k1 (fun k hk => ?_)⟩
    · rw [hand_u (hear_pl _ _)]; exact I1
    · simp only [List.mem_singleton] at hk
      subst hk
      exact ⟨hb1, Or.inl ⟨_, I⟩⟩
  rw [if_neg h2]
  by_cases h3 : T.R.pl = 3
  · rw [if_pos h3]
    have e : handR T.R s u = _ := (hand_u h1 s u).trans (if_pos h3)
    rw [e] at I
    obtain ⟨XU, hbu⟩ := hu h3
    have hus : s ≠ u := IsB.ne_t X.blk XU (by decide)
    have hum : u ≠ m := X.map.off XU
    refine (rtell_lists b u T.R T.U a (h.u h3).ok ((h.u h3).tell a).ok h3 h.xb (h.rl h3).1 (h.rl h3).2 w I XU).mono ?_
    rintro e1 w1 ⟨u1, rfl, I1, X1, hu1, k1⟩
    refine ⟨rfl, ⟨s, m, u1, ?_, X.kp k1 (by simp; exact ⟨Ne.symm hs, hus⟩) (by simp; exact ⟨Ne.symm hm, Ne.symm hum⟩), fun c => ⟨X1 c, ?_⟩, hb1, hb2, hb3⟩, Fr.of_kp k1 (fun k hk => ?_)⟩
    · rw [hand_u (wentU_pl _ _ h3)]; exact I1
    · rcases hu1 with e | e
      · rw [e]; exact hbu
      · exact Nat.le_trans hbw e
    · simp only [List.mem_cons, List.not_mem_nil, or_false] at hk
      rcases hk with rfl | rfl
      · exact ⟨hb1, Or.inl ⟨_, I⟩⟩
      · exact ⟨hbu, Or.inr (Or.inr (Or.inl ⟨_, XU⟩))⟩
  · rw [if_neg h3]
    refine (rtell_idle b T.R _ a (Or.inr (by omega)) w I).mono ?_
    rintro e1 w1 ⟨rfl, hb⟩
    exact ⟨rfl, RvAt.below ⟨s, m, u, I, X, hu, hb1, hb2, hb3⟩ hb, Fr.of_below hb⟩

set_option maxHeartbeats 2000000 in
set_option maxRecDepth 100000 in
theorem rv_wake (base b : Nat) (T : Rv) (w : World) (X : RvAt base w b T) : Calls Tryd.prog 8 #[.pointer (some ⟨b, 0, none⟩)] w fun e' w' => e' = .returned (.tuple #[]) ∧ RvAt base w' b T.wake ∧ Fr base w w' := by
  obtain ⟨s, m, u, I, X, hu, hb1, hb2, hb3⟩ := X
  have hs : b ≠ s := IsB.ne_t I X.blk (by decide)
  have hm : b ≠ m := X.map.off I
  unfold Rv.wake
  have same : ∀ {w1 : World}, w1 = w → RvAt base w1 b T ∧ Fr base w w1 := fun {w1} e => by
    subst e
    exact ⟨⟨s, m, u, I, X, hu, hb1, hb2, hb3⟩, Fr.of_below (Below.refl _ _)⟩
  by_cases h3 : T.R.pl = 3
  · rw [if_pos h3]
    have h1 : T.R.pl ≠ 1 := by omega
    have e : handR T.R s u = _ := (hand_u h1 s u).trans (if_pos h3)
    obtain ⟨XU, hbu⟩ := hu h3
    have hus : s ≠ u := IsB.ne_t X.blk XU (by decide)
    have hum : u ≠ m := X.map.off XU
    rw [e] at I
    refine (rwake_lists b u T.R T.U w I XU).mono ?_
    rintro e1 w1 ⟨rfl, I1, X1, k1⟩
    refine ⟨rfl, ⟨s, m, u, ?_, X.kp k1 (by simpa using hus) (by simpa using Ne.symm hum), fun _ => ⟨X1, hbu⟩, hb1, hb2, hb3⟩, Fr.of_kp k1 (fun k hk => ?_)⟩
    · show IsB w1 b (rmL T.R (handR T.R s u)).toArray 63
      rw [e]; exact I1
    · simp only [List.mem_singleton] at hk
      subst hk
      exact ⟨hbu, Or.inr (Or.inr (Or.inl ⟨_, XU⟩))⟩
  rw [if_neg h3]
  by_cases h1 : T.R.pl = 1
  · have e : handR T.R s u = _ := if_pos h1
    have I1 := I
    rw [e] at I1
    refine (rwake_search b s T.R w I1).mono ?_
    rintro e1 w1 ⟨rfl, hw⟩
    exact ⟨rfl, same hw⟩
  · have e : handR T.R s u = .nilIface := (hand_u h1 s u).trans (if_neg h3)
    have I1 := I
    rw [e] at I1
    refine (rwake_none b T.R w I1).mono ?_
    rintro e1 w1 ⟨rfl, hw⟩
    exact ⟨rfl, same hw⟩

set_option maxHeartbeats 2000000 in
set_option maxRecDepth 100000 in
theorem rv_marked (base b : Nat) (T : Rv) (w : World) (X : RvAt base w b T) : Calls Tryd.prog 11 #[.pointer (some ⟨b, 0, none⟩)] w fun e' w' => e' = .returned (.bool T.R.md) ∧ w' = w := by
  obtain ⟨s, m, u, I, -⟩ := X
  exact marked_any b T.R _ w I

set_option maxHeartbeats 2000000 in
set_option maxRecDepth 100000 in
theorem rv_new (h : Int) (st : Rf) (k oa oo : Int) (hb0 : 0 ≤ st.bt) (hm : mayC h st 2 k = true) (ho : okO oa oo = true) (w : World) (hR : Ranks w) : Calls Tryd.prog 6 #[.agg (rcL h st k oa oo).toArray] w fun e' w' => ∃ b, e' = .returned (.tuple #[.pointer (some ⟨b, 0, none⟩), .int .i64 0]) ∧ RvAt w.heap.size w' b ⟨newR oa oo, newS h st 2 k, [], unewS 0 0 zr 0 0⟩ ∧ Below w.heap.size w w' := by
  refine (rnew_ok h st k oa oo hb0 hm ho w hR).mono ?_
  rintro e1 w1 ⟨b, s, m, rfl, I, X, h1, h2, h3, h4, hb⟩
  exact ⟨b, rfl, ⟨s, m, 0, I, X, fun c => absurd (show (1 : Int) = 3 from c) (by decide), by omega, h3, h4⟩, hb⟩

end Go.Proofs.YtokehogcenjefaaDoor
