/- The document's IsOwner and Same; what the calls make of a lock, in one; the acts of a script. -/
import Derived.Test.YtapknlmplhjfeaaLH
namespace Go.Proofs.Ytapknlmplhjfeaa
open Go.RowKit Go.Maps

set_option maxHeartbeats 800000 in
theorem isOwner_any (a o : Int) (w : World) : Calls Try.prog 12 #[.agg #[.int .i64 a, .int .i64 o]] w fun e w' => e = .returned (.bool (okO a o)) ∧ Below w.heap.size w w' := by
  have fin : Below w.heap.size w (w.alloc (.cells #[.int .i64 a, .int .i64 o] 27)) := (Below.refl _ _).alloc (Nat.le_refl _) _
  by_cases h0 : a < 0
  · rw [show okO a o = false by unfold okO; simp; omega]
    go_enter Try.func12, Try.ntmps12
    go_wp2
    go_ret
    exact ⟨rfl, fin⟩
  · by_cases h1 : 1024 ≤ a
    · rw [show okO a o = false by unfold okO; simp; omega]
      go_enter Try.func12, Try.ntmps12
      go_wp2
      go_ret
      exact ⟨rfl, fin⟩
    · by_cases h2 : o < 1
      · rw [show okO a o = false by unfold okO; simp; omega]
        go_enter Try.func12, Try.ntmps12
        go_wp2
        go_ret
        exact ⟨rfl, fin⟩
      · by_cases h3 : 1073741824 < o
        · rw [show okO a o = false by unfold okO; simp; omega]
          go_enter Try.func12, Try.ntmps12
          go_wp2
          go_ret
          exact ⟨by first | rfl | (simp; omega), fin⟩
        · rw [show okO a o = true by unfold okO; simp; omega]
          go_enter Try.func12, Try.ntmps12
          go_wp2
          go_ret
          exact ⟨by first | rfl | (simp; omega), fin⟩

set_option maxHeartbeats 4000000 in
set_option maxRecDepth 100000 in
theorem same_any (u1 u2 : Value) (l : List Ow) (hl : l.length ≤ 100000) (w : World) (h1 : Sl w u1 l) (h2 : Sl w u2 l) :
    Calls Try.prog 14 #[u1, u2] w fun e w' => e = .returned (.bool true) ∧ Below w.heap.size w w' := by
  have mixed : Try.prog.follows .mixedOrders = true := by kernel_rfl
  obtain ⟨a1, c1, rfl, -, -⟩ := h1.shape
  obtain ⟨a2, c2, rfl, -, -⟩ := h2.shape
  replace h1 := hide h1
  replace h2 := hide h2
  generalize hn : l.length = n at *
  replace hn := hide hn
  go_enter Try.func14, Try.ntmps14
  go_wp2
  go_loopw [5] (fun i wr => ∃ t : Nat, t ≤ n ∧ i = .int .i64 (t : Int) ∧ Hid (Below w.heap.size w wr)) (fun i _ => n - (intOf i).toNat)
  case atStart => exact ⟨0, by omega, rfl, Below.refl _ _⟩
  case round =>
    obtain ⟨t, ht, rfl, HB⟩ := hrel
    by_cases htn : t < n
    · have htl : t < l.length := by rw [hn.out]; exact htn
      obtain ⟨g1, k1, e1c, e1, -, -, p0, p1⟩ := (h1.out.below HB.out).cells t htl
      obtain ⟨g2, k2, e2c, e2, -, -, p2, p3⟩ := (h2.out.below HB.out).cells t htl
      injection e1 with e1 el1 ec1
      injection e2 with e2 el2 ec2
      clear el1 el2
      subst e1 ec1 e2 ec2
      generalize l[t].1 = x at p0 p2
      generalize l[t].2 = y at p1 p3
      go_wp2
      refine regionL 9 (fun w' => w'.cell? ⟨g1, k1 + t * 2, none⟩ = some (.int .i64 x) ∧ w'.cell? ⟨g1, k1 + t * 2 + 1, none⟩ = some (.int .i64 y) ∧ w'.cell? ⟨g2, k2 + t * 2, none⟩ = some (.int .i64 x) ∧ w'.cell? ⟨g2, k2 + t * 2 + 1, none⟩ = some (.int .i64 y)) mixed ⟨p0, p1, p2, p3⟩ (fun hHeld => ?_)
      refine pickA (v := ?_) 0 (some 17) rfl rfl (by kernel_rfl) (by kernel_rfl) (by kernel_rfl) (by decide) (fun _ _ _ h => h) (by rfl) ?_ (by assumption) ?_
      rotate_left
      · intro w'
        go_simp
        try with_reducible rfl
      try simp only [Act.put, List.setIfInBounds_toArray, List.set_cons_zero, List.set_cons_succ]
      refine pickA (v := ?_) 1 (some 18) rfl rfl (by kernel_rfl) (by kernel_rfl) (by kernel_rfl) (by decide) (fun _ _ _ h => h) (by rfl) ?_ (by assumption) ?_
      rotate_left
      · intro w'
        go_simp
        try with_reducible rfl
      try simp only [Act.put, List.setIfInBounds_toArray, List.set_cons_zero, List.set_cons_succ]
      refine pickA (v := ?_) 2 (some 19) rfl rfl (by kernel_rfl) (by kernel_rfl) (by kernel_rfl) (by decide) (fun _ _ _ h => h) (by rfl) ?_ (by assumption) ?_
      rotate_left
      · intro w'
        go_simp
        try with_reducible rfl
      try simp only [Act.put, List.setIfInBounds_toArray, List.set_cons_zero, List.set_cons_succ]
      refine pickL (v := ?_) 3 (some 20) rfl rfl (by kernel_rfl) (by kernel_rfl) (by kernel_rfl) (by decide) (by kernel_rfl) (by kernel_rfl) (fun _ _ _ h => h) (by rfl) ?_ (by assumption) ?_
      rotate_left
      · intro w' hSw
        obtain ⟨q0, q1, q2, q3⟩ := hSw
        go_simp
        try with_reducible rfl
      try simp only [Act.put, List.setIfInBounds_toArray, List.set_cons_zero, List.set_cons_succ]
      refine pickA (v := ?_) 4 (some 21) rfl rfl (by kernel_rfl) (by kernel_rfl) (by kernel_rfl) (by decide) (fun _ _ _ h => h) (by rfl) ?_ (by assumption) ?_
      rotate_left
      · intro w'
        go_simp
        try with_reducible rfl
      try simp only [Act.put, List.setIfInBounds_toArray, List.set_cons_zero, List.set_cons_succ]
      refine pickA (v := ?_) 5 (some 22) rfl rfl (by kernel_rfl) (by kernel_rfl) (by kernel_rfl) (by decide) (fun _ _ _ h => h) (by rfl) ?_ (by assumption) ?_
      rotate_left
      · intro w'
        go_simp
        try with_reducible rfl
      try simp only [Act.put, List.setIfInBounds_toArray, List.set_cons_zero, List.set_cons_succ]
      refine pickA (v := ?_) 6 (some 23) rfl rfl (by kernel_rfl) (by kernel_rfl) (by kernel_rfl) (by decide) (fun _ _ _ h => h) (by rfl) ?_ (by assumption) ?_
      rotate_left
      · intro w'
        go_simp
        try with_reducible rfl
      try simp only [Act.put, List.setIfInBounds_toArray, List.set_cons_zero, List.set_cons_succ]
      refine pickL (v := ?_) 7 (some 24) rfl rfl (by kernel_rfl) (by kernel_rfl) (by kernel_rfl) (by decide) (by kernel_rfl) (by kernel_rfl) (fun _ _ _ h => h) (by rfl) ?_ (by assumption) ?_
      rotate_left
      · intro w' hSw
        obtain ⟨q0, q1, q2, q3⟩ := hSw
        go_simp
        try with_reducible rfl
      try simp only [Act.put, List.setIfInBounds_toArray, List.set_cons_zero, List.set_cons_succ]
      refine pickA (v := .bool false) 8 (some 25) rfl rfl (by kernel_rfl) (by kernel_rfl) (by kernel_rfl) (by decide) (fun _ _ _ h => h) (by rfl) ?_ (by assumption) ?_
      · intro w'
        go_simp
      try simp only [Act.put, List.setIfInBounds_toArray, List.set_cons_zero, List.set_cons_succ]
      refine doneL (by kernel_rfl) ?_ _
      clear hHeld
      go_wp2
      exact ⟨⟨t + 1, by omega, by simp, HB.out.trans (((Below.refl _ wr).drew).mono HB.out.size)⟩, by simp [intOf]; omega⟩
    · go_wp2
      go_ret
      exact ⟨rfl, HB.out⟩

theorem plc_cases (p : Ow) (os : List Ow) : (∃ P : Nat, plc p os = (P : Int) ∧ P < os.length ∧ os[P]? = some p) ∨ (plc p os = -1 ∧ p ∉ os) := by
  unfold plc
  by_cases h : p ∈ os
  · rw [if_pos h]
    have h1 := List.idxOf_lt_length_iff.2 h
    exact Or.inl ⟨_, rfl, h1, by rw [List.getElem?_eq_getElem h1, List.getElem_idxOf h1]⟩
  · rw [if_neg h]
    exact Or.inr ⟨rfl, h⟩

/-- An act that lies there. -/
structure OpAt (w : World) (g o : Nat) (kd a p : Int) : Prop where
  c0 : w.cell? ⟨g, o, none⟩ = some (.int .i64 kd)
  c1 : w.cell? ⟨g, o + 1, none⟩ = some (.int .i64 a)
  c2 : w.cell? ⟨g, o + 2, none⟩ = some (.int .i64 p)
/-- A script. -/
def Scr (w : World) (a : Option Addr) (len : Nat) : Prop := len = 0 ∨ ∃ g o, a = some ⟨g, o, none⟩ ∧ ∀ j, j < len → ∃ kd x y, OpAt w g (o + j * 3) kd x y
theorem OpAt.below {w w' : World} {g o : Nat} {kd a p : Int} (h : OpAt w g o kd a p) (hb : Below w.heap.size w w') : OpAt w' g o kd a p :=
  ⟨(hb.cell (lt_of_cell h.c0)).trans h.c0, (hb.cell (lt_of_cell h.c1)).trans h.c1, (hb.cell (lt_of_cell h.c2)).trans h.c2⟩

end Go.Proofs.Ytapknlmplhjfeaa
