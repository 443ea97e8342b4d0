/- The document's lock: in memory; place. -/
import Derived.Test.YtapknlmplhjfeaaLK
namespace Go.Proofs.Ytapknlmplhjfeaa
open Go.RowKit Go.Maps

section
variable {P : Program} {md : Region.Mode} {ops : Array Oper} {Q : Exit → Act → World → Prop} {S : World → Prop} {t : Nat}
/-- Two may come up. -/
theorem twoL {i j : Nat} {oi oj : Oper} {fuel : Nat} {listed : Array Bool} {a : Act} {w : World} (hr : Region.ready md ops listed = [i, j]) (hi : ops[i]? = some oi) (hj : ops[j]? = some oj)
    (h1 : ∀ K' : Act → World → Prop, Shut (∀ a w, S w → wpAnyL P md ops Q S t fuel (listed.setIfInBounds i true) a w → K' a w) → if Region.wanted oi (yielded ops a.tmps) = true then Oper.wp P oi a w K' Q else K' (a.put oi.dst undef) w)
    (h2 : ∀ K' : Act → World → Prop, Shut (∀ a w, S w → wpAnyL P md ops Q S t fuel (listed.setIfInBounds j true) a w → K' a w) → if Region.wanted oj (yielded ops a.tmps) = true then Oper.wp P oj a w K' Q else K' (a.put oj.dst undef) w) :
    wpAnyL P md ops Q S t (fuel + 1) listed a w := by
  refine ⟨fun h0 => (by rw [hr] at h0; cases h0), fun k hk => ?_⟩
  rw [hr] at hk
  simp only [List.mem_cons, List.not_mem_nil, or_false] at hk
  rcases hk with rfl | rfl
  · exact wpOp_step hi (fun K' hK => h1 K' (fun a w hS hW => hK a w ⟨fun _ => hS, hW⟩))
  · exact wpOp_step hj (fun K' hK => h2 K' (fun a w hS hW => hK a w ⟨fun _ => hS, hW⟩))
end

/-- Block b is the document's lock. -/
structure RS (w : World) (b : Nat) (v : Value) (os : List Ow) : Prop where
  blk : IsB w b #[.bool (decide (0 < os.length)), .int .i64 (hd os).1, .int .i64 (hd os).2, v] 30
  row : Rw w 27 2 v os.tail.length (ows os.tail)
  len : os.length ≤ 65
theorem RS.below {w w' : World} {b : Nat} {v : Value} {os : List Ow} (h : RS w b v os) (hb : Below w.heap.size w w') : RS w' b v os := ⟨h.blk.below hb, h.row.below hb, h.len⟩
theorem RS.apart {w : World} {b : Nat} {v : Value} {os : List Ow} (h : RS w b v os) : ∀ k, v.ownBlock = some k → k ≠ b := by
  intro k hk e
  obtain ⟨-, cur, hc⟩ := h.row.lt k hk
  have h1 := h.blk
  unfold IsB at h1
  rw [e, h1] at hc
  injection hc with hc
  injection hc with _ hc
  cases hc
theorem RS.nat {w : World} {b : Nat} {v : Value} {os : List Ow} (h : RS w b v os) : ∃ va vc, v = .slice va os.tail.length vc := by
  obtain ⟨va, vc, hv, -, -⟩ := h.row.shape
  exact ⟨va, vc, hv⟩
/-- What a call makes of it. -/
structure Rx (w w' : World) (b : Nat) (v v' : Value) (os' : List Ow) : Prop where
  rs : RS w' b v' os'
  kp : Kp [b] w w'
  at_ : ∀ q, v'.ownBlock = some q → v.ownBlock = some q ∨ w.heap.size ≤ q
theorem Rx.bel {w w1 w2 : World} {b : Nat} {v v1 : Value} {os1 : List Ow} (h : Rx w w1 b v v1 os1) (hb : Below w1.heap.size w1 w2) : Rx w w2 b v v1 os1 := ⟨h.rs.below hb, h.kp.bel hb, h.at_⟩
theorem Rx.trans {w w1 w2 : World} {b : Nat} {v v1 v2 : Value} {os1 os2 : List Ow} (h : Rx w w1 b v v1 os1) (g : Rx w1 w2 b v1 v2 os2) : Rx w w2 b v v2 os2 := ⟨g.rs, h.kp.trans g.kp (by simp), fun q hq => by
  rcases g.at_ q hq with h1 | h1
  · exact h.at_ q h1
  · exact Or.inr (Nat.le_trans h.kp.size h1)⟩
theorem RS.rx {w w' : World} {b : Nat} {v : Value} {os : List Ow} (h : RS w b v os) (hb : Below w.heap.size w w') : Rx w w' b v v os := ⟨h.below hb, Kp.of_below hb, fun _ hq => Or.inl hq⟩

set_option maxHeartbeats 4000000 in
set_option maxRecDepth 100000 in
theorem rplace_any (b : Nat) (v : Value) (os : List Ow) (a o : Int) (w : World) (h : RS w b v os) :
    Calls Try.prog 40 #[.pointer (some ⟨b, 0, none⟩), .agg #[.int .i64 a, .int .i64 o]] w fun e w' => e = .returned (.int .i64 (plc (a, o) os.tail)) ∧ Below w.heap.size w w' := by
  have mixed : Try.prog.follows .mixedOrders = true := by kernel_rfl
  obtain ⟨va, vc, rfl⟩ := h.nat
  have hlen : os.tail.length ≤ 65 := by rw [List.length_tail]; have := h.len; omega
  have bel := (Below.refl w.heap.size w).alloc (Nat.le_refl _) (.cells #[.int .i64 a, .int .i64 o] 27)
  have I := hide (IsB.new w #[.int .i64 a, .int .i64 o] 27)
  have hBlk := hide (h.blk.below bel)
  have hRow := hide (h.row.sl.below bel)
  have HB1 := hide bel
  clear h bel
  generalize os.tail = l at *
  generalize hn : l.length = n at *
  replace hn := hide hn
  go_enter Try.func40, Try.ntmps40
  go_wp2
  generalize w.alloc (.cells #[.int .i64 a, .int .i64 o] 27) = W1 at *
  generalize hH : w.heap.size = H at I ⊢
  have HZ : Hid (w.heap.size ≤ W1.heap.size) := HB1.out.size
  replace hH := hide hH
  go_loopw [5] (fun i wr => ∃ j : Nat, j ≤ n ∧ i = .int .i64 (j : Int) ∧ Hid (Below W1.heap.size W1 wr) ∧ Hid (∀ q (_ : q < j) (hq : q < l.length), l[q] ≠ (a, o))) (fun i _ => n - (intOf i).toNat)
  case atStart => exact ⟨0, by omega, rfl, Below.refl _ _, fun q h _ => by omega⟩
  case round =>
    obtain ⟨j, hj, rfl, HB, HQ⟩ := hrel
    have b3 := (hBlk.out.below HB.out).cell 3
    simp at b3
    by_cases hlt : j < n
    · have hjl : j < l.length := by rw [hn.out]; exact hlt
      obtain ⟨g, k, c, ev, -, -, h2, h3⟩ := (hRow.out.below HB.out).cells j hjl
      injection ev with ev el ec
      clear el
      subst ev ec
      have h0 := (I.out.below HB.out).cell 0
      have h1 := (I.out.below HB.out).cell 1
      simp at h0 h1
      have HX : Hid (l[j] = (l[j].1, l[j].2)) := rfl
      generalize l[j].1 = x at h2 HX
      generalize l[j].2 = y at h3 HX
      by_cases hxy : x = a ∧ y = o
      · replace hxy := hide hxy
        have hE : Hid (plc (a, o) l = (j : Int)) := plc_at hjl (by rw [HX.out, hxy.out.1, hxy.out.2]) HQ.out
        go_wp2
        refine regionL 9 (fun w' => w'.cell? ⟨b, 3, none⟩ = some (.slice (some ⟨g, k, none⟩) n vc) ∧ w'.cell? ⟨H, 0, none⟩ = some (.int .i64 a) ∧ w'.cell? ⟨H, 1, none⟩ = some (.int .i64 o) ∧ w'.cell? ⟨g, k + j * 2, none⟩ = some (.int .i64 x) ∧ w'.cell? ⟨g, k + j * 2 + 1, none⟩ = some (.int .i64 y)) mixed ⟨b3, h0, h1, h2, h3⟩ (fun hHeld => ?_)
        refine pickA (v := ?_) 0 (some 15) rfl rfl (by kernel_rfl) (by kernel_rfl) (by kernel_rfl) (by decide) (fun _ _ _ h => h) (by rfl) ?_ (by assumption) ?_
        rotate_left
        · intro w'
          go_simp
          try with_reducible rfl
        try simp only [Act.put, List.setIfInBounds_toArray, List.set_cons_zero, List.set_cons_succ]
        refine pickA (v := ?_) 1 (some 16) rfl rfl (by kernel_rfl) (by kernel_rfl) (by kernel_rfl) (by decide) (fun _ _ _ h => h) (by rfl) ?_ (by assumption) ?_
        rotate_left
        · intro w'
          go_simp
          try with_reducible rfl
        try simp only [Act.put, List.setIfInBounds_toArray, List.set_cons_zero, List.set_cons_succ]
        refine pickA (v := ?_) 2 (some 17) rfl rfl (by kernel_rfl) (by kernel_rfl) (by kernel_rfl) (by decide) (fun _ _ _ h => h) (by rfl) ?_ (by assumption) ?_
        rotate_left
        · intro w'
          go_simp
          try with_reducible rfl
        try simp only [Act.put, List.setIfInBounds_toArray, List.set_cons_zero, List.set_cons_succ]
        refine pickL (v := ?_) 3 (some 18) rfl rfl (by kernel_rfl) (by kernel_rfl) (by kernel_rfl) (by decide) (by kernel_rfl) (by kernel_rfl) (fun _ _ _ h => h) (by rfl) ?_ (by assumption) ?_
        rotate_left
        · intro w' hSw
          obtain ⟨q0, q1, q2, q3, q4⟩ := hSw
          go_simp
          try with_reducible rfl
        try simp only [Act.put, List.setIfInBounds_toArray, List.set_cons_zero, List.set_cons_succ]
        refine pickA (v := ?_) 4 (some 19) rfl rfl (by kernel_rfl) (by kernel_rfl) (by kernel_rfl) (by decide) (fun _ _ _ h => h) (by rfl) ?_ (by assumption) ?_
        rotate_left
        · intro w'
          go_simp
          try with_reducible rfl
        try simp only [Act.put, List.setIfInBounds_toArray, List.set_cons_zero, List.set_cons_succ]
        refine pickA (v := ?_) 5 (some 20) rfl rfl (by kernel_rfl) (by kernel_rfl) (by kernel_rfl) (by decide) (fun _ _ _ h => h) (by rfl) ?_ (by assumption) ?_
        rotate_left
        · intro w'
          go_simp
          try with_reducible rfl
        try simp only [Act.put, List.setIfInBounds_toArray, List.set_cons_zero, List.set_cons_succ]
        refine pickL (v := ?_) 6 (some 21) rfl rfl (by kernel_rfl) (by kernel_rfl) (by kernel_rfl) (by decide) (by kernel_rfl) (by kernel_rfl) (fun _ _ _ h => h) (by rfl) ?_ (by assumption) ?_
        rotate_left
        · intro w' hSw
          obtain ⟨q0, q1, q2, q3, q4⟩ := hSw
          go_simp
          try with_reducible rfl
        try simp only [Act.put, List.setIfInBounds_toArray, List.set_cons_zero, List.set_cons_succ]
        refine pickL (v := ?_) 7 (some 22) rfl rfl (by kernel_rfl) (by kernel_rfl) (by kernel_rfl) (by decide) (by kernel_rfl) (by kernel_rfl) (fun _ _ _ h => h) (by rfl) ?_ (by assumption) ?_
        rotate_left
        · intro w' hSw
          obtain ⟨q0, q1, q2, q3, q4⟩ := hSw
          go_simp
          try with_reducible rfl
        try simp only [Act.put, List.setIfInBounds_toArray, List.set_cons_zero, List.set_cons_succ]
        refine pickA (v := .bool true) 8 (some 23) rfl rfl (by kernel_rfl) (by kernel_rfl) (by kernel_rfl) (by decide) (fun _ _ _ h => h) (by rfl) ?_ (by assumption) ?_
        · intro w'
          go_simp
          simp [hxy.out.1, hxy.out.2]
        try simp only [Act.put, List.setIfInBounds_toArray, List.set_cons_zero, List.set_cons_succ]
        refine doneL (by kernel_rfl) ?_ _
        clear hHeld
        go_wp2
        go_ret
        exact ⟨by rw [hE.out]; rfl, HB1.out.trans (((HB.out.trans (((Below.refl _ wr).drew).mono HB.out.size))).mono HZ.out)⟩
      · replace hxy : Hid (x = a → ¬y = o) := fun h1 h2 => hxy ⟨h1, h2⟩
        have HQ2 : Hid (∀ q (_ : q < j + 1) (hq : q < l.length), l[q] ≠ (a, o)) := fun q h1 h2 => by
          by_cases e : q = j
          · subst e
            intro he
            rw [HX.out] at he
            injection he with e1 e2
            exact hxy.out e1 e2
          · exact HQ.out q (by omega) h2
        go_wp2
        refine regionL 9 (fun w' => w'.cell? ⟨b, 3, none⟩ = some (.slice (some ⟨g, k, none⟩) n vc) ∧ w'.cell? ⟨H, 0, none⟩ = some (.int .i64 a) ∧ w'.cell? ⟨H, 1, none⟩ = some (.int .i64 o) ∧ w'.cell? ⟨g, k + j * 2, none⟩ = some (.int .i64 x) ∧ w'.cell? ⟨g, k + j * 2 + 1, none⟩ = some (.int .i64 y)) mixed ⟨b3, h0, h1, h2, h3⟩ (fun hHeld => ?_)
        refine pickA (v := ?_) 0 (some 15) rfl rfl (by kernel_rfl) (by kernel_rfl) (by kernel_rfl) (by decide) (fun _ _ _ h => h) (by rfl) ?_ (by assumption) ?_
        rotate_left
        · intro w'
          go_simp
          try with_reducible rfl
        try simp only [Act.put, List.setIfInBounds_toArray, List.set_cons_zero, List.set_cons_succ]
        refine pickA (v := ?_) 1 (some 16) rfl rfl (by kernel_rfl) (by kernel_rfl) (by kernel_rfl) (by decide) (fun _ _ _ h => h) (by rfl) ?_ (by assumption) ?_
        rotate_left
        · intro w'
          go_simp
          try with_reducible rfl
        try simp only [Act.put, List.setIfInBounds_toArray, List.set_cons_zero, List.set_cons_succ]
        refine pickA (v := ?_) 2 (some 17) rfl rfl (by kernel_rfl) (by kernel_rfl) (by kernel_rfl) (by decide) (fun _ _ _ h => h) (by rfl) ?_ (by assumption) ?_
        rotate_left
        · intro w'
          go_simp
          try with_reducible rfl
        try simp only [Act.put, List.setIfInBounds_toArray, List.set_cons_zero, List.set_cons_succ]
        refine pickL (v := ?_) 3 (some 18) rfl rfl (by kernel_rfl) (by kernel_rfl) (by kernel_rfl) (by decide) (by kernel_rfl) (by kernel_rfl) (fun _ _ _ h => h) (by rfl) ?_ (by assumption) ?_
        rotate_left
        · intro w' hSw
          obtain ⟨q0, q1, q2, q3, q4⟩ := hSw
          go_simp
          try with_reducible rfl
        try simp only [Act.put, List.setIfInBounds_toArray, List.set_cons_zero, List.set_cons_succ]
        refine pickA (v := ?_) 4 (some 19) rfl rfl (by kernel_rfl) (by kernel_rfl) (by kernel_rfl) (by decide) (fun _ _ _ h => h) (by rfl) ?_ (by assumption) ?_
        rotate_left
        · intro w'
          go_simp
          try with_reducible rfl
        try simp only [Act.put, List.setIfInBounds_toArray, List.set_cons_zero, List.set_cons_succ]
        refine pickA (v := ?_) 5 (some 20) rfl rfl (by kernel_rfl) (by kernel_rfl) (by kernel_rfl) (by decide) (fun _ _ _ h => h) (by rfl) ?_ (by assumption) ?_
        rotate_left
        · intro w'
          go_simp
          try with_reducible rfl
        try simp only [Act.put, List.setIfInBounds_toArray, List.set_cons_zero, List.set_cons_succ]
        refine pickL (v := ?_) 6 (some 21) rfl rfl (by kernel_rfl) (by kernel_rfl) (by kernel_rfl) (by decide) (by kernel_rfl) (by kernel_rfl) (fun _ _ _ h => h) (by rfl) ?_ (by assumption) ?_
        rotate_left
        · intro w' hSw
          obtain ⟨q0, q1, q2, q3, q4⟩ := hSw
          go_simp
          try with_reducible rfl
        try simp only [Act.put, List.setIfInBounds_toArray, List.set_cons_zero, List.set_cons_succ]
        refine pickL (v := ?_) 7 (some 22) rfl rfl (by kernel_rfl) (by kernel_rfl) (by kernel_rfl) (by decide) (by kernel_rfl) (by kernel_rfl) (fun _ _ _ h => h) (by rfl) ?_ (by assumption) ?_
        rotate_left
        · intro w' hSw
          obtain ⟨q0, q1, q2, q3, q4⟩ := hSw
          go_simp
          try with_reducible rfl
        try simp only [Act.put, List.setIfInBounds_toArray, List.set_cons_zero, List.set_cons_succ]
        refine pickA (v := .bool false) 8 (some 23) rfl rfl (by kernel_rfl) (by kernel_rfl) (by kernel_rfl) (by decide) (fun _ _ _ h => h) (by rfl) ?_ (by assumption) ?_
        · intro w'
          go_simp
          exact hxy.out
        try simp only [Act.put, List.setIfInBounds_toArray, List.set_cons_zero, List.set_cons_succ]
        refine doneL (by kernel_rfl) ?_ _
        clear hHeld
        go_wp2
        exact ⟨⟨j + 1, by omega, by simp, HB.out.trans (((Below.refl _ wr).drew).mono HB.out.size), HQ2⟩, by simp [intOf]; omega⟩
    · have hE : Hid (plc (a, o) l = -1) := plc_no fun q hq => HQ.out q (by rw [hn.out] at hq; omega) hq
      go_wp2
      go_ret
      exact ⟨by rw [hE.out]; rfl, HB1.out.trans (HB.out.mono HZ.out)⟩

end Go.Proofs.Ytapknlmplhjfeaa
